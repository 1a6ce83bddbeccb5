import PyProof.Rows.All
import Wide.All
import OpenK.AllK
import Wide.FinOn
import KE.KeyNested
import KE.KDictKeyed
import PyProof.DictRoadsH
import PyProof.DictMoreH
import HandS.ForMost
import HandS.Deep
import HandS.Comp
import HandS.DictComp
import KE.GoesEnum
import HandS.Iter
import HandS.Walk
import KE.KStateDown
import Lean
import HandS.Exc
import HandS.ExcInit
import HandS.ExcField
import HandS.ExcIs
import HandS.IsInst
import HandS.TupAny
import HandS.Style
import HandS.WordsExc
import HandS.Defaults
import HandS.Head0
import HandS.Head1
import HandS.Head2
import HandS.HeadEnd
import HandS.HeadHook1
import HandS.HeadHook2
import HandS.HeadHook3
import HandS.HeadHook4
import HandS.Lambda
import HandS.SortKw
import HandS.NestedK
import KE.KExcIs
import HandS.Codes
import KE.SortKeyHeap
import KE.KDictCopyH
import KE.KDictSum
import HandS.ExcValue
import HandS.Flow
import HandS.EndTab
import PyProof.ReprBulk
import HandS.TryMany
import KE.GoesEnumKw
import PyProof.Rows.CallKwBuiltin
import HandS.FltList
import HandS.Text
import HandS.SetKeys
import HandS.TupMul
import HandS.More
import HandS.Conv
import HandS.HotCalls
import HandS.ExcInitHot
import HandS.TupSets
import HandS.Small
import HandS.Wide
import HandS.WideBits
import HandS.Zip
import PySem.Challenge.RW_tilesregrow_k23_whole_rows_of_numbers
set_option Elab.async false
set_option linter.all false
set_option maxRecDepth 100000
set_option maxHeartbeats 4000000
/-! dicts whose keys are data of every kind beside each other: None, bools, whole numbers, texts, tuples of these -/
namespace AK
open PySem PySem.SeqAt PyProof.Rows
/-- an entry: the key, the value that is it, what is stored -/
abbrev En := NestedKey × Value × Value
def ent (w : World) (e : En) : DictEntry := ⟨e.1.hash w, e.2.1, e.2.2⟩
/-- at d: a dict of these entries, in order -/
structure DkOf (w : World) (h : Heap) (d : Addr) (es : List En) : Prop where
  ex : ∃ o arr ep, h.get? d = some o ∧ o.ExactDict ∧ o.data = .dict arr ep ∧ arr.toList = es.map (ent w)
  is : ∀ e ∈ es, NestedIs h e.1 e.2.1 ∧ e.1.depth ≤ 8
  nd : (es.map (·.1)).Nodup
theorem uniq {es : List En} (nd : (es.map (·.1)).Nodup) {i j : Nat} {e f : En} (hi : es[i]? = some e) (hj : es[j]? = some f) (h : e.1 = f.1) : i = j := by
  have li : i < (es.map (·.1)).length := by
    rw [List.length_map]
    exact (List.getElem?_eq_some_iff.mp hi).1
  refine (List.getElem?_inj li nd).mp ?_
  rw [List.getElem?_map, List.getElem?_map, hi, hj]
  exact congrArg some h
section
variable {prog : Program} {w : World} {A : Around} {E : Value → Shared → Prop} {s : Shared}
/-- asked of each stored key, == tells nothing -/
theorem no_tell {u : Value} {k : NestedKey} {st : List Value} {Q : Bool → Shared → Prop} (hk : NestedIs s.heap k u) (kd : k.depth ≤ 8) (hs : ∀ v ∈ st, ∃ j : NestedKey, NestedIs s.heap j v ∧ j.depth ≤ 8) (q : Q false s) :
    wpAny (model prog w) A (tableMayTell u st) Q E s := by
  unfold tableMayTell
  by_cases h0 : st.isEmpty = true
  · rw [if_pos h0]
    exact wpAny_pure q
  · rw [if_neg h0]
    refine wpAny_bind (quiet_key k u 8 s hk kd _ _ _ ?_)
    rw [if_neg (by decide)]
    refine wpAny_bind (wpAny_forIn_list _ (fun left r s' => s' = s ∧ r = (none, ()) ∧ ∀ v ∈ left, v ∈ st) _ ?_ ?_ _ _ ⟨rfl, rfl, fun v hv => hv⟩)
    · rintro v left r s' ⟨rfl, rfl, all⟩
      obtain ⟨j, hj, jd⟩ := hs v (all v List.mem_cons_self)
      refine wpAny_bind (quiet_key j v 8 _ hj jd _ _ _ ?_)
      rw [if_neg (by decide)]
      exact wpAny_pure ⟨rfl, rfl, fun v hv => all v (List.mem_cons_of_mem _ hv)⟩
    · rintro r s' ⟨rfl, rfl, _⟩
      exact wpAny_pure q
end
end AK

set_option Elab.async false
set_option linter.all false
set_option maxRecDepth 100000
set_option maxHeartbeats 4000000
namespace AK
open PySem PySem.SeqAt PyProof.Rows
section
variable {prog : Program} {w : World} {A : Around} {E : Value → Shared → Prop} {s : Shared} {arr : Array DictEntry} {es : List En} {k : NestedKey} {u : Value}
theorem ent_at (he : arr.toList = es.map (ent w)) (j : Nat) : arr[j]? = (es[j]?).map (ent w) := by
  rw [← Array.getElem?_toList, he, List.getElem?_map]
theorem ent_size (he : arr.toList = es.map (ent w)) : arr.size = es.length := by
  have z := congrArg List.length he
  rw [Array.length_toList, List.length_map] at z
  exact z
/-- the places that are looked at -/
abbrev spots (w : World) (arr : Array DictEntry) (k : NestedKey) : List Nat := placesWithHash arr.size (fun i => arr[i]?.map (·.hash)) (k.hash w)
theorem spots_nd : (spots w arr k).Nodup := (List.nodup_range).sublist List.filter_sublist
theorem spots_is (he : arr.toList = es.map (ent w)) {i : Nat} (h : i ∈ spots w arr k) : ∃ e, es[i]? = some e ∧ e.1.hash w = k.hash w := by
  have z := (List.mem_filter.mp h).2
  dsimp only at z
  rw [ent_at he] at z
  cases q : es[i]? with
  | none =>
    rw [q] at z
    cases z
  | some e =>
    rw [q] at z
    exact ⟨e, rfl, Option.some.inj (beq_iff_eq.mp z)⟩
theorem spots_has (he : arr.toList = es.map (ent w)) {j : Nat} {e : En} (h : es[j]? = some e) (hk : e.1 = k) : j ∈ spots w arr k := by
  have lj := (List.getElem?_eq_some_iff.mp h).1
  refine List.mem_filter.mpr ⟨List.mem_range.mpr (by rw [ent_size he]; exact lj), ?_⟩
  dsimp only
  rw [ent_at he, h]
  subst hk
  exact beq_self_eq_true _
/-- what == of a stored key and the asked one says -/
theorem ask {e : En} {Q : Bool → Shared → Prop} (hu : A.units + 8 < cLine) (h1 : NestedIs s.heap e.1 e.2.1) (hk : NestedIs s.heap k u) (kd : k.depth ≤ 8) (q : Q (decide (e.1 = k)) s) : wpAny (model prog w) A (eqBool e.2.1 u) Q E s := by
  refine eqAt_key e.1 k A s e.2.1 u h1 hk ?_ _ _ _ _ ?_
  · have : min e.1.depth k.depth ≤ k.depth := Nat.min_le_right _ _
    omega
  · rw [← NestedKey.decide_eq]
    exact q
/-- the first of the places whose key it is -/
def hitIn (es : List En) (k : NestedKey) (l : List Nat) : Option Nat := l.find? fun i => match es[i]? with
  | some e => decide (e.1 = k)
  | none => false
theorem hit_snoc {l : List Nat} {i : Nat} {e : En} (he : es[i]? = some e) : hitIn es k (l ++ [i]) = (hitIn es k l).or (if decide (e.1 = k) = true then some i else none) := by
  unfold hitIn
  rw [List.find?_append, List.find?_cons, he]
  by_cases h : e.1 = k
  · simp [h]
  · simp [h]
theorem hit_some {l : List Nat} {j : Nat} (h : hitIn es k l = some j) : j ∈ l ∧ ∃ e, es[j]? = some e ∧ e.1 = k := by
  have m := List.mem_of_find?_eq_some h
  have p := List.find?_some h
  refine ⟨m, ?_⟩
  cases q : es[j]? with
  | none =>
    rw [q] at p
    cases p
  | some e =>
    rw [q] at p
    exact ⟨e, rfl, of_decide_eq_true p⟩
theorem hit_none {l : List Nat} (h : hitIn es k l = none) {j : Nat} (hj : j ∈ l) {e : En} (he : es[j]? = some e) : e.1 ≠ k := by
  have z := List.find?_eq_none.mp h j hj
  rw [he] at z
  exact fun q => z (decide_eq_true q)
/-- behind the places: what was found is what there is -/
theorem hit_end {Q : Option Nat → Shared → Prop} (he : arr.toList = es.map (ent w)) (no : (∀ e ∈ es, e.1 ≠ k) → Q none s) (yes : ∀ j e, es[j]? = some e → e.1 = k → Q (some j) s) : Q (hitIn es k (spots w arr k)) s := by
  cases h : hitIn es k (spots w arr k) with
  | some j =>
    obtain ⟨_, e, h1, h2⟩ := hit_some h
    exact yes j e h1 h2
  | none =>
    refine no fun e hm hk => ?_
    obtain ⟨j, hj⟩ := List.mem_iff_getElem?.mp hm
    exact hit_none h (spots_has he hj hk) hj hk
/-- the plain walk -/
theorem plain_walk {d : Addr} {o : Obj} {ep : Nat} {Q : Option Nat → Shared → Prop} (hu : A.units + 8 < cLine) (hk : NestedIs s.heap k u) (kd : k.depth ≤ 8) (ho : s.heap.get? d = some o) (hd : o.data = .dict arr ep) (he : arr.toList = es.map (ent w))
    (his : ∀ e ∈ es, NestedIs s.heap e.1 e.2.1 ∧ e.1.depth ≤ 8) (nd : (es.map (·.1)).Nodup) (no : (∀ e ∈ es, e.1 ≠ k) → Q none s) (yes : ∀ j e, es[j]? = some e → e.1 = k → Q (some j) s) :
    wpAny (model prog w) A (dictWalkPlain d u (k.hash w) arr (spots w arr k)) Q E s := by
  unfold dictWalkPlain
  refine wpAny_bind (wpAny_forIn_list _ (fun left r s' => s' = s ∧ r = (none, ()) ∧ ∃ done, spots w arr k = done ++ left ∧ hitIn es k done = none) _ ?_ ?_ _ _ ⟨rfl, rfl, [], rfl, rfl⟩)
  · rintro i left r s' ⟨rfl, rfl, done, split, miss⟩
    have hi : i ∈ spots w arr k := by
      rw [split]
      exact List.mem_append_right _ List.mem_cons_self
    obtain ⟨e, ei, eh⟩ := spots_is he hi
    have isE := (his e (List.mem_of_getElem? ei)).1
    rw [show arr[i]? = some (ent w e) by rw [ent_at he, ei] <;> rfl]
    dsimp only
    rw [if_pos (show ((ent w e).hash == k.hash w) = true from beq_iff_eq.mpr eh)]
    refine wpAny_bind (wpAny_dictEpoch ho hd (wpAny_bind (ask (e := e) hu isE hk kd (wpAny_bind (wpAny_dictEpoch ho hd ?_)))))
    rw [if_neg (show ¬ (ep != ep) = true by simp)]
    by_cases hh : e.1 = k
    · rw [decide_eq_true hh]
      exact wpAny_bind (wpAny_rule (wpAny_pure (wpAny_pure (yes i e ei hh))))
    · rw [decide_eq_false hh]
      have more : hitIn es k (done ++ [i]) = none := by
        rw [hit_snoc ei, miss, decide_eq_false hh]
        rfl
      have cut : spots w arr k = (done ++ [i]) ++ left := by
        rw [split, List.append_assoc]
        rfl
      first
        | exact wpAny_bind (wpAny_rule (wpAny_pure ⟨rfl, rfl, done ++ [i], cut, more⟩))
        | exact wpAny_bind (wpAny_pure (wpAny_bind (wpAny_rule (wpAny_pure ⟨rfl, rfl, done ++ [i], cut, more⟩))))
  · rintro r s' ⟨rfl, rfl, done, split, miss⟩
    have all := hit_end (w := w) (arr := arr) he no yes
    rw [split, List.append_nil, miss] at all
    exact wpAny_pure all
/-- dict's own look-up, by keys of every kind -/
theorem find_any {d : Addr} {o : Obj} {ep : Nat} {Q : Option Nat → Shared → Prop} (hu : A.units + 8 < cLine) (hk : NestedIs s.heap k u) (kd : k.depth ≤ 8) (ho : s.heap.get? d = some o) (hd : o.data = .dict arr ep) (he : arr.toList = es.map (ent w))
    (his : ∀ e ∈ es, NestedIs s.heap e.1 e.2.1 ∧ e.1.depth ≤ 8) (nd : (es.map (·.1)).Nodup) (no : (∀ e ∈ es, e.1 ≠ k) → Q none s) (yes : ∀ j e, es[j]? = some e → e.1 = k → Q (some j) s) :
    wpAny (model prog w) A (dictFind d u (k.hash w)) Q E s := by
  have own : ∀ e ∈ arr, ∃ x ∈ es, e = ent w x := fun e hin => by
    have z : e ∈ es.map (ent w) := he ▸ Array.mem_toList_iff.mpr hin
    obtain ⟨x, hx, rfl⟩ := List.mem_map.mp z
    exact ⟨x, hx, rfl⟩
  have kept : ∀ v ∈ (spots w arr k).filterMap (fun i => arr[i]?.map (·.key)), ∃ j : NestedKey, NestedIs s.heap j v ∧ j.depth ≤ 8 := fun v hv => by
    obtain ⟨i, hi, e1⟩ := List.mem_filterMap.mp hv
    obtain ⟨x, ex, _⟩ := spots_is he hi
    rw [ent_at he, ex] at e1
    have e2 : x.2.1 = v := Option.some.inj e1
    rw [← e2]
    exact ⟨x.1, his x (List.mem_of_getElem? ex)⟩
  have sameHash : ∀ a, u = .ref a → ¬ (arr.any fun e => e.key == Value.ref a && e.hash != k.hash w) = true := fun a hua => by
    rw [← Array.any_toList, List.any_eq_true]
    rintro ⟨e, hin, hc⟩
    obtain ⟨x, hx, rfl⟩ := own e (Array.mem_toList_iff.mp hin)
    obtain ⟨c1, c2⟩ := Bool.and_eq_true_iff.mp hc
    have c3 : x.2.1 = Value.ref a := beq_iff_eq.mp c1
    have z := (his x hx).1
    rw [c3, ← hua] at z
    have c4 : (x.1.hash w != k.hash w) = true := c2
    rw [NestedIs.inj _ _ _ z hk] at c4
    simp at c4
  unfold dictFind
  refine wpAny_holding (wpAny_bind (wpAny_dictEntries ho hd ?_))
  have shape : u = .none ∨ (∃ b, u = .bool b) ∨ (∃ i t, u = .int i t) ∨ (∃ a, u = .ref a) ∨ ∃ x t, u = .str x t := by
    cases hk with
    | none => exact .inl rfl
    | bool _ => exact .inr (.inl ⟨_, rfl⟩)
    | int i t => exact .inr (.inr (.inl ⟨i, t, rfl⟩))
    | tup _ _ _ _ => exact .inr (.inr (.inr (.inl ⟨_, rfl⟩)))
    | text x t => exact .inr (.inr (.inr (.inr ⟨x, t, rfl⟩)))
  have quick : ∀ x t, u = .str x t → (arr.all fun e => isExactStrKey e.key) = true → wpAny (model prog w) A (foundByValue d u arr x) Q E s := fun x t hux hall => by
    have kx : k = .text x := by
      rw [hux] at hk
      cases hk
      rfl
    have texts : ∀ (j : Nat) (e : En), es[j]? = some e → ∃ (y : Str) (t' : Tok), e.1 = NestedKey.text y ∧ e.2.1 = Value.str y t' := fun j e ej => by
      have hm : ent w e ∈ arr := by
        refine Array.mem_toList_iff.mp ?_
        rw [he]
        exact List.mem_map_of_mem (List.mem_of_getElem? ej)
      have z : isExactStrKey (ent w e).key = true := by
        rw [← Array.all_toList] at hall
        exact List.all_eq_true.mp hall _ (Array.mem_toList_iff.mpr hm)
      have ise := (his e (List.mem_of_getElem? ej)).1
      obtain ⟨k1, u1, v1⟩ := e
      cases ise with
      | text y t' => exact ⟨y, t', rfl, rfl⟩
      | none => cases z
      | bool _ => cases z
      | int _ _ => cases z
      | tup _ _ _ _ => cases z
    unfold foundByValue
    cases q : arr.findIdx? (fun e => e.key.isStr x) with
    | none =>
      refine wpAny_pure (no fun e hm hk1 => ?_)
      obtain ⟨j, ej⟩ := List.mem_iff_getElem?.mp hm
      obtain ⟨y, t', h1, h2⟩ := texts j e ej
      have hmem : ent w e ∈ arr := by
        refine Array.mem_toList_iff.mp ?_
        rw [he]
        exact List.mem_map_of_mem hm
      have z := Array.findIdx?_eq_none_iff.mp q (ent w e) hmem
      have ey : y = x := by
        rw [h1, kx] at hk1
        injection hk1
      have z2 : e.2.1.isStr x = false := z
      rw [h2, ey] at z2
      simp [Value.isStr] at z2
    | some i =>
      obtain ⟨li, hi1, _⟩ := Array.findIdx?_eq_some_iff_getElem.mp q
      have li2 : i < es.length := by
        rw [← ent_size he]
        exact li
      have ei : es[i]? = some es[i] := List.getElem?_eq_getElem li2
      obtain ⟨y, t', h1, h2⟩ := texts i _ ei
      have at1 : arr[i]? = some (ent w es[i]) := by
        rw [ent_at he, ei]
        rfl
      have g1 : arr[i] = ent w es[i] := by
        rw [Array.getElem?_eq_getElem li] at at1
        exact Option.some.inj at1
      have hk1 : es[i].1 = k := by
        rw [g1] at hi1
        have z2 : es[i].2.1.isStr x = true := hi1
        rw [h2] at z2
        rw [h1, kx]
        exact congrArg NestedKey.text (by simpa [Value.isStr] using z2)
      have isE := (his _ (List.mem_of_getElem? ei)).1
      dsimp only
      rw [at1]
      dsimp only
      refine wpAny_bind (wpAny_dictEpoch ho hd (wpAny_bind (ask (e := es[i]) hu isE hk kd (wpAny_bind (wpAny_dictEpoch ho hd ?_)))))
      rw [if_neg (show ¬ (ep != ep) = true by simp), decide_eq_true hk1]
      refine wpAny_bind (wpAny_rule ?_)
      exact wpAny_pure (yes i _ ei hk1)
  by_cases hv : (u :: (spots w arr k).filterMap (fun i => arr[i]?.map (·.key))).all carriedByValue = true
  · rcases shape with rfl | ⟨b, rfl⟩ | ⟨i, t, rfl⟩ | ⟨a, rfl⟩ | ⟨x, t, rfl⟩
    case inr.inr.inr.inr =>
      dsimp only
      by_cases hall : (arr.all fun e => isExactStrKey e.key) = true
      · rw [if_pos hall]
        exact quick x t rfl hall
      · rw [if_neg hall, if_pos hv]
        exact plain_walk hu hk kd ho hd he his nd no yes
    all_goals
      dsimp only
      rw [if_pos hv]
      exact plain_walk hu hk kd ho hd he his nd no yes
  · by_cases hone : ((spots w arr k).filterMap (fun i => arr[i]?.map (·.key)) == [u]) = true
    all_goals rcases shape with rfl | ⟨b, rfl⟩ | ⟨i, t, rfl⟩ | ⟨a, rfl⟩ | ⟨x, t, rfl⟩
    all_goals dsimp only
    case' pos.inr.inr.inr.inr | neg.inr.inr.inr.inr =>
      by_cases hall : (arr.all fun e => isExactStrKey e.key) = true
      · rw [if_pos hall]
        exact quick x t rfl hall
      rw [if_neg hall]
    all_goals rw [if_neg hv]
    case' pos.inr.inr.inr.inl | neg.inr.inr.inr.inl =>
      rw [if_neg (sameHash a rfl)]
    all_goals first | rw [if_pos hone] | rw [if_neg hone]
    all_goals first | refine wpAny_bind (wpAny_pure ?_) | refine wpAny_bind (no_tell hk kd kept ?_)
    all_goals rw [if_neg (by simp)]
    all_goals
      refine wpAny_bind (wpAny_forIn_list _ (fun left r s' => s' = s ∧ ∃ done, spots w arr k = done ++ left ∧ r = (none, hitIn es k done)) _ ?_ ?_ _ _ ⟨rfl, [], rfl, rfl⟩)
      · rintro i left r s' ⟨rfl, done, cut0, rfl⟩
        have hi : i ∈ spots w arr k := by
          rw [cut0]
          exact List.mem_append_right _ List.mem_cons_self
        obtain ⟨e, ei, eh⟩ := spots_is he hi
        have isE := (his e (List.mem_of_getElem? ei)).1
        have cut : spots w arr k = (done ++ [i]) ++ left := by
          rw [cut0, List.append_assoc]
          rfl
        rw [show arr[i]? = some (ent w e) by rw [ent_at he, ei] <;> rfl]
        dsimp only
        rw [if_pos (show ((ent w e).hash == k.hash w) = true from beq_iff_eq.mpr eh)]
        refine wpAny_bind (wpAny_dictEpoch ho hd (wpAny_bind (ask (e := e) hu isE hk kd (wpAny_bind (wpAny_dictEpoch ho hd ?_)))))
        rw [if_neg (show ¬ (ep != ep) = true by simp)]
        by_cases hh : e.1 = k
        · have first : hitIn es k done = none := by
            cases q : hitIn es k done with
            | none => rfl
            | some j =>
              obtain ⟨hj, f, ej, hf⟩ := hit_some q
              have same := uniq nd ei ej (hh.trans hf.symm)
              subst same
              have ndL : (spots w arr k).Nodup := spots_nd
              rw [cut0, List.nodup_append] at ndL
              exact absurd rfl (ndL.2.2 i hj i List.mem_cons_self)
          rw [first, decide_eq_true hh, if_pos rfl, if_neg (by decide)]
          refine wpAny_bind (wpAny_rule ?_)
          by_cases two : ((spots w arr k).filterMap (fun i => arr[i]?.map (·.key))).length < 2
          · rw [if_pos two]
            exact wpAny_pure (wpAny_pure (yes i e ei hh))
          · rw [if_neg two]
            refine wpAny_pure ⟨rfl, done ++ [i], cut, ?_⟩
            rw [hit_snoc ei, first, decide_eq_true hh]
            rfl
        · rw [decide_eq_false hh, if_neg Bool.false_ne_true]
          refine wpAny_bind (wpAny_rule ?_)
          rw [Bool.false_and, if_neg Bool.false_ne_true]
          refine wpAny_pure ⟨rfl, done ++ [i], cut, ?_⟩
          rw [hit_snoc ei, decide_eq_false hh, if_neg Bool.false_ne_true, Option.or_none]
      · rintro r s' ⟨rfl, done, cut0, rfl⟩
        have all := hit_end (w := w) (arr := arr) he no yes
        rw [cut0, List.append_nil] at all
        exact wpAny_pure all
end
end AK

set_option Elab.async false
set_option linter.all false
set_option maxRecDepth 100000
set_option maxHeartbeats 4000000
namespace AK
open PySem PySem.SeqAt PyProof.Rows
/-! ### the table that a dict is -/
section
variable {β γ : Type}
/-- what is stored at a key -/
def atK (es : List (NestedKey × β × γ)) (k : NestedKey) : Option γ := (es.find? fun e => decide (e.1 = k)).map (·.2.2)
/-- stored in its place, the key as it was; or at the end -/
def putE (es : List (NestedKey × β × γ)) (k : NestedKey) (u : β) (v : γ) : List (NestedKey × β × γ) :=
  if (atK es k).isSome = true then es.map (fun e => if e.1 = k then (e.1, e.2.1, v) else e) else es ++ [(k, u, v)]
theorem atK_nil {k : NestedKey} : atK ([] : List (NestedKey × β × γ)) k = none := rfl
theorem atK_pos {e : NestedKey × β × γ} {r : List (NestedKey × β × γ)} {k : NestedKey} (h : e.1 = k) : atK (e :: r) k = some e.2.2 := by simp [atK, List.find?_cons, h]
theorem atK_neg {e : NestedKey × β × γ} {r : List (NestedKey × β × γ)} {k : NestedKey} (h : ¬ e.1 = k) : atK (e :: r) k = atK r k := by simp [atK, List.find?_cons, h]
theorem atK_none : ∀ {es : List (NestedKey × β × γ)} {k : NestedKey}, atK es k = none ↔ ∀ e ∈ es, e.1 ≠ k
  | [], k => by simp [atK_nil]
  | e :: r, k => by
    by_cases h : e.1 = k
    · rw [atK_pos h]
      constructor
      · intro z
        cases z
      · intro z
        exact absurd h (z e List.mem_cons_self)
    · rw [atK_neg h, atK_none]
      constructor
      · intro z f hf
        rcases List.mem_cons.mp hf with rfl | hf
        · exact h
        · exact z f hf
      · exact fun z f hf => z f (List.mem_cons_of_mem _ hf)
theorem atK_get : ∀ {es : List (NestedKey × β × γ)} {k : NestedKey} {j : Nat} {e : NestedKey × β × γ}, (es.map (·.1)).Nodup → es[j]? = some e → e.1 = k → atK es k = some e.2.2
  | [], _, _, _, _, h, _ => by simp at h
  | f :: r, k, 0, e, _, h, hk => by
    obtain rfl : f = e := by simpa using h
    exact atK_pos hk
  | f :: r, k, j + 1, e, nd, h, hk => by
    have nd2 : f.1 ∉ r.map (·.1) ∧ (r.map (·.1)).Nodup := List.nodup_cons.mp (by simpa using nd)
    have h2 : r[j]? = some e := by simpa using h
    have hne : ¬ f.1 = k := fun z => nd2.1 (List.mem_map.mpr ⟨e, List.mem_of_getElem? h2, hk.trans z.symm⟩)
    rw [atK_neg hne]
    exact atK_get nd2.2 h2 hk
theorem putE_new {es : List (NestedKey × β × γ)} {k : NestedKey} {u : β} {v : γ} (h : atK es k = none) : putE es k u v = es ++ [(k, u, v)] := by
  unfold putE
  rw [h]
  exact if_neg (fun z => by cases z)
theorem putE_old {es : List (NestedKey × β × γ)} {k : NestedKey} {u : β} {v y : γ} (h : atK es k = some y) : putE es k u v = es.map (fun e => if e.1 = k then (e.1, e.2.1, v) else e) := by
  unfold putE
  rw [h]
  exact if_pos rfl
theorem repl_keys (es : List (NestedKey × β × γ)) (k : NestedKey) (v : γ) : (es.map (fun e => if e.1 = k then (e.1, e.2.1, v) else e)).map (·.1) = es.map (·.1) := by
  rw [List.map_map]
  refine List.map_congr_left fun e _ => ?_
  by_cases h : e.1 = k <;> simp [h]
theorem putE_nd {es : List (NestedKey × β × γ)} {k : NestedKey} {u : β} {v : γ} (nd : (es.map (·.1)).Nodup) : ((putE es k u v).map (·.1)).Nodup := by
  cases h : atK es k with
  | none =>
    rw [putE_new h, List.map_append, List.nodup_append]
    refine ⟨nd, by simp, fun x hx y hy => ?_⟩
    obtain rfl : y = k := by simpa using hy
    obtain ⟨e, he, rfl⟩ := List.mem_map.mp hx
    exact fun z => (atK_none.mp h e he) z
  | some y =>
    rw [putE_old h, repl_keys]
    exact nd
theorem putE_len (es : List (NestedKey × β × γ)) (k : NestedKey) (u : β) (v : γ) : (putE es k u v).length ≤ es.length + 1 := by
  cases h : atK es k with
  | none =>
    rw [putE_new h]
    simp
  | some y =>
    rw [putE_old h]
    simp
/-- which keys are there -/
theorem putE_mem {es : List (NestedKey × β × γ)} {k : NestedKey} {u : β} {v : γ} {e : NestedKey × β × γ} (h : e ∈ putE es k u v) : (∃ f ∈ es, f.1 = e.1 ∧ f.2.1 = e.2.1) ∨ (e.1 = k ∧ e.2.1 = u) := by
  cases q : atK es k with
  | none =>
    rw [putE_new q] at h
    rcases List.mem_append.mp h with h | h
    · exact .inl ⟨e, h, rfl, rfl⟩
    · obtain rfl : e = (k, u, v) := by simpa using h
      exact .inr ⟨rfl, rfl⟩
  | some y =>
    rw [putE_old q] at h
    obtain ⟨f, hf, rfl⟩ := List.mem_map.mp h
    refine .inl ⟨f, hf, ?_⟩
    by_cases z : f.1 = k <;> simp [z]
theorem atK_put {es : List (NestedKey × β × γ)} {k j : NestedKey} {u : β} {v : γ} : atK (putE es k u v) j = if j = k then some v else atK es j := by
  cases q : atK es k with
  | none =>
    rw [putE_new q]
    have snoc : ∀ l : List (NestedKey × β × γ), atK l k = none → atK (l ++ [(k, u, v)]) j = if j = k then some v else atK l j := by
      intro l
      induction l with
      | nil =>
        intro _
        by_cases e : k = j
        · rw [if_pos e.symm]
          exact atK_pos e
        · rw [if_neg (fun z => e z.symm)]
          exact atK_neg e
      | cons p r ih =>
        intro hn
        rw [List.cons_append]
        have hk : ¬ p.1 = k := fun z => by
          rw [atK_pos z] at hn
          cases hn
        rw [atK_neg hk] at hn
        by_cases e : p.1 = j
        · rw [atK_pos e, atK_pos e, if_neg (fun z => hk (e.trans z))]
        · rw [atK_neg e, atK_neg e, ih hn]
    exact snoc es q
  | some y =>
    rw [putE_old q]
    have repl : ∀ l : List (NestedKey × β × γ), atK (l.map (fun e => if e.1 = k then (e.1, e.2.1, v) else e)) j = (atK l j).map fun x => if j = k then v else x := by
      intro l
      induction l with
      | nil => rfl
      | cons p r ih =>
        rw [List.map_cons]
        by_cases h : p.1 = k
        · rw [if_pos h]
          by_cases e : p.1 = j
          · rw [atK_pos (e := (p.1, p.2.1, v)) e, atK_pos e, Option.map_some, if_pos (e.symm.trans h)]
          · rw [atK_neg (e := (p.1, p.2.1, v)) e, atK_neg e, ih]
        · rw [if_neg h]
          by_cases e : p.1 = j
          · rw [atK_pos e, atK_pos e, Option.map_some, if_neg (fun z => h (e.trans z))]
          · rw [atK_neg e, atK_neg e, ih]
    rw [repl]
    by_cases e : j = k
    · rw [if_pos e, e, q, Option.map_some, if_pos rfl]
    · rw [if_neg e]
      cases atK es j with
      | none => rfl
      | some x => rw [Option.map_some, if_neg e]
end
section
variable {prog : Program} {w : World} {A : Around} {E : Value → Shared → Prop} {s : Shared} {es : List En} {k : NestedKey} {u : Value} {d : Addr}
theorem DkOf.type (h : DkOf w s.heap d es) : s.TypeIs (.ref d) "dict" := by
  obtain ⟨⟨o, arr, ep, ho, hc, hd, he⟩, _, _⟩ := h
  exact ⟨o, ho, hc.1⟩
theorem dictGet_any {Q : Option Value → Shared → Prop} (hu : A.units + 8 < cLine) (hk : NestedIs s.heap k u) (kd : k.depth ≤ 8) (D : DkOf w s.heap d es) (h : Q (atK es k) { s with toks := s.toks + k.draws }) :
    wpAny (model prog w) A (dictGet d u) Q E s := by
  obtain ⟨⟨o, arr, ep, ho, hc, hd, he⟩, his, nd⟩ := D
  unfold dictGet
  try with_reducible refine wpAny_holding ?_
  refine wpAny_bind (pyHash_key k u A s _ hk (by omega) (wpAny_bind (find_any (s := { s with toks := s.toks + k.draws }) hu hk kd ho hd he his nd ?_ ?_)))
  · intro hno
    rw [atK_none.mpr hno] at h
    exact wpAny_pure h
  · intro j e hj hkj
    rw [atK_get nd hj hkj] at h
    refine wpAny_bind (wpAny_dictEntries (s := { s with toks := s.toks + k.draws }) ho hd ?_)
    rw [ent_at he, hj]
    exact wpAny_pure h
theorem nested_keep {h h' : Heap} {d : Addr} {o : Obj} {arr : Array DictEntry} {ep : Nat} (ho : h.get? d = some o) (hd : o.data = .dict arr ep) (sb : Heap.SameBut d h h') {k : NestedKey} {u : Value} (hk : NestedIs h k u) : NestedIs h' k u := by
  refine NestedIs.at (fun a o1 vs n e1 e2 => ?_) k u hk
  have ne : a ≠ d := by
    rintro rfl
    rw [ho] at e1
    cases e1
    rw [hd] at e2
    cases e2
  exact (sb.2 a ne).trans e1
theorem grown {arr : Array DictEntry} (he : arr.toList = es.map (ent w)) (hn : atK es k = none) (v : Value) : (arr.push ⟨k.hash w, u, v⟩).toList = (putE es k u v).map (ent w) := by
  rw [putE_new hn, Array.toList_push, he, List.map_append]
  rfl
theorem changed {arr : Array DictEntry} (he : arr.toList = es.map (ent w)) (nd : (es.map (·.1)).Nodup) {j : Nat} {e : En} (hj : es[j]? = some e) (hk : e.1 = k) (v : Value) :
    (arr.modify j fun x => { x with val := v }).toList = (putE es k u v).map (ent w) := by
  rw [putE_old (atK_get nd hj hk), Array.toList_modify, he]
  have gen : ∀ (l : List En) (i : Nat), (l.map (·.1)).Nodup → l[i]? = some e → (l.map (ent w)).modify i (fun x => { x with val := v }) = (l.map (fun e => if e.1 = k then (e.1, e.2.1, v) else e)).map (ent w) := by
    intro l
    induction l with
    | nil =>
      intro i _ h
      simp at h
    | cons f r ih =>
      intro i nd h
      have nd2 : f.1 ∉ r.map (·.1) ∧ (r.map (·.1)).Nodup := List.nodup_cons.mp (by simpa using nd)
      cases i with
      | zero =>
        obtain rfl : f = e := by simpa using h
        have rest : r.map (fun e => if e.1 = k then (e.1, e.2.1, v) else e) = r := by
          conv => rhs; rw [← List.map_id r]
          refine List.map_congr_left fun g hg => ?_
          rw [if_neg (fun z => nd2.1 (List.mem_map.mpr ⟨g, hg, z.trans hk.symm⟩))]
          rfl
        rw [List.map_cons, List.map_cons, List.map_cons, rest, if_pos hk]
        rfl
      | succ i =>
        have h2 : r[i]? = some e := by simpa using h
        have hne : ¬ f.1 = k := fun z => nd2.1 (List.mem_map.mpr ⟨e, List.mem_of_getElem? h2, hk.trans z.symm⟩)
        rw [List.map_cons, List.map_cons, List.map_cons, if_neg hne, List.modify_succ_cons, ih i nd2.2 h2]
  exact gen es j nd hj
theorem DkOf.put_is {h h' : Heap} {d : Addr} {o : Obj} {arr : Array DictEntry} {ep : Nat} (ho : h.get? d = some o) (hd : o.data = .dict arr ep) (sb : Heap.SameBut d h h') (hk : NestedIs h k u) (kd : k.depth ≤ 8)
    (his : ∀ e ∈ es, NestedIs h e.1 e.2.1 ∧ e.1.depth ≤ 8) (v : Value) : ∀ e ∈ putE es k u v, NestedIs h' e.1 e.2.1 ∧ e.1.depth ≤ 8 := fun e hm => by
  rcases putE_mem hm with ⟨f, hf, e1, e2⟩ | ⟨e1, e2⟩
  · rw [← e1, ← e2]
    exact ⟨nested_keep ho hd sb (his f hf).1, (his f hf).2⟩
  · rw [e1, e2]
    exact ⟨nested_keep ho hd sb hk, kd⟩
theorem dictSet_any {v : Value} {Q : Unit → Shared → Prop} (hu : A.units + 8 < cLine) (hk : NestedIs s.heap k u) (kd : k.depth ≤ 8) (D : DkOf w s.heap d es) (hsz : es.length ≤ sizeLine)
    (hQ : ∀ h', DkOf w h' d (putE es k u v) → Heap.SameBut d s.heap h' → Q () { s with heap := h', toks := s.toks + k.draws }) : wpAny (model prog w) A (dictSet d u v) Q E s := by
  obtain ⟨⟨o, arr, ep, ho, hc, hd, he⟩, his, nd⟩ := D
  unfold dictSet
  try with_reducible refine wpAny_holding ?_
  refine wpAny_bind (pyHash_key k u A s _ hk (by omega) ?_)
  unfold dictSetHashed
  try with_reducible refine wpAny_holding ?_
  refine wpAny_bind (find_any (s := { s with toks := s.toks + k.draws }) hu hk kd ho hd he his nd ?_ ?_)
  · intro hno
    refine wpAny_bind (wpAny_rule (wpAny_updateDictKeys (hz := by rw [ent_size he]; exact hsz) (s := { s with toks := s.toks + k.draws }) ho hd (hQ _ ⟨⟨_, _, ep + 1, Heap.get?_update_self _ ho (Obj.isFreed_of_dict (Obj.data_mapDictKeys hd _)),
      hc.mapDictKeys _, Obj.data_mapDictKeys hd _, ?_⟩, ?_, ?_⟩ (Heap.SameBut.update ..))))
    · exact grown he (atK_none.mpr hno) v
    · exact DkOf.put_is ho hd (Heap.SameBut.update ..) hk kd his v
    · exact putE_nd nd
  · intro j e hj hkj
    refine wpAny_bind (wpAny_rule (wpAny_bind (wpAny_updateDict (s := { s with toks := s.toks + k.draws }) ho hd (wpAny_point (hQ _ ⟨⟨_, _, ep, Heap.get?_update_self _ ho (Obj.isFreed_of_dict (Obj.data_mapDict hd _)),
      hc.mapDict _, Obj.data_mapDict hd _, ?_⟩, ?_, ?_⟩ (Heap.SameBut.update ..))))))
    · exact changed he nd hj hkj v
    · exact DkOf.put_is ho hd (Heap.SameBut.update ..) hk kd his v
    · exact putE_nd nd
theorem dictSetDefault_any {v : Value} {Q : Value → Shared → Prop} (hu : A.units + 8 < cLine) (hk : NestedIs s.heap k u) (kd : k.depth ≤ 8) (D : DkOf w s.heap d es) (hsz : es.length ≤ sizeLine)
    (h1 : ∀ y, atK es k = some y → Q y { s with toks := s.toks + k.draws })
    (h2 : atK es k = none → ∀ h', DkOf w h' d (putE es k u v) → Heap.SameBut d s.heap h' → Q v { s with heap := h', toks := s.toks + k.draws }) : wpAny (model prog w) A (dictSetDefault d u v) Q E s := by
  obtain ⟨⟨o, arr, ep, ho, hc, hd, he⟩, his, nd⟩ := D
  unfold dictSetDefault
  try with_reducible refine wpAny_holding ?_
  refine wpAny_bind (pyHash_key k u A s _ hk (by omega) ?_)
  refine wpAny_bind (find_any (s := { s with toks := s.toks + k.draws }) hu hk kd ho hd he his nd ?_ ?_)
  · intro hno
    refine wpAny_bind (wpAny_rule (wpAny_bind (wpAny_updateDictKeys (hz := by rw [ent_size he]; exact hsz) (s := { s with toks := s.toks + k.draws }) ho hd (wpAny_pure (h2 (atK_none.mpr hno) _ ⟨⟨_, _, ep + 1, Heap.get?_update_self _ ho (Obj.isFreed_of_dict (Obj.data_mapDictKeys hd _)),
      hc.mapDictKeys _, Obj.data_mapDictKeys hd _, ?_⟩, ?_, ?_⟩ (Heap.SameBut.update ..))))))
    · exact grown he (atK_none.mpr hno) v
    · exact DkOf.put_is ho hd (Heap.SameBut.update ..) hk kd his v
    · exact putE_nd nd
  · intro j e hj hkj
    refine wpAny_bind (wpAny_dictEntries (s := { s with toks := s.toks + k.draws }) ho hd ?_)
    rw [ent_at he, hj]
    exact wpAny_bind (wpAny_rule (wpAny_pure (h1 _ (atK_get nd hj hkj))))
end
end AK

set_option Elab.async false
set_option linter.all false
set_option maxRecDepth 100000
set_option maxHeartbeats 4000000
namespace AK
open PySem PySem.SeqAt PyProof.Rows
section
variable {prog : Program} {w : World} {A : Around} {E : Value → Shared → Prop} {s : Shared} {es : List En} {k : NestedKey} {u : Value} {d : Addr}
theorem u1 (hu : A.units + 9 < cLine) : A.in1.units + 8 < cLine := by
  simp only [Around.in1_units]
  omega
theorem contains_any {Q : Bool → Shared → Prop} (hu : A.units + 9 < cLine) (hk : NestedIs s.heap k u) (kd : k.depth ≤ 8) (hd : (d == sysModules) = false) (D : DkOf w s.heap d es) (h : Q (atK es k).isSome { s with toks := s.toks + k.draws }) :
    wpAny (model prog w) A (contains (.ref d) u) Q E s := by
  refine wpAny_contains_slot D.type PySem.F.slot_dict_contains ?_
  refine call_meetsIn PySem.F.slot_dict_contains D.type PySem.F.entry_dict_contains (PySem.F.args_dict_contains_2 _ _) (S := fun A' R s' => A' = A ∧ s' = s ∧ R (.ok (.ret (.bool (atK es k).isSome))) { s with toks := s.toks + k.draws }) (.of_wp fun A' R s' hS => ?_) ⟨rfl, rfl, wpAny_truthy_bool h⟩
  obtain ⟨rfl, rfl, hq⟩ := hS
  show wpAny _ _ (dictGet d u >>= _) _ _ _
  refine wpAny_bind (dictGet_any (u1 hu) hk kd D ?_)
  cases hf : atK es k with
  | some p =>
    rw [hf] at hq
    show wpAny _ _ (ret (.bool true)) _ _ _
    exact wpAny_pure ⟨_, rfl, hq⟩
  | none =>
    rw [hf] at hq
    show wpAny _ _ (Builtin.Dict.pendingKey? d u >>= _) _ _ _
    exact wpAny_bind (wpAny_pendingKey_other hd (wpAny_pure ⟨_, rfl, hq⟩))
theorem in_any {Q : Value → Shared → Prop} (hu : A.units + 9 < cLine) (hk : NestedIs s.heap k u) (kd : k.depth ≤ 8) (hd : (d == sysModules) = false) (D : DkOf w s.heap d es) (h : Q (.bool (atK es k).isSome) { s with toks := s.toks + k.draws }) :
    wpAny (model prog w) A (compareOp .In u (.ref d)) Q E s := by
  show wpAny _ _ (do return .bool (← contains (.ref d) u)) Q E s
  exact wpAny_bind (contains_any hu hk kd hd D (wpAny_pure h))
theorem notIn_any {Q : Value → Shared → Prop} (hu : A.units + 9 < cLine) (hk : NestedIs s.heap k u) (kd : k.depth ≤ 8) (hd : (d == sysModules) = false) (D : DkOf w s.heap d es) (h : Q (.bool (!(atK es k).isSome)) { s with toks := s.toks + k.draws }) :
    wpAny (model prog w) A (compareOp .NotIn u (.ref d)) Q E s := by
  show wpAny _ _ (do return .bool (!(← contains (.ref d) u))) Q E s
  exact wpAny_bind (contains_any hu hk kd hd D (wpAny_pure h))
theorem getItem_any {v : Value} {Q : Value → Shared → Prop} (hu : A.units + 9 < cLine) (hk : NestedIs s.heap k u) (kd : k.depth ≤ 8) (D : DkOf w s.heap d es) (hv : atK es k = some v) (h : Q v { s with toks := s.toks + k.draws }) :
    wpAny (model prog w) A (getItem (.ref d) u) Q E s := by
  unfold getItem
  try with_reducible refine wpAny_holding ?_
  refine wpAny_bind (wpAny_sequenceKey D.type (by decide) ?_)
  refine wpAny_bind (wpAny_callSpecial?_slot (name := Str.ofString "__getitem__") D.type PySem.F.slot_dict_getitem
    (wpAny_call_entry PySem.F.slot_dict_getitem D.type PySem.F.entry_dict_getitem ?_ (PySem.F.args_dict_getitem_2 _ _)))
  show wpAny _ _ (dictGet d u >>= _) _ _ s
  refine wpAny_bind (dictGet_any (u1 hu) hk kd D ?_)
  rw [hv]
  exact wpAny_pure ⟨v, rfl, wpAny_pure h⟩
theorem setItem_any {v : Value} {Q : Unit → Shared → Prop} (hu : A.units + 9 < cLine) (hk : NestedIs s.heap k u) (kd : k.depth ≤ 8) (D : DkOf w s.heap d es) (hsz : es.length ≤ sizeLine)
    (hQ : ∀ h', DkOf w h' d (putE es k u v) → Heap.SameBut d s.heap h' → Q () { s with heap := h', toks := s.toks + k.draws }) :
    wpAny (model prog w) A (setItem (.ref d) u v) Q E s := by
  unfold setItem
  try with_reducible refine wpAny_holding ?_
  refine wpAny_bind (wpAny_sequenceKey D.type (by decide) ?_)
  refine wpAny_bind (wpAny_callSpecial?_slot (name := Str.ofString "__setitem__") D.type PySem.F.slot_dict_setitem
    (wpAny_call_entry PySem.F.slot_dict_setitem D.type PySem.F.entry_dict_setitem ?_ (PySem.F.args_dict_setitem_3 _ _ _)))
  show wpAny _ _ (Builtin.Dict.notOrdered "__setitem__" ⟨[.ref d, u, v], []⟩ >>= _) _ _ s
  refine wpAny_bind (wpAny_notOrdered_dict D.type ?_)
  show wpAny _ _ (dictSet d u v >>= _) _ _ s
  exact wpAny_bind (dictSet_any (u1 hu) hk kd D hsz fun h' hm' hs' => wpAny_pure ⟨.none, rfl, wpAny_pure (hQ h' hm' hs')⟩)
/-- d.get(k), d.get(k, x) -/
theorem get1_any {Q : Value → Shared → Prop} (hu : A.units + 9 < cLine) (hk : NestedIs s.heap k u) (kd : k.depth ≤ 8) (hd : (d == sysModules) = false) (D : DkOf w s.heap d es) (h : Q ((atK es k).getD .none) { s with toks := s.toks + k.draws }) :
    wpAny (model prog w) A (call (.builtin "dict.get") [.ref d, u]) Q E s := by
  refine call_meetsIn PySem.F.slot_dict_get D.type PySem.F.entry_dict_get (PySem.F.args_dict_get_2 _ _) (S := fun A' R s' => A' = A ∧ s' = s ∧ R (.ok (.ret ((atK es k).getD .none))) { s with toks := s.toks + k.draws }) (.of_wp fun A' R s' hS => ?_) ⟨rfl, rfl, h⟩
  obtain ⟨rfl, rfl, hq⟩ := hS
  show wpAny _ _ (dictGet d u >>= _) _ _ _
  refine wpAny_bind (dictGet_any (u1 hu) hk kd D ?_)
  cases hf : atK es k with
  | some v =>
    rw [hf] at hq
    exact wpAny_pure ⟨v, rfl, hq⟩
  | none =>
    rw [hf] at hq
    show wpAny _ _ (Builtin.Dict.missed d u >>= _) _ _ _
    exact wpAny_bind (wpAny_missed_other hd (wpAny_pure ⟨.none, rfl, hq⟩))
theorem get2_any {x : Value} {Q : Value → Shared → Prop} (hu : A.units + 9 < cLine) (hk : NestedIs s.heap k u) (kd : k.depth ≤ 8) (hd : (d == sysModules) = false) (D : DkOf w s.heap d es) (h : Q ((atK es k).getD x) { s with toks := s.toks + k.draws }) :
    wpAny (model prog w) A (call (.builtin "dict.get") [.ref d, u, x]) Q E s := by
  refine call_meetsIn PySem.F.slot_dict_get D.type PySem.F.entry_dict_get (PySem.F.args_dict_get_3 _ _ _) (S := fun A' R s' => A' = A ∧ s' = s ∧ R (.ok (.ret ((atK es k).getD x))) { s with toks := s.toks + k.draws }) (.of_wp fun A' R s' hS => ?_) ⟨rfl, rfl, h⟩
  obtain ⟨rfl, rfl, hq⟩ := hS
  show wpAny _ _ (dictGet d u >>= _) _ _ _
  refine wpAny_bind (dictGet_any (u1 hu) hk kd D ?_)
  cases hf : atK es k with
  | some v =>
    rw [hf] at hq
    exact wpAny_pure ⟨v, rfl, hq⟩
  | none =>
    rw [hf] at hq
    show wpAny _ _ (Builtin.Dict.missed d u >>= _) _ _ _
    exact wpAny_bind (wpAny_missed_other hd (wpAny_pure ⟨x, rfl, hq⟩))
/-- d.setdefault(k, x) -/
theorem setdefault_any {x : Value} {Q : Value → Shared → Prop} (hu : A.units + 9 < cLine) (hk : NestedIs s.heap k u) (kd : k.depth ≤ 8) (hd : (d == sysModules) = false) (D : DkOf w s.heap d es) (hsz : es.length ≤ sizeLine)
    (h1 : ∀ y, atK es k = some y → Q y { s with toks := s.toks + k.draws })
    (h2 : atK es k = none → ∀ h', DkOf w h' d (putE es k u x) → Heap.SameBut d s.heap h' → Q x { s with heap := h', toks := s.toks + k.draws }) :
    wpAny (model prog w) A (call (.builtin "dict.setdefault") [.ref d, u, x]) Q E s := by
  refine call_meetsIn PySem.F.slot_dict_setdefault D.type PySem.F.entry_dict_setdefault (PySem.F.args_dict_setdefault_3 _ _ _) (S := fun A' R s' => A' = A ∧ s' = s ∧ (∀ y, atK es k = some y → R (.ok (.ret y)) { s with toks := s.toks + k.draws }) ∧
    (atK es k = none → ∀ h', DkOf w h' d (putE es k u x) → Heap.SameBut d s.heap h' → R (.ok (.ret x)) { s with heap := h', toks := s.toks + k.draws })) (.of_wp fun A' R s' hS => ?_) ⟨rfl, rfl, h1, h2⟩
  obtain ⟨rfl, rfl, g1, g2⟩ := hS
  unfold Builtin.«dict.setdefault»
  refine wpAny_bind ?_
  unfold Builtin.Dict.keyAndDefault
  refine wpAny_bind (wpAny_notOrdered_dict D.type ?_)
  show wpAny _ _ (pure (d, u, some x)) _ _ _
  refine wpAny_pure ?_
  show wpAny _ _ (if (d == sysModules) = true then _ else (dictSetDefault d u x >>= _)) _ _ _
  rw [if_neg (by rw [hd]; exact Bool.false_ne_true)]
  exact wpAny_bind (dictSetDefault_any (u1 hu) hk kd D hsz (fun v hv => wpAny_pure ⟨v, rfl, g1 v hv⟩) fun hn h' hm' hs' => wpAny_pure ⟨x, rfl, g2 hn h' hm' hs'⟩)
end
end AK

set_option Elab.async false
set_option linter.all false
set_option maxRecDepth 100000
set_option maxHeartbeats 4000000
namespace AK
open PySem PySem.Spec PyProof.Rows L2
/-! ### data as keys -/
mutual
def keyD : PyData → Option NestedKey
  | .none => some .none
  | .bool b => some (.num (if b = true then 1 else 0))
  | .int i => some (.num i)
  | .str x => some (.text x)
  | .tuple ds => (keyDs ds).map .tup
  | .list _ => none
  | .dict _ => none
def keyDs : List PyData → Option (List NestedKey)
  | [] => some []
  | d :: ds => match keyD d, keyDs ds with
    | some k, some ks => some (k :: ks)
    | _, _ => none
end
theorem keyDs_cons {d : PyData} {ds : List PyData} {ks : List NestedKey} (h : keyDs (d :: ds) = some ks) : ∃ k ks', keyD d = some k ∧ keyDs ds = some ks' ∧ ks = k :: ks' := by
  unfold keyDs at h
  cases h1 : keyD d with
  | none =>
    rw [h1] at h
    cases h
  | some k =>
    cases h2 : keyDs ds with
    | none =>
      rw [h1, h2] at h
      cases h
    | some ks' =>
      rw [h1, h2] at h
      cases h
      exact ⟨k, ks', rfl, rfl, rfl⟩
mutual
theorem eqv_key : ∀ (d e : PyData) (k j : NestedKey), keyD d = some k → keyD e = some j → PyData.eqv d e = NestedKey.beq k j
  | .none, e, k, j, h1, h2 => by
    cases h1
    cases e with
    | none => cases h2; rfl
    | bool b => cases h2; rfl
    | int i => cases h2; rfl
    | str x => cases h2; rfl
    | tuple ds =>
      obtain ⟨ks, _, rfl⟩ := Option.map_eq_some_iff.mp h2
      rfl
    | list _ => cases h2
    | dict _ => cases h2
  | .bool b, e, k, j, h1, h2 => by
    cases h1
    cases e with
    | none => cases h2; rfl
    | bool c => cases h2; cases b <;> cases c <;> rfl
    | int i =>
      cases h2
      cases b
      · show ((0 : Int) == i) = decide ((0 : Int) = i)
        by_cases z : (0 : Int) = i <;> simp [z]
      · show ((1 : Int) == i) = decide ((1 : Int) = i)
        by_cases z : (1 : Int) = i <;> simp [z]
    | str x => cases h2; rfl
    | tuple ds =>
      obtain ⟨ks, _, rfl⟩ := Option.map_eq_some_iff.mp h2
      rfl
    | list _ => cases h2
    | dict _ => cases h2
  | .int i, e, k, j, h1, h2 => by
    cases h1
    cases e with
    | none => cases h2; rfl
    | bool c =>
      cases h2
      cases c
      · show (i == (0 : Int)) = decide (i = (0 : Int))
        by_cases z : i = (0 : Int) <;> simp [z]
      · show (i == (1 : Int)) = decide (i = (1 : Int))
        by_cases z : i = (1 : Int) <;> simp [z]
    | int l =>
      cases h2
      show (i == l) = decide (i = l)
      by_cases z : i = l <;> simp [z]
    | str x => cases h2; rfl
    | tuple ds =>
      obtain ⟨ks, _, rfl⟩ := Option.map_eq_some_iff.mp h2
      rfl
    | list _ => cases h2
    | dict _ => cases h2
  | .str x, e, k, j, h1, h2 => by
    cases h1
    cases e with
    | none => cases h2; rfl
    | bool c => cases h2; rfl
    | int l => cases h2; rfl
    | str y =>
      cases h2
      show (x == y) = decide (x = y)
      by_cases z : x = y <;> simp [z]
    | tuple ds =>
      obtain ⟨ks, _, rfl⟩ := Option.map_eq_some_iff.mp h2
      rfl
    | list _ => cases h2
    | dict _ => cases h2
  | .tuple xs, e, k, j, h1, h2 => by
    obtain ⟨ks, hk, rfl⟩ := Option.map_eq_some_iff.mp h1
    cases e with
    | none => cases h2; rfl
    | bool c => cases h2; rfl
    | int l => cases h2; rfl
    | str y => cases h2; rfl
    | tuple ds =>
      obtain ⟨js, hj, rfl⟩ := Option.map_eq_some_iff.mp h2
      exact eqvAll_key xs ds ks js hk hj
    | list _ => cases h2
    | dict _ => cases h2
  | .list _, _, _, _, h1, _ => by cases h1
  | .dict _, _, _, _, h1, _ => by cases h1
theorem eqvAll_key : ∀ (d e : List PyData) (k j : List NestedKey), keyDs d = some k → keyDs e = some j → PyData.eqvAll d e = NestedKey.beqAll k j
  | [], [], _, _, h1, h2 => by
    cases h1
    cases h2
    rfl
  | [], e :: es, _, _, h1, h2 => by
    cases h1
    obtain ⟨j, js, _, _, rfl⟩ := keyDs_cons h2
    rfl
  | d :: ds, [], _, _, h1, h2 => by
    cases h2
    obtain ⟨j, js, _, _, rfl⟩ := keyDs_cons h1
    rfl
  | d :: ds, e :: es, _, _, h1, h2 => by
    obtain ⟨k, ks, a1, a2, rfl⟩ := keyDs_cons h1
    obtain ⟨j, js, b1, b2, rfl⟩ := keyDs_cons h2
    show (PyData.eqv d e && PyData.eqvAll ds es) = (NestedKey.beq k j && NestedKey.beqAll ks js)
    rw [eqv_key d e k j a1 b1, eqvAll_key ds es ks js a2 b2]
end
theorem eqv_dec {d e : PyData} {k j : NestedKey} (h1 : keyD d = some k) (h2 : keyD e = some j) : PyData.eqv d e = decide (k = j) := by
  rw [eqv_key d e k j h1 h2, NestedKey.decide_eq]
/-! ### the value of a key -/
def NK (K : PySem.W.Frag) (H : Hp) (k : NestedKey) (v : V) : Prop := ∃ d, Dp K H v d ∧ keyD d = some k
section
variable {X : Cx} {pins : List (Addr × Obj)} {σ : L2.St} {H H' : Hp} {s : Shared}
mutual
theorem nk_is (I : Inv X pins σ H s) : ∀ (d : PyData) (v : V) (u : Value) (k : NestedKey), Dp X.K H v d → keyD d = some k → RelV v u → NestedIs s.heap k u
  | .none, _, _, _, h, hk, r => by
    cases h
    cases r
    cases hk
    exact .none
  | .bool b, _, _, _, h, hk, r => by
    cases h
    cases r
    cases hk
    exact .bool rfl
  | .int i, _, _, _, h, hk, r => by
    cases h
    obtain ⟨t, rfl⟩ := r
    cases hk
    exact .int i t
  | .str x, _, _, _, h, hk, r => by
    cases h
    obtain ⟨t, rfl⟩ := r
    cases hk
    exact .text x t
  | .tuple ds, _, _, _, h, hk, r => by
    obtain ⟨ks, hks, rfl⟩ := Option.map_eq_some_iff.mp hk
    cases h with
    | tup hs ha =>
      cases r
      obtain ⟨its, rv, ⟨o, ho, hc, n, hd⟩, _⟩ := I.tuple hs
      exact .tup ho hc hd (by simpa using nks_are I ds _ its ks ha hks rv)
  | .list _, _, _, _, _, hk, _ => by cases hk
  | .dict _, _, _, _, _, hk, _ => by cases hk
theorem nks_are (I : Inv X pins σ H s) : ∀ (ds : List PyData) (vs : List V) (us : List Value) (ks : List NestedKey), DpAll X.K H vs ds → keyDs ds = some ks → Vals vs us → NestedAll s.heap ks us
  | [], _, _, _, h, hk, r => by
    cases h
    cases r
    cases hk
    exact .nil
  | d :: ds, _, _, _, h, hk, r => by
    obtain ⟨k, ks, a1, a2, rfl⟩ := keyDs_cons hk
    cases h with
    | cons h1 h2 =>
      cases r with
      | cons r1 r2 => exact .cons (nk_is I d _ _ k h1 a1 r1) (nks_are I ds _ _ ks h2 a2 r2)
end
theorem NK.is {k : NestedKey} {v : V} {u : Value} (n : NK X.K H k v) (I : Inv X pins σ H s) (r : RelV v u) : NestedIs s.heap k u := by
  obtain ⟨d, h1, h2⟩ := n
  exact nk_is I d v u k h1 h2 r
end
/-! ### what stays -/
/-- the tuples stay -/
def Tups (H H' : Hp) : Prop := ∀ a xs, Rd H a (.tup xs) → Rd H' a (.tup xs)
theorem Tups.rfl' {H : Hp} : Tups H H := fun _ _ h => h
theorem Tups.trans {H H1 H2 : Hp} (a : Tups H H1) (b : Tups H1 H2) : Tups H H2 := fun c xs h => b c xs (a c xs h)
theorem Tups.upd {H : Hp} {a : Addr} {o : HO} (n : ∀ xs, ¬ Rd H a (.tup xs)) : Tups H (upd H a o) := fun c xs h => by
  have ne : c ≠ a := by
    rintro rfl
    exact n xs h
  unfold Rd
  rw [upd_ne ne]
  exact h
theorem Tups.new {H : Hp} {a : Addr} {o : HO} (n : H a = none) : Tups H (L2.upd H a o) := Tups.upd fun xs h => by
  unfold Rd at h
  rw [n] at h
  rcases h with h | ⟨_, h⟩ <;> cases h
theorem SqT.tups {K : PySem.W.Frag} {H H' : Hp} {a : Addr} {xs : List V} (t : Tups H H') (h : SqT K H a xs) : SqT K H' a xs := h.elim (fun h => .inl (t _ _ h)) .inr
mutual
theorem dp_tups {K : PySem.W.Frag} {H H' : Hp} (t : Tups H H') : ∀ (d : PyData) (v : V) (k : NestedKey), keyD d = some k → Dp K H v d → Dp K H' v d
  | .none, _, _, _, h => by cases h; exact .non
  | .bool b, _, _, _, h => by cases h; exact .bl b
  | .int i, _, _, _, h => by cases h; exact .int i
  | .str x, _, _, _, h => by cases h; exact .str x
  | .tuple ds, _, _, hk, h => by
    obtain ⟨ks, hks, _⟩ := Option.map_eq_some_iff.mp hk
    cases h with
    | tup hs ha => exact .tup (SqT.tups t hs) (dps_tups t ds _ ks hks ha)
  | .list _, _, _, hk, _ => by cases hk
  | .dict _, _, _, hk, _ => by cases hk
theorem dps_tups {K : PySem.W.Frag} {H H' : Hp} (t : Tups H H') : ∀ (ds : List PyData) (vs : List V) (ks : List NestedKey), keyDs ds = some ks → DpAll K H vs ds → DpAll K H' vs ds
  | [], _, _, _, h => by cases h; exact .nil
  | d :: ds, _, _, hk, h => by
    obtain ⟨k, ks, a1, a2, _⟩ := keyDs_cons hk
    cases h with
    | cons h1 h2 => exact .cons (dp_tups t d _ k a1 h1) (dps_tups t ds _ ks a2 h2)
end
theorem NK.tups {K : PySem.W.Frag} {H H' : Hp} {k : NestedKey} {v : V} (t : Tups H H') (n : NK K H k v) : NK K H' k v := by
  obtain ⟨d, h1, h2⟩ := n
  exact ⟨d, dp_tups t d v k h2 h1, h2⟩
/-! ### the dict as it is tracked -/
abbrev Eh := NestedKey × V × V
def DkRaw (w : World) (d : Addr) (es : List Eh) (h : Heap) : Prop := (d == sysModules) = false ∧ es.length ≤ sizeLine ∧ ∃ o arr ep, ∃ us : List En, h.get? d = some o ∧ o.ExactDict ∧ o.data = .dict arr ep ∧ arr.toList = us.map (ent w) ∧ Paired (fun (p : Eh) (q : En) => p.1 = q.1 ∧ RelV p.2.1 q.2.1 ∧ RelV p.2.2 q.2.2) es us
def DkO (w : World) (d : Addr) (es : List Eh) : HO := .ext (DkRaw w d es)
/-- at d: the dict es, its keys known -/
structure DA (K : PySem.W.Frag) (w : World) (H : Hp) (d : Addr) (es : List Eh) : Prop where
  at_ : Rd H d (DkO w d es)
  nk : ∀ e ∈ es, NK K H e.1 e.2.1 ∧ e.1.depth ≤ 8
  nd : (es.map (·.1)).Nodup
theorem pr_atK {es : List Eh} {us : List En} (r : Paired (fun (p : Eh) (q : En) => p.1 = q.1 ∧ RelV p.2.1 q.2.1 ∧ RelV p.2.2 q.2.2) es us) (k : NestedKey) : RelO (atK es k) (atK us k) := by
  induction r with
  | nil => exact True.intro
  | @cons p q ps qs h t ih =>
    obtain ⟨h1, _, h2⟩ := h
    by_cases e : p.1 = k
    · rw [atK_pos e, atK_pos (h1.symm.trans e)]
      exact h2
    · rw [atK_neg e, atK_neg (fun z => e (h1.trans z))]
      exact ih
theorem pr_keys {es : List Eh} {us : List En} (r : Paired (fun (p : Eh) (q : En) => p.1 = q.1 ∧ RelV p.2.1 q.2.1 ∧ RelV p.2.2 q.2.2) es us) : es.map (·.1) = us.map (·.1) := by
  induction r with
  | nil => rfl
  | cons h t ih => rw [List.map_cons, List.map_cons, ih, h.1]
theorem pr_put {es : List Eh} {us : List En} (r : Paired (fun (p : Eh) (q : En) => p.1 = q.1 ∧ RelV p.2.1 q.2.1 ∧ RelV p.2.2 q.2.2) es us) (k : NestedKey) {v x : V} {u z : Value} (rv : RelV v u) (rx : RelV x z) :
    Paired (fun (p : Eh) (q : En) => p.1 = q.1 ∧ RelV p.2.1 q.2.1 ∧ RelV p.2.2 q.2.2) (putE es k v x) (putE us k u z) := by
  have ro := pr_atK r k
  cases h : atK es k with
  | none =>
    rw [h] at ro
    have h' : atK us k = none := by
      cases q : atK us k with
      | none => rfl
      | some y =>
        rw [q] at ro
        exact (show False from ro).elim
    rw [putE_new h, putE_new h']
    exact Paired.snoc r ⟨rfl, rv, rx⟩
  | some y =>
    rw [h] at ro
    have h' : ∃ y', atK us k = some y' := by
      cases q : atK us k with
      | none =>
        rw [q] at ro
        exact (show False from ro).elim
      | some y' => exact ⟨y', rfl⟩
    obtain ⟨y', h'⟩ := h'
    rw [putE_old h, putE_old h']
    clear h h' ro
    induction r with
    | nil => exact .nil
    | @cons p q ps qs hpq t ih =>
      rw [List.map_cons, List.map_cons]
      refine .cons ?_ ih
      obtain ⟨h1, h2, h3⟩ := hpq
      by_cases e : p.1 = k
      · rw [if_pos e, if_pos (h1.symm.trans e)]
        exact ⟨h1, h2, rx⟩
      · rw [if_neg e, if_neg (fun z => e (h1.trans z))]
        exact ⟨h1, h2, h3⟩
section
variable {X : Cx} {pins : List (Addr × Obj)} {σ : L2.St} {H H' : Hp} {s : Shared} {d : Addr} {es : List Eh}
/-- what stands in the heap -/
theorem DA.raw (D : DA X.K X.w H d es) (I : Inv X pins σ H s) : (d == sysModules) = false ∧ es.length ≤ sizeLine ∧ ∃ us : List En, DkOf X.w s.heap d us ∧ Paired (fun (p : Eh) (q : En) => p.1 = q.1 ∧ RelV p.2.1 q.2.1 ∧ RelV p.2.2 q.2.2) es us := by
  obtain ⟨⟨hd, hz, o, arr, ep, us, ho, hc, hdat, he, r⟩, _, _⟩ := (show ObjOk X.prog X.w H s.heap d (DkO X.w d es) from D.at_.ok I.hok)
  refine ⟨hd, hz, us, ⟨⟨o, arr, ep, ho, hc, hdat, he⟩, ?_, by rw [← pr_keys r]; exact D.nd⟩, r⟩
  have all : ∀ {l : List Eh} {m : List En}, Paired (fun (p : Eh) (q : En) => p.1 = q.1 ∧ RelV p.2.1 q.2.1 ∧ RelV p.2.2 q.2.2) l m → (∀ e ∈ l, NK X.K H e.1 e.2.1 ∧ e.1.depth ≤ 8) → ∀ e ∈ m, NestedIs s.heap e.1 e.2.1 ∧ e.1.depth ≤ 8 := by
    intro l m q
    induction q with
    | nil => intro _ e he; exact nomatch he
    | @cons p q ps qs hq t ih =>
      intro hl e he
      rcases List.mem_cons.mp he with rfl | he
      · obtain ⟨a, b⟩ := hl p List.mem_cons_self
        rw [← hq.1]
        exact ⟨a.is I hq.2.1, b⟩
      · exact ih (fun e he => hl e (List.mem_cons_of_mem _ he)) e he
  exact all r D.nk
theorem dk_obj {P : Program} {w : World} {H : Hp} {h : Heap} {us : List En} (hd : (d == sysModules) = false) (hz : es.length ≤ sizeLine) (D : DkOf w h d us) (r : Paired (fun (p : Eh) (q : En) => p.1 = q.1 ∧ RelV p.2.1 q.2.1 ∧ RelV p.2.2 q.2.2) es us) :
    ObjOk P w H h d (DkO w d es) := by
  obtain ⟨⟨o, arr, ep, ho, hc, hdat, he⟩, _, _⟩ := D
  refine ⟨⟨hd, hz, o, arr, ep, us, ho, hc, hdat, he, r⟩, ⟨o, ho⟩, fun h1 h2 z st => ?_⟩
  obtain ⟨hd, hz, o, arr, ep, us, ho, rest⟩ := z
  exact ⟨hd, hz, o, arr, ep, us, st _ ho, rest⟩
theorem DA.keep (D : DA X.K X.w H d es) (t : Tups H H') (e : Rd H' d (DkO X.w d es)) : DA X.K X.w H' d es := ⟨e, fun x hx => ⟨(D.nk x hx).1.tups t, (D.nk x hx).2⟩, D.nd⟩
theorem dk_ntup {w : World} {H : Hp} {d : Addr} {es : List Eh} (e : H d = some (DkO w d es)) : ∀ xs, ¬ Rd H d (.tup xs) := fun xs h => by
  unfold Rd at h
  rw [e] at h
  rcases h with h | ⟨_, h⟩
  · exact nomatch (show DkO w d es = HO.tup xs from Option.some.inj h)
  · exact nomatch (show DkO w d es = HO.frz _ _ from Option.some.inj h)
/-- stored -/
theorem DA.put (D : DA X.K X.w H d es) (e : H d = some (DkO X.w d es)) {k : NestedKey} {v x : V} (n : NK X.K H k v) (kd : k.depth ≤ 8) : DA X.K X.w (upd H d (DkO X.w d (putE es k v x))) d (putE es k v x) := by
  have t : Tups H (upd H d (DkO X.w d (putE es k v x))) := Tups.upd (dk_ntup e)
  refine ⟨.inl upd_same, fun f hf => ?_, putE_nd D.nd⟩
  rcases putE_mem hf with ⟨g, hg, e1, e2⟩ | ⟨e1, e2⟩
  · rw [← e1, ← e2]
    exact ⟨(D.nk g hg).1.tups t, (D.nk g hg).2⟩
  · rw [e1, e2]
    exact ⟨n.tups t, kd⟩
theorem da_new {p : Addr} {w : World} {K : PySem.W.Frag} : DA K w (upd H p (DkO w p [])) p [] := ⟨.inl upd_same, (fun _ h => nomatch h), List.nodup_nil⟩
end
/-! ### the rules -/
section
variable {X : Cx} {pos : Pos}
def tDNewA (w : World) : TE := fun _ H Q => ∀ p, H p = none → Q (.ref p) (upd H p (DkO w p []))
theorem pe_dnewA : PE X (.Dict [] [] pos) (tDNewA X.w) := ⟨fun pins s σ H Q I h =>
  wpAny_Dict_empty ⟨.ref s.heap.objs.size, _, I.laid (a := s.heap.objs.size) (o := DkO X.w s.heap.objs.size []) (t' := s.toks) (fun _ _ q => Heap.get?_push_of_some _ q) (Nat.le_refl _) (by
    have e : (s.heap.push { cls := .type "dict", data := .dict #[] }).get? s.heap.objs.size = some { cls := .type "dict", data := .dict #[] } := Heap.get?_push_size _ rfl
    obtain ⟨_, hd, _⟩ := dk_empty (P := X.prog) (w := X.w) (H := H) s.heap I.big
    exact dk_obj (us := []) hd (Nat.zero_le _) ⟨⟨_, _, _, e, ⟨rfl, rfl, rfl⟩, rfl, rfl⟩, (fun _ h => nomatch h), List.nodup_nil⟩ .nil), rfl, h _ (I.hok.fresh (Nat.le_refl _))⟩⟩
def rInA (K : PySem.W.Frag) (w : World) : R2 := fun x y H Q => ∃ d es k, y = .ref d ∧ DA K w H d es ∧ NK K H k x ∧ k.depth ≤ 8 ∧ Q (.bl (atK es k).isSome) H
def rNotInA (K : PySem.W.Frag) (w : World) : R2 := fun x y H Q => ∃ d es k, y = .ref d ∧ DA K w H d es ∧ NK K H k x ∧ k.depth ≤ 8 ∧ Q (.bl (!(atK es k).isSome)) H
theorem op_inA (hu : X.A.units + 64 < cLine) : OpR X (compareOp .In) (rInA X.K X.w) := by
  intro pins s σ H x y v u Q I rx ry h
  obtain ⟨d, es, k, rfl, D, n, kd, q⟩ := h
  cases ry
  obtain ⟨hd, hz, us, R, r⟩ := D.raw I
  refine in_any (by omega) (n.is I rx) kd hd R ⟨.bl _, H, I.tok _, rfl, ?_⟩
  rw [← (pr_atK r k).isSome_eq]
  exact q
theorem op_notInA (hu : X.A.units + 64 < cLine) : OpR X (compareOp .NotIn) (rNotInA X.K X.w) := by
  intro pins s σ H x y v u Q I rx ry h
  obtain ⟨d, es, k, rfl, D, n, kd, q⟩ := h
  cases ry
  obtain ⟨hd, hz, us, R, r⟩ := D.raw I
  refine notIn_any (by omega) (n.is I rx) kd hd R ⟨.bl _, H, I.tok _, rfl, ?_⟩
  rw [← (pr_atK r k).isSome_eq]
  exact q
theorem relO_some {o : Option V} {u : Option Value} {v : V} (r : RelO o u) (h : o = some v) : ∃ z, u = some z ∧ RelV v z := by
  subst h
  cases u with
  | none => exact (show False from r).elim
  | some z => exact ⟨z, rfl, r⟩
def rIxA (K : PySem.W.Frag) (w : World) : R2 := fun x y H Q => ∃ d es k v, x = .ref d ∧ DA K w H d es ∧ NK K H k y ∧ k.depth ≤ 8 ∧ atK es k = some v ∧ Q v H
theorem ix_dictA (hu : X.A.units + 64 < cLine) : IxR X (rIxA X.K X.w) := by
  intro value slice pins s σ H x y v u Q I rx ry h hs
  obtain ⟨d, es, k, z, rfl, D, n, kd, hv, q⟩ := h
  cases rx
  obtain ⟨hd, hz, us, R, r⟩ := D.raw I
  obtain ⟨z', h1, h2⟩ := relO_some (pr_atK r k) hv
  refine subscriptTail_builtinR (x := z') R.type PySem.F.slot_dict_getitem.lookup ?_ hs
  exact getItem_any (by omega) (n.is I ry) kd R h1 ⟨rfl, z, H, I.tok _, h2, q⟩
def rSetA (K : PySem.W.Frag) (w : World) : TSet := fun o i v H Q => ∃ d es k, o = .ref d ∧ H d = some (DkO w d es) ∧ DA K w H d es ∧ NK K H k i ∧ k.depth ≤ 8 ∧ es.length < sizeLine ∧ Q (upd H d (DkO w d (putE es k i v)))
theorem dk_put {pins : List (Addr × Obj)} {σ : L2.St} {H : Hp} {s : Shared} {d : Addr} {es : List Eh} {us : List En} {k : NestedKey} {i v : V} {iv u : Value} {h' : Heap} {t : Nat} (I : Inv X pins σ H s) (e : H d = some (DkO X.w d es)) (hd : (d == sysModules) = false)
    (r : Paired (fun (p : Eh) (q : En) => p.1 = q.1 ∧ RelV p.2.1 q.2.1 ∧ RelV p.2.2 q.2.2) es us) (ri : RelV i iv) (rv : RelV v u) (hl : es.length < sizeLine) (hm : DkOf X.w h' d (putE us k iv u)) (hs : Heap.SameBut d s.heap h') :
    Inv X pins σ (upd H d (DkO X.w d (putE es k i v))) { s with heap := h', toks := t } := by
  have he : ∃ q, h'.get? d = some q := by
    obtain ⟨⟨o, _, _, ho, _⟩, _⟩ := hm
    exact ⟨o, ho⟩
  have hz : (putE es k i v).length ≤ sizeLine := by
    have := putE_len es k i v
    omega
  exact d_write I (by rw [e]; exact True.intro) hs he (dk_obj hd hz hm (pr_put r k ri rv))
theorem set_dictA (hu : X.A.units + 64 < cLine) : PSet X (rSetA X.K X.w) := by
  intro pins s σ H o i v ov iv u Q I ro ri rv h
  obtain ⟨d, es, k, rfl, e, D, n, kd, hl, q⟩ := h
  cases ro
  obtain ⟨hd, hz, us, R, r⟩ := D.raw I
  have hz2 : us.length ≤ sizeLine := by
    rw [← Paired.length r]
    exact hz
  exact setItem_any (by omega) (n.is I ri) kd R hz2 fun h' hm hs => ⟨_, dk_put I e hd r ri rv hl hm hs, q⟩
end
end AK

set_option Elab.async false
set_option linter.all false
set_option maxRecDepth 100000
set_option maxHeartbeats 4000000
namespace AK
open PySem PySem.Spec PyProof.Rows L2
section
variable {X : Cx}
/-- d.m(e, ..), d a dict of this kind -/
def isDA (w : World) (x : V) (H : Hp) : Prop := ∃ d es, x = .ref d ∧ Rd H d (DkO w d es)
theorem isDA_is {pins : List (Addr × Obj)} {σ : L2.St} {H : Hp} {s : Shared} {x : V} {v : PySem.Value} (I : L2.Inv X pins σ H s) (r : RelV x v) (ty : isDA X.w x H) :
    s.TypeIs v "dict" ∧ ∀ a, v = .ref a → ∃ ob, s.heap.get? a = some ob ∧ ob.dict = none := by
  obtain ⟨d, es, rfl, e⟩ := ty
  cases r
  obtain ⟨⟨_, _, o, arr, ep, us, ho, hc, _⟩, _, _⟩ := (show ObjOk X.prog X.w H s.heap d (DkO X.w d es) from e.ok I.hok)
  refine ⟨⟨o, ho, hc.1⟩, fun a z => ?_⟩
  cases z
  exact ⟨o, ho, hc.2.1⟩
def tBMA (w : World) (r : V → List V → Hp → VK → Prop) (to : TE) (t : TA) : TE := fun σ H Q => to σ H fun x H1 => isDA w x H1 ∧ t σ H1 fun xs H2 => r x xs H2 Q
variable {o e : PySem.Expr} {es : List PySem.Expr} {to : TE} {t : TA} {name : Str} {apos cpos : Pos} {id : String} {r : V → List V → Hp → VK → Prop}
theorem pe_bmA (slot : Slot "dict" name id) (hty : typeOf (.builtin id) = pure (.type "method_descriptor")) (hm : MtR X id r) (ho : PE X o to) (ha : PA X (e :: es) t)
    (hbase : attributeBase o name X.env (eval o X.env) = eval o X.env := by rfl)
    (hfew : ((backTo cpos (starEach (e :: es) X.env)).all (fun x => !x.1) && (backToKw cpos (keywordEach [] X.env)).all (fun x => x.1.isSome)
      && decide ((e :: es).length + ([] : List Keyword).length + (if ([] : List Keyword).isEmpty then 0 else 1) < 30)) = true := by rfl)
    (hline : (apos.endLine == cpos.line) = true := by rfl) (hs : starEach (e :: es) X.env = (false, eval e X.env) :: starEach es X.env := by rfl) (hplain : (backTo cpos (starEach es X.env)).any (·.1) = false := by rfl) :
    PE X (.Call (.Attribute o name apos) (e :: es) [] cpos) (tBMA X.w r to t) := by
  refine ⟨fun pins s σ H Q I h => ?_⟩
  refine wpAny_Call_method_late hbase hfew hline rfl (thn (ho.run pins s σ H _ I h) fun v s1 ⟨x, H1, I1, r1, ty, q1⟩ => ?_)
  obtain ⟨h1, h2⟩ := isDA_is I1 r1 ty
  refine ⟨"dict", id, PySem.F.plainAttrs_dict, slot, hty, h1, h2, ?_⟩
  have hA := ha.run cpos pins s1 σ H1 _ I1 q1
  rw [hs] at hA ⊢
  refine Calls.callWith_builtin (by show (false || (backTo cpos (starEach es X.env)).any (·.1)) = false; rw [hplain] <;> rfl) (Calls.evalArgs_plain ?_)
  exact thn hA fun us s2 ⟨vs, H2, I2, r2, q2⟩ => hm pins s2 σ H2 x vs v us Q I2 r1 r2 q2
def rGetA1 (K : PySem.W.Frag) (w : World) : V → List V → Hp → VK → Prop := fun x xs H Q => ∃ d es k y, x = .ref d ∧ xs = [y] ∧ DA K w H d es ∧ NK K H k y ∧ k.depth ≤ 8 ∧ Q ((atK es k).getD .non) H
def rGetA2 (K : PySem.W.Frag) (w : World) : V → List V → Hp → VK → Prop := fun x xs H Q => ∃ d es k y z, x = .ref d ∧ xs = [y, z] ∧ DA K w H d es ∧ NK K H k y ∧ k.depth ≤ 8 ∧ Q ((atK es k).getD z) H
def rSdA (K : PySem.W.Frag) (w : World) : V → List V → Hp → VK → Prop := fun x xs H Q => ∃ d es k y z, x = .ref d ∧ xs = [y, z] ∧ H d = some (DkO w d es) ∧ DA K w H d es ∧ NK K H k y ∧ k.depth ≤ 8 ∧ es.length < sizeLine ∧
  (∀ v, atK es k = some v → Q v H) ∧ (atK es k = none → Q z (upd H d (DkO w d (putE es k y z))))
theorem mt_getA1 (hu : X.A.units + 64 < cLine) : MtR X "dict.get" (rGetA1 X.K X.w) := by
  intro pins s σ H x xs v us Q I rx rs h
  obtain ⟨d, es, k, y, rfl, rfl, D, n, kd, q⟩ := h
  cases rx
  obtain ⟨u, rfl, ry⟩ := vals1 rs
  obtain ⟨hd, hz, us, R, r⟩ := D.raw I
  exact get1_any (by omega) (n.is I ry) kd hd R ⟨_, H, I.tok _, RelO.getD (d := V.non) (d' := PySem.Value.none) (pr_atK r k) rfl, q⟩
theorem mt_getA2 (hu : X.A.units + 64 < cLine) : MtR X "dict.get" (rGetA2 X.K X.w) := by
  intro pins s σ H x xs v us Q I rx rs h
  obtain ⟨d, es, k, y, z, rfl, rfl, D, n, kd, q⟩ := h
  cases rx
  obtain ⟨u, u2, rfl, ry, rz⟩ := vals2 rs
  obtain ⟨hd, hz, us, R, r⟩ := D.raw I
  exact get2_any (by omega) (n.is I ry) kd hd R ⟨_, H, I.tok _, RelO.getD (pr_atK r k) rz, q⟩
theorem mt_sdA (hu : X.A.units + 64 < cLine) : MtR X "dict.setdefault" (rSdA X.K X.w) := by
  intro pins s σ H x xs v us Q I rx rs h
  obtain ⟨d, es, k, y, z, rfl, rfl, e, D, n, kd, hl, q1, q2⟩ := h
  cases rx
  obtain ⟨u, u2, rfl, ry, rz⟩ := vals2 rs
  obtain ⟨hd, hz, us, R, r⟩ := D.raw I
  have hz2 : us.length ≤ sizeLine := by
    rw [← Paired.length r]
    exact hz
  have ro := pr_atK r k
  refine setdefault_any (by omega) (n.is I ry) kd hd R hz2 (fun v' hv => ?_) (fun hn h' hm hs => ?_)
  · rw [hv] at ro
    cases qv : atK es k with
    | none =>
      rw [qv] at ro
      exact (show False from ro).elim
    | some v =>
      rw [qv] at ro
      exact ⟨v, H, I.tok _, ro, q1 v qv⟩
  · rw [hn] at ro
    cases qv : atK es k with
    | none => exact ⟨z, _, dk_put I e hd r ry rz hl hm hs, rz, q2 qv⟩
    | some v =>
      rw [qv] at ro
      exact (show False from ro).elim
end
end AK

set_option Elab.async false
set_option linter.all false
set_option maxRecDepth 100000
set_option maxHeartbeats 4000000
namespace AK
open PySem PySem.Spec PyProof.Rows L2
/-- a comprehension's store into such a dict -/
theorem comp_put {X : Cx} {pins : List (Addr × Obj)} {σ : L2.St} {H : Hp} {s : Shared} {E : PySem.Value → Shared → Prop} {d : Addr} {es : List Eh} {k : NestedKey} {y z : V} {u r : PySem.Value} {Q : Unit → Shared → Prop} (hu : X.A.units + 64 < cLine) (I : L2.Inv X pins σ H s)
    (e : H d = some (DkO X.w d es)) (D : DA X.K X.w H d es) (n : NK X.K H k y) (kd : k.depth ≤ 8) (hl : es.length < sizeLine) (ry : RelV y u) (rz : RelV z r) (h : ∀ s', L2.Inv X pins σ (upd H d (DkO X.w d (putE es k y z))) s' → Q () s') :
    wpAny (model X.prog X.w) X.A (dictSet d u r) Q E s := by
  obtain ⟨hd, hz, us, R, rel⟩ := D.raw I
  have hz2 : us.length ≤ sizeLine := by
    rw [← Paired.length rel]
    exact hz
  exact dictSet_any (by omega) (n.is I ry) kd R hz2 fun h' hm hs => h _ (dk_put I e hd rel ry rz hl hm hs)
/-- how far a comprehension has come: the turns that are left, the heap's view -/
def tDcA (K : PySem.W.Frag) (w : World) (wi : TI) (g : TG) (tk tv : TE) (vs : List Nat) : TE := fun σ H Q => wi σ H fun J H1 => ∀ d, H1 d = none → ∃ Left : Nat → Nat → Hp → Prop, (∃ m, Left 0 m (upd H1 d (DkO w d []))) ∧ ∀ i m H, Left i m H →
  (J.stop i H ∧ Q (.ref d) H) ∨ (J.go i H ∧ ∃ Next : Hp → Prop, (∀ H', Next H' → ∃ m', m' < m ∧ Left (i + 1) m' H') ∧ ∀ x H', J.yld i H x H' → g x (wipe σ vs) H' fun σ2 H2 => wipe σ2 vs = wipe σ vs ∧
    tk σ2 H2 fun y H4 => tv σ2 H4 fun z H5 => ∃ es k, H5 d = some (DkO w d es) ∧ DA K w H5 d es ∧ NK K H5 k y ∧ k.depth ≤ 8 ∧ es.length < sizeLine ∧ Next (upd H5 d (DkO w d (putE es k y z))))
/-- the new dict, tracked -/
theorem fresh_dict {X : Cx} {pins : List (Addr × Obj)} {σ : L2.St} {H : Hp} {s : Shared} (I : L2.Inv X pins σ H s) :
    L2.Inv X pins σ (upd H s.heap.objs.size (DkO X.w s.heap.objs.size [])) { s with heap := s.heap.push { cls := .type "dict", data := .dict #[] } } := by
  refine I.laid (t' := s.toks) (fun _ _ q => Heap.get?_push_of_some _ q) (Nat.le_refl _) ?_
  have e : (s.heap.push { cls := .type "dict", data := .dict #[] }).get? s.heap.objs.size = some { cls := .type "dict", data := .dict #[] } := Heap.get?_push_size _ rfl
  obtain ⟨_, hd, _⟩ := dk_empty (P := X.prog) (w := X.w) (H := H) s.heap I.big
  exact dk_obj (us := []) hd (Nat.zero_le _) ⟨⟨_, _, _, e, ⟨rfl, rfl, rfl⟩, rfl, rfl⟩, (fun _ h => nomatch h), List.nodup_nil⟩ .nil
theorem pe_dcA {X : Cx} {kx vx tg it : PySem.Expr} {scope : Scope} {own : List (Str × Nat)} {pos : Pos} {wi : TI} {g : TG} {tk tv : TE} (hu : X.A.units + 64 < cLine) (calm : X.calm = true) (nd : X.N.Nodup) (walk : PI X tg it wi) (blk : BlkOk X.N X.env.scope scope own)
    (target : ∀ (s : Shared) (H : Hp) (C : Addr) (cl : List (Str × Addr)) (fp : List Addr), PG (X.blk s H scope (compEnvC scope cl C X.env) fp) tg g)
    (key : ∀ (s : Shared) (H : Hp) (C : Addr) (cl : List (Str × Addr)) (fp : List Addr), PE (X.blk s H scope (compEnvC scope cl C X.env) fp) kx tk)
    (val : ∀ (s : Shared) (H : Hp) (C : Addr) (cl : List (Str × Addr)) (fp : List Addr), PE (X.blk s H scope (compEnvC scope cl C X.env) fp) vx tv) (plain : ∀ x, foldedSetIterable it X.env x = pure x := by intro _; rfl) :
    PE X (.DictComp kx vx [⟨tg, it, [], 0⟩] scope pos) (tDcA X.K X.w wi g tk tv (own.map (·.2))) := by
  refine ⟨fun pins s0 σ H0 Q I0 start => ?_⟩
  rw [arm_eval_DictComp]
  have caught : ∀ y ∈ scope.names, y.2 = .free → ∃ c, X.env.cells.lookup y.1 = some c := fun y hy e => (blk.free y hy e).elim (fun k => I0.ok.has _ (.inl k)) fun k => I0.ok.has _ (.inr k)
  refine wpAny_comprehension_free (use := _) rfl plain (closure_ok caught) blk.kind (fun y hy e => by rw [blk.uniq y hy, e]) (thn (walk.run pins s0 σ H0 _ I0 start) fun _ sa ha => thn ha fun _ sb hb => ?_)
  obtain ⟨itA, feet, place, J, Hb, rfl, Ib, T, at0, apart, more⟩ := hb
  refine wpAny_newObj_type (newEnv_comp ?_)
  obtain ⟨Left, ⟨mFirst, first⟩, each⟩ := more sb.heap.objs.size (Ib.hok.fresh (Nat.le_refl _))
  have Ic := fresh_dict Ib
  have small : ∀ b ∈ feet, b < sb.heap.objs.size := fun b hb => let ⟨_, e, _⟩ := T.obj _ _ at0 b hb; Heap.lt_size e
  have apart2 : ∀ b ∈ feet, FpOk X pins (upd Hb sb.heap.objs.size (DkO X.w sb.heap.objs.size [])) b ∧ b < (sb.heap.push { cls := .type "dict", data := .dict #[] }).objs.size := fun b hb => by
    refine ⟨⟨?_, (apart b hb).2⟩, ?_⟩
    · rw [upd_ne (Nat.ne_of_lt (small b hb))]
      exact (apart b hb).1
    · rw [Heap.size_push]
      exact Nat.lt_succ_of_lt (small b hb)
  have at1 : place 0 (sb.heap.push { cls := .type "dict", data := .dict #[] }) := T.keep _ _ _ at0 fun b _ o e => Heap.get?_push_of_some _ e
  -- the block's own frame
  generalize eC : ({ sb with heap := sb.heap.push { cls := .type "dict", data := .dict #[] } } : Shared) = sc at Ic
  have hC : sb.heap.push { cls := .type "dict", data := .dict #[] } = sc.heap := by rw [← eC]
  rw [hC] at apart2 at1
  generalize sb.heap.objs.size = d at Ic apart2 first each ⊢
  generalize eH : upd Hb d (DkO X.w d []) = HC at Ic apart2 first
  have Id := block_start Ic blk nd apart2
  have ptg := target sc HC sc.heap.objs.size (cellsFrom (sc.heap.objs.size + 1) scope.names (cloFrom X.env.cells scope.names [])) feet
  have pky := key sc HC sc.heap.objs.size (cellsFrom (sc.heap.objs.size + 1) scope.names (cloFrom X.env.cells scope.names [])) feet
  have pvl := val sc HC sc.heap.objs.size (cellsFrom (sc.heap.objs.size + 1) scope.names (cloFrom X.env.cells scope.names [])) feet
  show codeAny _ _ (.compStart (.DictComp kx vx [⟨tg, it, [], 0⟩] scope pos) 0 (.ref itA) (.ref d) (compEnvC scope (cellsFrom (sc.heap.objs.size + 1) scope.names (cloFrom X.env.cells scope.names [])) sc.heap.objs.size X.env)) (compPost (model X.prog X.w) X.A X.xe none (EP X pins σ Q) (.ref d) sc.heap.objs.size) { sc with heap := pushCells (sc.heap.push { cls := .type "dict", data := .dict #[] }) scope.names }
  generalize eEnv : compEnvC scope (cellsFrom (sc.heap.objs.size + 1) scope.names (cloFrom X.env.cells scope.names [])) sc.heap.objs.size X.env = env at Id ptg pky pvl ⊢
  have eLoc : env.locals = sc.heap.objs.size := by rw [← eEnv] <;> rfl
  generalize eD : ({ sc with heap := pushCells (sc.heap.push { cls := .type "dict", data := .dict #[] }) scope.names } : Shared) = sd at Id ⊢
  have at2 : place 0 sd.heap := by
    rw [← eD]
    exact T.keep _ _ _ at1 fun b _ o e => pushCells_keeps _ _ _ _ (Heap.get?_push_of_some _ e)
  -- the walk's own objects stay apart
  have keptApart : ∀ {σ' : L2.St} {H' : Hp} {s' : Shared}, L2.Inv (X.blk sc HC scope env feet) [] σ' H' s' → (∀ b ∈ feet, H' b = none) → ∀ b ∈ feet, FpOk (X.blk sc HC scope env feet) [] H' b := fun I' no b hb => by
    obtain ⟨x1, x2⟩ := I'.ok.exf b hb
    exact ⟨no b hb, x1, I'.ok.exfs b hb, .inl hb, fun x c e => x2 x c e, fun p hp => by simp at hp⟩
  have turns : codeAny (model X.prog X.w) X.A (.compLoop (.DictComp kx vx [⟨tg, it, [], 0⟩] scope pos) 0 (.ref itA) (.ref d) env) (compPost (model X.prog X.w) X.A X.xe none (EP X pins σ Q) (.ref d) sc.heap.objs.size) sd := by
    refine compLoop_anyD (fun n s' => ∃ i H', L2.Inv (X.blk sc HC scope env feet) [] (wipe σ (own.map (·.2))) H' s' ∧ place i s'.heap ∧ (∀ b ∈ feet, H' b = none) ∧ Left i n H') ?_ mFirst ⟨0, HC, Id, at2, (fun b hb => (apart2 b hb).1.1), first⟩
    rintro n s1 ⟨i, H1, I1, p1, no1, left⟩
    rcases each i n H1 left with ⟨halt, here⟩ | ⟨goes, Next, down, turn⟩
    · refine thnF (T.done (X.blk sc HC scope env feet) rfl rfl rfl calm i [] s1 _ H1 (fun _ _ => False) I1 (keptApart I1 no1) p1 halt) fun r s2 z => ?_
      obtain ⟨rfl, I2⟩ := z
      have back : L2.Inv X pins σ H1 s2 := Ic.call' (ch := feet) I2.os I2.base I2.hok I2.bare fun b hb => by
        obtain ⟨⟨_, y1, _, y2, y3, y4⟩, _⟩ := apart2 b hb
        exact ⟨y2, y1, y3, y4⟩
      have nLoc : H1 sc.heap.objs.size = none := by
        rw [← eLoc]
        exact I2.free
      obtain ⟨m, hm, _⟩ := I2.loc
      have hm2 : s2.heap.Ns sc.heap.objs.size m := by
        rw [← eLoc]
        exact hm
      refine ⟨m, hm2, fun h'' sb2 => ?_⟩
      obtain ⟨y0, y1, y2, y3, y4, y5⟩ := Ic.fpOk (Nat.le_refl _) nLoc
      exact ⟨.ref d, H1, back.turned (t' := s2.toks) (fun b o hb e => (sb2.2 b hb).trans e) y0 y1 y3 y4 y5, rfl, here⟩
    · refine thnF (T.item (X.blk sc HC scope env feet) rfl rfl rfl calm i [] s1 _ H1 (fun _ _ => False) I1 (keptApart I1 no1) p1 goes) fun r s2 z => ?_
      obtain ⟨u, rfl, got⟩ := z
      refine thnF got fun _ s3 z => ?_
      obtain ⟨x, H3, I3, rx, yl, p3, no3⟩ := z
      have I3p := I3.pinned (keptApart I3 no3) (T.obj _ _ p3)
      refine thnF (ptg.run _ s3 _ H3 x u _ I3p rx (turn x H3 yl)) fun _ s4 z => ?_
      obtain ⟨σ4, H4, I4, same, q4⟩ := z
      refine wpAny_pure ?_
      rw [if_pos rfl]
      refine thnF (pky.run _ s4 σ4 H4 _ I4 q4) fun kv s5 z => ?_
      obtain ⟨y, H5, I5, ry, q5⟩ := z
      refine thnF (pvl.run _ s5 σ4 H5 _ I5 q5) fun vv s6 z => ?_
      obtain ⟨zv, H6, I6, rz, es, k, e6, D6, n6, kd, few, next⟩ := z
      refine comp_put (X := X.blk sc HC scope env feet) hu I6 e6 D6 n6 kd few ry rz fun s7 I7 => ?_
      obtain ⟨m', lower, left'⟩ := down _ next
      have pinned : ∀ b ∈ feet, ∀ o, s3.heap.get? b = some o → s7.heap.get? b = some o ∧ (upd H6 d (DkO X.w d (putE es k y zv))) b = none := fun b hb o e => by
        have z := I7.pin (b, o) (List.mem_append_right _ (List.mem_append_right _ (mem_pinsAt hb e)))
        exact ⟨z.1, z.2.1⟩
      have len : (wipe σ (own.map (·.2))).length = σ4.length := by rw [← same, wipe_length]
      refine ⟨m', lower, i + 1, _, (I7.unpinned (pins := [])).weak len (fun j v e => ?_), T.keep _ _ _ p3 fun b hb o e => (pinned b hb o e).1, (fun b hb => ?_), left'⟩
      · rw [← same] at e
        exact (wipe_some e).1
      · obtain ⟨o, e, _⟩ := T.obj _ _ p3 b hb
        exact (pinned b hb o e).2
  exact codeAny_compStart_dict turns (T.self X.A 0 _ _ _ at2 turns)
end AK

set_option Elab.async false
set_option linter.all false
set_option maxRecDepth 100000
set_option maxHeartbeats 4000000
namespace AK
open PySem PySem.Spec PyProof.Rows L2
/-! ### enumerate of a tuple -/
theorem new_enum {v : PySem.Value} {o : Obj} {Hb : Heap → Prop} (B : Begins v o Hb) :
    Meets (Builtin.«enumerate.__new__» ⟨[.type "enumerate", v], []⟩) (fun _ R s => Hb s.heap ∧
      R (.ok (.ret (.ref (s.heap.push o).objs.size))) { s with heap := (s.heap.push o).push { cls := .type "enumerate", data := .fields #[.none, .bool false, .ref s.heap.objs.size, rawInt 0, .none, .none] } }) :=
  .of_wp fun prog w A R s both => by
    obtain ⟨hp, gs, dr, tk, os⟩ := s
    obtain ⟨there, ends⟩ := both
    have sub1 := sub_enumerate
    have begun : ∀ {A' : Around} {E : PySem.Value → Shared → Prop} {Q : PySem.Value → Shared → Prop}, Q (.ref hp.objs.size) ⟨hp.push o, gs, dr, tk, os⟩ → wpAny (model prog w) A' (pyIter v) Q E ⟨hp, gs, dr, tk, os⟩ :=
      fun z => B.iter prog w _ _ ⟨hp, gs, dr, tk, os⟩ _ there z
    wp_walk using begun
    refine wpAny_stack_any fun st => wpAny_pure ?_
    split
    · rename_i c _ _ _ _ _
      by_cases ec : (c == PySem.Value.type "enumerate") = true
      · rw [ec]
        wp_walk using begun
        exact ⟨_, rfl, ends⟩
      · rw [Bool.eq_false_iff.mpr ec]
        wp_walk using begun
        exact ⟨_, rfl, ends⟩
    · wp_walk using begun
      exact ⟨_, rfl, ends⟩
theorem call_enum {prog : Program} {w : World} {A : Around} {E : PySem.Value → Shared → Prop} {s : Shared} {v : PySem.Value} {o : Obj} {Hb : Heap → Prop} {Q : PySem.Value → Shared → Prop} (B : Begins v o Hb) (there : Hb s.heap)
    (ends : ∀ h', IsEnum h' (s.heap.objs.size + 1) s.heap.objs.size 0 .none → h'.get? s.heap.objs.size = some o → (∀ b o, s.heap.get? b = some o → h'.get? b = some o) → Q (.ref (s.heap.objs.size + 1)) { s with heap := h' }) :
    wpAny (model prog w) A (call (.type "enumerate") [v]) Q E s := by
  refine callType_new PySem.F.called_enumerate (by decide) (PySem.F.typeCall_enumerate_1 _) (PySem.F.newCall_enumerate_1 _) (fun obj => PySem.F.args_object_init_2 obj _) PySem.F.entry_enumerate_new (new_enum B) ⟨there, ?_⟩
  have size1 : (s.heap.push o).objs.size = s.heap.objs.size + 1 := Heap.size_push ..
  have made : IsEnum ((s.heap.push o).push { cls := .type "enumerate", data := .fields #[.none, .bool false, .ref s.heap.objs.size, rawInt 0, .none, .none] }) (s.heap.objs.size + 1) s.heap.objs.size 0 .none := by
    have z := Heap.get?_push_size (s.heap.push o) (o := { cls := .type "enumerate", data := .fields #[.none, .bool false, .ref s.heap.objs.size, rawInt 0, .none, .none] }) rfl
    rw [size1] at z
    exact z
  show _ ∧ _
  rw [size1]
  exact ⟨⟨_, made, rfl⟩, ends _ made (Heap.get?_push_of_some _ (Heap.get?_push_size _ B.free)) fun b o x => Heap.get?_push_of_some _ (Heap.get?_push_of_some _ x)⟩
/-- each turn: a new pair of the place and the item -/
def IteT (K : PySem.W.Frag) (a : Addr) : It :=
  ⟨fun i H => ∃ (xs : List V) (x : V), SqT K H a xs ∧ xs[i]? = some x, fun i H v H' => ∃ T x, v = .ref T ∧ H T = none ∧ H' = upd H T (.tup [.int (i : Nat), x]) ∧ ∀ xs, SqT K H a xs → xs[i]? = some x, fun i H => ∃ xs : List V, SqT K H a xs ∧ xs.length = i⟩
theorem turn_enumT {P : Program} {w : World} {K : PySem.W.Frag} {elts : List PySem.Expr} {kk : Nat} {tpos : Pos} (a e it : Addr) :
    Turn P w K (.Tuple elts kk tpos) (IteT K a) [e, it] e (fun i h => (∃ old, IsEnum h e it ((i : Nat) : Int) old) ∧ h.IsTupleIter it a i ∧ e ≠ it) where
  mem := by simp
  obj := fun i h st b hb => by
    obtain ⟨⟨old, is⟩, ⟨o, there, _, data⟩, _⟩ := st
    rcases List.mem_cons.mp hb with rfl | hb
    · exact ⟨_, is, fun v q => nomatch q⟩
    · obtain rfl := List.mem_singleton.mp hb
      exact ⟨o, there, fun v q => by rw [data] at q; cases q⟩
  keep := fun i h h' st k => by
    obtain ⟨⟨old, is⟩, iter, ne⟩ := st
    exact ⟨⟨old, k e (by simp) _ is⟩, iter.at (fun o q => k it (by simp) o q), ne⟩
  item := by
    intro X hP hw hK calm i pins s σ H E I apart st more
    subst hP hw hK
    obtain ⟨⟨old, is⟩, iter, ne⟩ := st
    obtain ⟨xs, x, sq, at_⟩ := more
    obtain ⟨its, rel, tup, _⟩ := I.tuple sq
    obtain ⟨u, hu, ru⟩ := rel.get at_
    have few : i < its.toArray.size := by
      rw [List.size_toArray]
      exact (List.getElem?_eq_some_iff.mp hu).1
    have ea : e < s.heap.objs.size := Heap.lt_size is
    have ia : it < s.heap.objs.size := by
      obtain ⟨_, q, _⟩ := iter
      exact Heap.lt_size q
    have apart1 : a ≠ it := by
      rintro rfl
      obtain ⟨o1, g1, c1, _⟩ := tup
      obtain ⟨o2, g2, c2, _⟩ := iter
      rw [g1] at g2
      cases g2
      rw [c1] at c2
      exact absurd c2 (by decide)
    have apart2 : e ∉ [it, a] := fun z => by
      rcases List.mem_cons.mp z with z | z
      · exact ne z
      · obtain rfl := List.mem_singleton.mp z
        obtain ⟨o1, g1, c1, _⟩ := tup
        have g2 : s.heap.get? e = _ := is
        rw [g1] at g2
        cases g2
        exact absurd c1 (by show ¬ (PySem.Value.type "enumerate" = PySem.Value.type "tuple"); decide)
    refine wpAny_pyNext_enum_itemD (Draws.tuple (A := X.A.in1) (I.ok.hd calm) it a apart1 its.toArray) is ⟨iter, tup⟩ few ne apart2 fun y h' tk hy out st' hT size keep => ?_
    obtain rfl : y = u := by
      have z : its.toArray[i]? = some u := by simpa using hu
      exact Option.some.inj (hy.symm.trans z)
    refine ⟨_, rfl, wpAny_letOwnedTupleGo_enum (s := { s with heap := h', toks := tk + 1 }) out fun h'' is' sb => ?_⟩
    have hT2 : h''.get? s.heap.objs.size = some { cls := .type "tuple", data := .seq #[.int i tk, y] } := (sb.2 _ (Nat.ne_of_gt ea)).trans hT
    have new : ObjOk X.prog X.w (upd H s.heap.objs.size (.tup [.int (i : Nat), x])) h'' s.heap.objs.size (.tup [.int (i : Nat), x]) :=
      ⟨by show 2 ≤ sizeLine; decide, [.int i tk, y], .cons ⟨_, rfl⟩ (.cons ru .nil), ⟨_, hT2, rfl, _, rfl⟩⟩
    have I1 : L2.Inv X pins σ (upd H s.heap.objs.size (.tup [.int (i : Nat), x])) { s with heap := h'', toks := tk + 1 } :=
      I.turnedNew (ch := [e, it]) (fun b ob hb q => (sb.2 b (fun z => hb (by simp [z]))).trans (keep b ob (fun z => hb (by simp [z])) (fun z => hb (by simp [z])) q)) apart (Nat.le_refl _) new
    refine ⟨.ref s.heap.objs.size, _, I1, rfl, ⟨_, x, rfl, I.hok.fresh (Nat.le_refl _), rfl, fun ys hy => by rw [I.tuple_inj hy sq]; exact at_⟩, ⟨⟨y, ?_⟩, st'.1.at (fun o q => (sb.2 it (Ne.symm ne)).trans q), ne⟩, fun b hb => ?_⟩
    · have e1 : ((i + 1 : Nat) : Int) = (i : Int) + 1 := by omega
      rw [e1]
      exact is'
    · have hb' : b < s.heap.objs.size := by
        rcases List.mem_cons.mp hb with rfl | hb
        · exact ea
        · rw [List.mem_singleton.mp hb]
          exact ia
      rw [upd_ne (Nat.ne_of_lt hb')]
      exact (apart b hb).1
  done := by
    intro X hP hw hK calm i pins s σ H E I apart st more
    subst hP hw hK
    obtain ⟨⟨old, is⟩, iter, ne⟩ := st
    obtain ⟨xs, sq, rfl⟩ := more
    obtain ⟨its, rel, tup, _⟩ := I.tuple sq
    obtain ⟨y0, y1, y2, y3, y4, y5⟩ := apart it (by simp)
    have apart1 : a ≠ it := by
      rintro rfl
      obtain ⟨o1, g1, c1, _⟩ := tup
      obtain ⟨o2, g2, c2, _⟩ := iter
      rw [g1] at g2
      cases g2
      rw [c1] at c2
      exact absurd c2 (by decide)
    have size1 : xs.length = its.toArray.size := by
      rw [List.size_toArray]
      exact rel.length
    rw [size1] at is iter
    exact wpAny_pyNext_enum_endD (Draws.tuple (A := X.A.in1) (I.ok.hd calm) it a apart1 its.toArray) is ⟨iter, tup⟩ fun h' eb => ⟨rfl, I.turned (t' := s.toks) (fun b o hb q => eb b o hb q) y0 y1 y3 y4 y5⟩
  self := fun A i s Q E st h => let ⟨⟨_, is⟩, _⟩ := st; wpAny_pyIter_enum is h
def iEnumT (K : PySem.W.Frag) (ta : TA) : TI := fun σ H R => ta σ H fun vs H1 => ∃ a xs, vs = [.ref a] ∧ SqT K H1 a xs ∧ R (IteT K a) H1
theorem pi_enumT {X : Cx} {e : PySem.Expr} {ta : TA} {p pos tpos : Pos} {elts : List PySem.Expr} {kk : Nat} (hg : Gl X "enumerate") (hm : X.mg "enumerate" = none) (ha : PA X [e] ta) (hs : starEach [e] X.env = [(false, eval e X.env)] := by rfl) :
    PI X (.Tuple elts kk tpos) (.Call (.Name "enumerate" p) [e] [] pos) (iEnumT X.K ta) := by
  refine ⟨fun pins s σ H R I h => ?_⟩
  refine Call_ (ld_blt I hg hm boot_enumerate (PyProof.Rows.callWith_type1 (thn (ha.run pos pins s σ H _ I h) fun us s1 ⟨vs, H1, I1, r1, a, xs, ex, sq, q⟩ => ?_) hs rfl))
  subst ex
  obtain ⟨u, rfl, ru⟩ := vals1 r1
  cases ru
  obtain ⟨its, rel, tup, _⟩ := I1.tuple sq
  refine call_enum (begins_tuple a its.toArray) tup fun h' is iter keep => wpAny_pyIter_enum is ?_
  have I2 : L2.Inv X pins σ H1 { s1 with heap := h' } := I1.kept (t' := s1.toks) keep
  refine ⟨s1.heap.objs.size + 1, [s1.heap.objs.size + 1, s1.heap.objs.size], _, _, H1, rfl, I2, turn_enumT a (s1.heap.objs.size + 1) s1.heap.objs.size, ⟨⟨.none, is⟩, ⟨_, iter, rfl, rfl⟩, Nat.succ_ne_self _⟩, fun b hb => ?_, q⟩
  have le : s1.heap.objs.size ≤ b := by
    rcases List.mem_cons.mp hb with rfl | hb
    · exact Nat.le_succ _
    · rw [List.mem_singleton.mp hb]
      exact Nat.le_refl _
  exact I1.fpOk le (I1.hok.fresh le)
theorem walk_enumT {K : PySem.W.Frag} {a : Addr} {xs : List V} : Walk (IteT K a) xs.length (fun H => SqT K H a xs) (YPair (fun i => some (.int (i : Nat))) (fun i => xs[i]?)) := by
  refine ⟨fun i _ hi q => ⟨xs, xs[i], q, List.getElem?_eq_getElem hi⟩, fun _ q => ⟨xs, q, rfl⟩, ?_⟩
  rintro i H v H' _ q ⟨T, x, h1, h2, h3, h4⟩
  exact ⟨T, .int (i : Nat), x, h1, h2, h3, rfl, h4 xs q⟩
/-- a comprehension that makes such a dict, by its turns -/
theorem dcA_it {J : It} {n : Nat} {G : Hp → Prop} {Y : Nat → Hp → V → Hp → Prop} (wk : Walk J n G Y) {K : PySem.W.Frag} {w : World} {g : TG} {tk tv : TE} {vs : List Nat} {σ : L2.St} {H1 : Hp} {d : Addr} {Qd : Hp → Prop} (Pv : Nat → Hp → Prop) (h0 : Pv 0 (upd H1 d (DkO w d []))) (hG : ∀ i H, i ≤ n → Pv i H → G H)
    (hs : ∀ i x H H', i < n → Pv i H → Y i H x H' → g x (wipe σ vs) H' fun σ2 H2 => wipe σ2 vs = wipe σ vs ∧
      tk σ2 H2 fun y H4 => tv σ2 H4 fun z H5 => ∃ es k, H5 d = some (DkO w d es) ∧ DA K w H5 d es ∧ NK K H5 k y ∧ k.depth ≤ 8 ∧ es.length < sizeLine ∧ Pv (i + 1) (upd H5 d (DkO w d (putE es k y z)))) (hd : ∀ H, Pv n H → Qd H) :
    ∃ Left : Nat → Nat → Hp → Prop, (∃ m, Left 0 m (upd H1 d (DkO w d []))) ∧ ∀ i m H, Left i m H →
      (J.stop i H ∧ Qd H) ∨ (J.go i H ∧ ∃ Next : Hp → Prop, (∀ H', Next H' → ∃ m', m' < m ∧ Left (i + 1) m' H') ∧ ∀ x H', J.yld i H x H' → g x (wipe σ vs) H' fun σ2 H2 => wipe σ2 vs = wipe σ vs ∧
        tk σ2 H2 fun y H4 => tv σ2 H4 fun z H5 => ∃ es k, H5 d = some (DkO w d es) ∧ DA K w H5 d es ∧ NK K H5 k y ∧ k.depth ≤ 8 ∧ es.length < sizeLine ∧ Next (upd H5 d (DkO w d (putE es k y z)))) := by
  refine ⟨fun i m H => m = n - i ∧ i ≤ n ∧ Pv i H, ⟨n, by omega, Nat.zero_le _, h0⟩, ?_⟩
  rintro i m H ⟨rfl, le, p⟩
  have here := hG i H le p
  rcases Nat.lt_or_ge i n with lt | ge
  · exact .inr ⟨wk.goes i H lt here, Pv (i + 1), fun H' p' => ⟨n - (i + 1), by omega, rfl, lt, p'⟩, fun x H' y => hs i x H H' lt p (wk.yields i H x H' lt here y)⟩
  · obtain rfl : i = n := by omega
    exact .inl ⟨wk.stops H here, hd H p⟩
end AK

set_option Elab.async false
set_option linter.all false
set_option maxRecDepth 100000
set_option maxHeartbeats 4000000
namespace Tr
open PySem PySem.Spec PyProof.Rows L2

/-! ### what the head must say of an own error's class -/
def xcB (K : PySem.W.Frag) (C : Addr) : Bool := match K.lookup C with
  | some ⟨.type "type", _, .cls cd, sl⟩ => (match cd.mro, sl.toList with
    | .ref C' :: bm, [_, _, _, _, some (.builtin n), _] => C' == C && (n == "ValueError.__new__" && (!cd.hasDel && (cd.hasDict && PySem.HandSPX.refsVE bm)))
    | _, _ => false)
  | _ => false
theorem xcB_ok {K : PySem.W.Frag} {C : Addr} (q : xcB K C = true) :
    ∃ nm qn N bs bm sn sub ab col dd k0 k1 k2 k3 k5, K.lookup C = some (excClassObj nm qn C N bs bm true sn sub ab col dd k0 k1 k2 k3 k5 "ValueError.__new__") ∧ PySem.HandSPX.refsVE bm = true := by
  unfold xcB at q
  split at q
  · rename_i dd cd sl ho
    split at q
    · rename_i C1 bm k0 k1 k2 k3 n k5 hm hs
      obtain ⟨q1, q⟩ := Bool.and_eq_true_iff.mp q
      obtain ⟨q2, q⟩ := Bool.and_eq_true_iff.mp q
      obtain ⟨q3, q⟩ := Bool.and_eq_true_iff.mp q
      obtain ⟨q4, q5⟩ := Bool.and_eq_true_iff.mp q
      have e1 : C1 = C := beq_iff_eq.mp q1
      have e2 : n = "ValueError.__new__" := beq_iff_eq.mp q2
      subst e1 e2
      obtain ⟨nm, bs, mro, ns, qn, hd, sn, sub, ab, col, del⟩ := cd
      dsimp only at hm q3 q4
      obtain ⟨l⟩ := sl
      dsimp only at hs
      subst hm hs q4
      have e3 : del = false := by
        cases del with
        | false => rfl
        | true => cases q3
      subst e3
      exact ⟨nm, qn, ns, bs, bm, sn, sub, ab, col, dd, k0, k1, k2, k3, k5, ho, q5⟩
    · cases q
  · cases q
/-- a class of errors of one's own: how it is made, how its fields are stored and read, how isinstance asks its instances -/
structure Xc (K : PySem.W.Frag) (C : Addr) : Prop where
  o : OexC K C
  f : XfC K C
  i : ExcC K C
def xcAll (K : PySem.W.Frag) (C : Addr) : Bool :=
  xcB K C && (xfB K C && (decide (PySem.W.findIn K (.ref C) "__setattr__" = some (some (.builtin "object.__setattr__"))) && (decide (PySem.W.typeIn K (.ref C) = some (.type "type")) && (PySem.W.keepIn K (.ref C) &&
    (decide (PySem.W.findIn K (.ref C) "__class__" = some (some (.builtin "object.__class__"))) && (decide (PySem.W.specialIn K (.builtin "object.__class__") "__get__" = some (some (.builtin "getset_descriptor.__get__"))) &&
      (decide (PySem.W.takesIn K (.builtin "object.__class__") = some true) && decide (PySem.W.mroIn K C (.type "object") = some true))))))))
theorem xcAll_ok {K : PySem.W.Frag} {C : Addr} (h : xcAll K C = true) : Xc K C := by
  obtain ⟨h1, h⟩ := Bool.and_eq_true_iff.mp h
  obtain ⟨h2, h⟩ := Bool.and_eq_true_iff.mp h
  obtain ⟨h3, h⟩ := Bool.and_eq_true_iff.mp h
  obtain ⟨h4, h⟩ := Bool.and_eq_true_iff.mp h
  obtain ⟨h5, h⟩ := Bool.and_eq_true_iff.mp h
  obtain ⟨h6, h⟩ := Bool.and_eq_true_iff.mp h
  obtain ⟨h7, h⟩ := Bool.and_eq_true_iff.mp h
  obtain ⟨h8, h9⟩ := Bool.and_eq_true_iff.mp h
  have F := xfB_ok h2
  exact ⟨⟨xcB_ok h1, of_decide_eq_true h3, F.exC, of_decide_eq_true h4, h5⟩, F, ⟨F.ga, F.gg, F.exC, F.hdC, of_decide_eq_true h6, of_decide_eq_true h7, of_decide_eq_true h8, of_decide_eq_true h9⟩⟩
/-- isinstance among these classes: each is just itself -/
def kitB1 (K : PySem.W.Frag) (Cs : List Addr) : Bool := Cs.all fun c => Cs.all fun d => decide (PySem.W.kitOne K (.ref c) (.ref d) = some (c == d))
def kitUp (K : PySem.W.Frag) (Cs : List Addr) (t : PySem.Value) : Bool := Cs.all fun c => decide (PySem.W.kitOne K (.ref c) t = some true)
end Tr
/-! ### constants of the written part that are data -/
namespace AK
open PySem PySem.Spec PyProof.Rows L2
mutual
def datB (K : PySem.W.Frag) : Nat → PySem.Value → PyData → Bool
  | 0, _, _ => false
  | n + 1, v, d => match d, v with
    | .none, .none => true
    | .int i, .int j _ => decide (i = j)
    | .str x, .str y _ => decide (x = y)
    | .tuple ds, .ref a => (match K.lookup a with
      | some ⟨.type c, _, .seq its _, _⟩ => decide (c = "tuple") && (decide (its.size ≤ 100) && datsB K n its.toList ds)
      | _ => false)
    | _, _ => false
def datsB (K : PySem.W.Frag) : Nat → List PySem.Value → List PyData → Bool
  | 0, _, _ => false
  | _ + 1, [], [] => true
  | n + 1, v :: vs, d :: ds => datB K n v d && datsB K n vs ds
  | _ + 1, _, _ => false
end
mutual
theorem datB_ok {K : PySem.W.Frag} : ∀ (n : Nat) (v : PySem.Value) (d : PyData), datB K n v d = true → ∃ x, RelV x v ∧ ∀ H, Dp K H x d
  | 0, _, _, h => by
    unfold datB at h
    cases h
  | n + 1, v, d, h => by
    unfold datB at h
    split at h
    · exact ⟨.non, rfl, fun _ => .non⟩
    · rename_i i j t
      obtain rfl := of_decide_eq_true h
      exact ⟨.int i, ⟨t, rfl⟩, fun _ => .int i⟩
    · rename_i x y t
      obtain rfl := of_decide_eq_true h
      exact ⟨.str x, ⟨t, rfl⟩, fun _ => .str x⟩
    · rename_i ds a
      split at h
      · rename_i c od its k sl e
        obtain ⟨h1, h⟩ := Bool.and_eq_true_iff.mp h
        obtain ⟨h2, h3⟩ := Bool.and_eq_true_iff.mp h
        obtain rfl := of_decide_eq_true h1
        have h2 := of_decide_eq_true h2
        obtain ⟨xs, r, q⟩ := datsB_ok n _ _ h3
        have hn : its.size ≤ sizeLine := by
          rw [sizeLine_eq]
          omega
        refine ⟨.ref a, rfl, fun H => .tup (.inr ⟨_, its, k, e, rfl, rfl, hn, r⟩) (q H)⟩
      · cases h
    · cases h
theorem datsB_ok {K : PySem.W.Frag} : ∀ (n : Nat) (vs : List PySem.Value) (ds : List PyData), datsB K n vs ds = true → ∃ xs, Vals xs vs ∧ ∀ H, DpAll K H xs ds
  | 0, _, _, h => by
    unfold datsB at h
    cases h
  | n + 1, [], [], _ => ⟨[], .nil, fun _ => .nil⟩
  | n + 1, v :: vs, d :: ds, h => by
    unfold datsB at h
    obtain ⟨h1, h2⟩ := Bool.and_eq_true_iff.mp h
    obtain ⟨x, r, q⟩ := datB_ok n v d h1
    obtain ⟨xs, rs, qs⟩ := datsB_ok n vs ds h2
    exact ⟨x :: xs, .cons r rs, fun H => .cons (q H) (qs H)⟩
  | n + 1, [], _ :: _, h => by
    unfold datsB at h
    cases h
  | n + 1, _ :: _, [], h => by
    unfold datsB at h
    cases h
end
end AK
namespace Tr
open PySem PySem.Spec PyProof.Rows L2

/-! ### an own error as a value: made by its __init__, kept, its fields read -/
/-- x(e, ..): what __init__ must bear at the new error, which stays tracked -/
def tXmk (C : Addr) (sp : Sp) (ta : TA) : TE := fun σ H Q => ta σ H fun vs H1 =>
  vs.length ≤ 1000 ∧ ∀ a, H1 a = none → sp (.ref a :: vs) (upd H1 a (exo a C none)) (fun v H2 => v = .non ∧ Q (.ref a) H2) E0
section
variable {Y : Cx} {nm : Str} {C fI : Addr} {k : Nat} {fd : FuncData} {ps : List Str} {sp : Sp} {pins : List (Addr × Obj)} {σ : L2.St} {H : Hp}
/-- the class is called with values -/
theorem xmk_run {s : Shared} {us : List PySem.Value} {vs : List V} {Q : VK} (T : OexC Y.K C) (hi : PySem.W.findIn Y.K (.ref C) "__init__" = some (some (.ref fI))) (ht : PySem.W.typeIn Y.K (.ref fI) = some (.type "function"))
    (FF : FnOk Y.prog Y.w Y.K Y.mg Y.base CX0 k fI fd ps sp) (room : Room (k + 1) Y.A) (bs : Binds Y.K fd ps []) (I : L2.Inv Y pins σ H s) (rel : Vals vs us) (small : vs.length ≤ 1000)
    (want : ∀ a, H a = none → sp (.ref a :: vs) (upd H a (exo a C none)) (fun v H2 => v = .non ∧ Q (.ref a) H2) E0) :
    wpAny (model Y.prog Y.w) Y.A (call (.ref C) us) (EP Y pins σ Q) Y.xe s := by
  obtain ⟨n1, n2, n3, n4, bm, n5, n6, n7, n8, n9, l0, l1, l2, l3, l5, look, chain⟩ := T.cls
  obtain ⟨h0, gs, dr, tk, os⟩ := s
  have le1 : h0.objs.size ≤ h0.objs.size + 1 := Nat.le_succ _
  have new1 : H (h0.objs.size + 1) = none := I.hok.fresh le1
  have sp1 := want (h0.objs.size + 1) new1
  have keep2 : ∀ b o, h0.get? b = some o → ((h0.push (PySem.W.kdv_tup us)).push (PySem.HandSPX.excO C h0.objs.size)).get? b = some o :=
    fun b o e => Heap.get?_push_of_some _ (Heap.get?_push_of_some _ e)
  have at2 : ((h0.push (PySem.W.kdv_tup us)).push (PySem.HandSPX.excO C h0.objs.size)).get? (h0.objs.size + 1) = some (PySem.HandSPX.excO C h0.objs.size) := by heap_get
  have J : L2.Inv Y pins σ (upd H (h0.objs.size + 1) (exo (h0.objs.size + 1) C none))
      ⟨(h0.push (PySem.W.kdv_tup us)).push (PySem.HandSPX.excO C h0.objs.size), gs, dr, tk, os⟩ :=
    I.laid (t' := tk) (a := h0.objs.size + 1) (o := exo (h0.objs.size + 1) C none)
      (h' := (h0.push (PySem.W.kdv_tup us)).push (PySem.HandSPX.excO C h0.objs.size)) keep2 le1 (exo_ok at2)
  have relS : Vals (V.ref (h0.objs.size + 1) :: vs) (PySem.Value.ref (h0.objs.size + 1) :: us) := .cons rfl rel
  have lenS : (PySem.Value.ref (h0.objs.size + 1) :: us ++ []).length = ps.length := by
    rw [List.append_nil, ← relS.length]
    exact FF.len _ _ _ _ sp1
  have few : us.length ≤ sizeLine := by
    have e := Paired.length rel
    rw [sizeLine_eq]
    omega
  have bound : BindsTo ⟨(h0.push (PySem.W.kdv_tup us)).push (PySem.HandSPX.excO C h0.objs.size), gs, dr, tk, os⟩ fd ⟨PySem.Value.ref (h0.objs.size + 1) :: us, []⟩ (ps.zip (PySem.Value.ref (h0.objs.size + 1) :: us)) := by
    have b := bs _ (PySem.Value.ref (h0.objs.size + 1) :: us) J.kIn lenS
    rw [List.append_nil] at b
    exact b
  refine wpAny_call (PySem.HandSPX.call_own F.excBase_ValueError (fun Z => PySem.HandSPX.refsVE_contains Z bm chain) (I.kIn _ _ look)
    (PySem.W.looks_findIn I.kIn hi) (fun self => PySem.W.bind_fn I.kIn self ht) few
    (codeAny_mono (FF.run _ Y.stack _ _ _ _ _ _ E0 (room.make C us []) (J.env0.make C us []) bound relS sp1) fun r s' hq => ?_))
  match r, hq with
  | .ok (.ret u), hq =>
    obtain ⟨v, H', K1, rv, ev, q⟩ := J.after hq
    subst ev
    exact ⟨rv, ⟨V.ref (h0.objs.size + 1), H', K1, rfl, q⟩⟩
  | .ok .next, hq => exact hq.elim
  | .ok .brk, hq => exact hq.elim
  | .ok .cont, hq => exact hq.elim
  | .error _, hq => exact hq.elim
theorem pe_xmk {e : PySem.Expr} {es : List PySem.Expr} {ta : TA} {p pos : Pos} (T : OexC Y.K C) (hi : PySem.W.findIn Y.K (.ref C) "__init__" = some (some (.ref fI))) (ht : PySem.W.typeIn Y.K (.ref fI) = some (.type "function"))
    (FF : FnOk Y.prog Y.w Y.K Y.mg Y.base CX0 k fI fd ps sp) (room : Room (k + 1) Y.A) (bs : Binds Y.K fd ps []) (hm : Y.mg nm = some (.ref C)) (ha : PA Y (e :: es) ta) (hg : Gl Y nm := by rfl)
    (nodebug : (nm == ("__debug__" : Str)) = false := by decide) (stars : starEach (e :: es) Y.env = (false, eval e Y.env) :: starEach es Y.env := by rfl)
    (plain : (backTo pos (starEach es Y.env)).any (·.1) = false := by rfl) : PE Y (.Call (.Name nm p) (e :: es) [] pos) (tXmk C sp ta) := by
  refine ⟨fun pins s σ H Q I h => wpAny_Call_Name_kw (ld_glob I hg hm ?_ nodebug)⟩
  refine PySem.W.callWith_K (h₀ := Y.base) I.ok.mod.kin T.kC (thn (ha.run pos pins s σ H _ I h) ?_) stars plain
  rintro us s1 ⟨vs, H1, I1, rel, small, want⟩
  exact ⟨I1.kIn, xmk_run T hi ht FF room bs I1 rel small want⟩
theorem pe_xmk0 {p pos : Pos} (T : OexC Y.K C) (hi : PySem.W.findIn Y.K (.ref C) "__init__" = some (some (.ref fI))) (ht : PySem.W.typeIn Y.K (.ref fI) = some (.type "function"))
    (FF : FnOk Y.prog Y.w Y.K Y.mg Y.base CX0 k fI fd ps sp) (room : Room (k + 1) Y.A) (bs : Binds Y.K fd ps []) (hm : Y.mg nm = some (.ref C)) (hg : Gl Y nm := by rfl)
    (nodebug : (nm == ("__debug__" : Str)) = false := by decide) : PE Y (.Call (.Name nm p) [] [] pos) (tXmk C sp tNil) := by
  refine ⟨fun pins s σ H Q I h => wpAny_Call_Name_kw (ld_glob I hg hm ?_ nodebug)⟩
  exact PySem.W.callWith_K0 I.kIn T.kC (xmk_run (us := []) (vs := []) T hi ht FF room bs I .nil h.1 h.2)

/-- e.f of such an error -/
def tXget (K : PySem.W.Frag) (te : TE) (f : Str) : TE := fun σ H Q => te σ H fun x H1 => ∃ (a C d : Addr) (fs : List (Str × V)) (v : V),
  x = .ref a ∧ H1 a = some (exo a C (some d)) ∧ H1 d = some (exd d fs) ∧ XfC K C ∧ PySem.W.findIn K (.ref C) f = some none ∧ fs.lookup f = some v ∧ Q v H1
theorem xo_inst {h : Heap} {a C d t1 : Addr} {od : Obj} (e : h.get? a = some ({ cls := .ref C, dict := some d, data := .fields #[.ref t1, .none, .none, .none, .bool false, .none] } : Obj)) (hd : h.get? d = some od) :
    PySem.W.InstAt h a { cls := .ref C, dict := some d, data := .fields #[.ref t1, .none, .none, .none, .bool false, .none] } C (some od) := ⟨e, rfl, rfl, hd⟩
theorem pe_xget {e : PySem.Expr} {te : TE} {f : Str} {pos : Pos} (he : PE Y e te) (base : attributeBase e f Y.env (eval e Y.env) = eval e Y.env := by rfl) : PE Y (.Attribute e f pos) (tXget Y.K te f) := by
  refine ⟨fun pins s σ H Q I h => attr_of base (thn (he.run pins s σ H _ I h) ?_)⟩
  rintro u s1 ⟨x, H1, I1, rx, a, C, d, fs, v, rfl, ea, ed, T, hno, hl, q⟩
  obtain rfl : u = PySem.Value.ref a := rx
  obtain ⟨t1, oa⟩ := exo_at I1.hok ea
  obtain ⟨mA, hns, rel⟩ := exd_at I1.hok ed
  obtain ⟨od, ho, look⟩ := lookIn_ns hns
  have some_f : RelO (some v) (mA f) := by
    have z := rel f
    rw [hl] at z
    exact z
  obtain ⟨u2, hu, ru⟩ := RelO.some_of some_f
  have own : PySem.W.lookIn f od = some (some u2) := by rw [look, hu]
  exact PySem.HandSPX.exc_get I1.kIn (xo_inst oa ho) T.ga T.gg T.exC (PySem.W.findObj_own T.hdC hno rfl own) (handed_of ru) ⟨v, H1, I1.tok _, ru, q⟩
end

/-! ### repr of data -/
/-- the shown text of a value that is data -/
def rShow (K : PySem.W.Frag) : List V → Hp → VK → Prop := fun xs H Q => ∃ (a : Addr) (d : PyData), xs = [.ref a] ∧ Dp K H (.ref a) d ∧ d.showable = true ∧ d.hasDict = false ∧ d.depth ≤ 60 ∧ d.shown.length ≤ sizeLine ∧ Q (.str d.shown) H
theorem call_show {Y : Cx} (free : Y.A.guards = some []) (hu : Y.A.units + 64 < cLine) : CallR Y (.builtin "repr") (rShow Y.K) := by
  intro pins s σ H xs us Q I rel h
  obtain ⟨a, d, rfl, hd, hs, nd, deep, short, q⟩ := h
  obtain ⟨u, rfl, ru⟩ := vals1 rel
  obtain rfl : u = PySem.Value.ref a := ru
  obtain ⟨as, rd⟩ := Dp.reads I d (.ref a) (.ref a) hd rfl
  refine repr_of_reads' rd hs (PyData.noDict_hsm nd) free (by omega) (fun _ _ e => e) (fun h' t' tk keep => ?_) short
  exact ⟨.str d.shown, H, I.kept (t' := tk) keep, ⟨_, rfl⟩, q⟩
end Tr
namespace Tr
open PySem PySem.Spec PyProof.Rows L2
/-! ### isinstance of an own error that is held as a value -/
/-- an own error at a: its class C, its dict (none as yet, or one with these fields) -/
def XoAt (H : Hp) (a C : Addr) (fs : Option (List (Str × V))) : Prop := match fs with
  | none => H a = some (exo a C none)
  | some l => ∃ d, H a = some (exo a C (some d)) ∧ H d = some (exd d l)
theorem xo_some {Y : Cx} {pins : List (Addr × Obj)} {σ : L2.St} {H : Hp} {s : Shared} {a C : Addr} {fs : Option (List (Str × V))} (I : L2.Inv Y pins σ H s) (h : XoAt H a C fs) : ∃ ox od, PySem.W.InstAt s.heap a ox C od := by
  cases fs with
  | none =>
    obtain ⟨t, e⟩ := exo_at I.hok (show H a = some (exo a C none) from h)
    exact ⟨_, none, e, rfl, rfl, trivial⟩
  | some l =>
    obtain ⟨d, ea, ed⟩ := h
    obtain ⟨t, oa⟩ := exo_at I.hok ea
    obtain ⟨mA, hns, _⟩ := exd_at I.hok ed
    obtain ⟨od, ho, _⟩ := lookIn_ns hns
    exact ⟨_, some od, xo_inst oa ho⟩
def rIsX (K : PySem.W.Frag) : List V → Hp → VK → Prop := fun xs H Q => ∃ (a C : Addr) (fs : Option (List (Str × V))) (c : V) (cv : PySem.Value) (b : Bool),
  xs = [.ref a, c] ∧ XoAt H a C fs ∧ ClsV c cv ∧ Xc K C ∧ PySem.W.kitOne K (.ref C) cv = some b ∧ Q (.bl b) H
theorem call_isX {Y : Cx} : CallR Y (.builtin "isinstance") (rIsX Y.K) := by
  intro pins s σ H xs us Q I rel h
  obtain ⟨a, C, fs, c, cv, b, rfl, hx, hc, T, e, q⟩ := h
  obtain ⟨u, u2, rfl, ru, rc⟩ := vals2 rel
  obtain rfl : u = PySem.Value.ref a := ru
  obtain rfl := hc.eq rc
  obtain ⟨ox, od, J⟩ := xo_some I hx
  have isC : (PySem.W.clsIn Y.K C).isSome = true := by
    obtain ⟨cd, e, _⟩ := PySem.W.any_some T.f.hdC
    rw [e]
    rfl
  have Z := PySem.W.kitx_exc (x := a) (ox := ox) (od := od) isC T.f.ga T.f.gg T.f.exC T.i.ha T.i.hn T.i.ht T.i.hm
  exact PySem.W.kia_one Z I.kIn J e (fun z => nomatch z) fun tk => ⟨.bl b, H, I.tok tk, rfl, q⟩
end Tr
namespace Tr
open PySem PySem.Spec PyProof.Rows L2
/-! ### a def that runs where nothing is being shown: repr may be asked in it -/
structure GOk (P : Program) (w : World) (K : PySem.W.Frag) (mg : Str → Option PySem.Value) (base : Heap) (k : Nat) (f : Addr) (fd : FuncData) (ps : List Str) (sp : Sp) : Prop where
  len : ∀ vs H Q, sp vs H Q E0 → vs.length = ps.length
  run : ∀ (A : Around) (outer : List Env) (s : Shared) (H : Hp) (args : Args) (us : List PySem.Value) (vs : List V) (Q : VK), Room k A → A.guards = some [] → Env0 P w K mg base A outer s H →
    BindsTo s fd args (ps.zip us) → Vals vs us → sp vs H Q E0 → codeAny (model P w) A (.call (.ref f) args) (CR CX0 outer P w H s Q E0) s
section
variable {P : Program} {w : World} {K : PySem.W.Frag} {mg : Str → Option PySem.Value} {base : Heap} {x qual : Str} {params : Arguments} {body : List PySem.Stmt} {scope : Scope} {f : Addr} {fd : FuncData}
theorem GOk.of {N ps : List Str} {k : Nat} {sp : Sp} {dvs : List V} {kws : List (Str × V)} (D : FunD K x qual params body scope dvs kws f fd) (S : FnScope N ps scope) (len : ∀ vs H Q, sp vs H Q E0 → vs.length = ps.length)
    (walk : ∀ (cdv : PySem.Value) (A : Around) (outer : List Env) (s : Shared) (H : Hp) (vs : List V) (Q : VK), Room k (A.deeper (envOfC qual scope s.heap.objs.size f cdv)) → A.guards = some [] → sp vs H Q E0 →
      ∃ t, PSs (cxOf CX0 P w K mg base N qual scope f cdv A outer s H E0).nox body t ∧ t { nx := fun _ H' => Q .non H', rt := Q } (start N vs) H) : GOk P w K mg base (k + 1) f fd ps sp := by
  obtain ⟨oc, od, dV, kV, doc, pm, an, cdv, ct, osl, rfl, found, isCode, _, _⟩ := D.ex
  refine ⟨len, fun A outer s H args us vs Q room free e0 bound rel h => ?_⟩
  have inK : K.In s.heap := e0.mod.kin.keeps fun b o e => (e0.bs b o e).1
  have roomy : s.heap.NoLimit := e0.mod.nolimit.keeps fun b o e => (e0.bs b o e).1
  have kinds : ∀ y ∈ ps.zip us, scope.names.lookup y.1 = some .local ∨ (scope.names.lookup y.1 = some .cell ∧ ((cellsFrom (s.heap.objs.size + 1) scope.names []).lookup y.1).isSome = true) := by
    rintro ⟨n, v⟩ hy
    exact (S.par n (List.of_mem_zip hy).1).imp id fun c => ⟨c, PySem.W.cellsFrom_some _ _ _ (.inl c)⟩
  refine codeAny_call_function room.depth (inK _ _ found) rfl S.co S.gen rfl (PySem.W.codeRec_of inK isCode) (bound _ _ _ _ (wpAny_newFunctionEnv_cells S.kind kinds ?_))
  rintro env1 rfl s1 into
  refine ⟨roomy.keeps into.toInCall.keep, codeAny_func ?_⟩
  obtain ⟨t, term, reads⟩ := walk cdv A outer s H vs Q (room.deeper _) free h
  have I1 := inv_start (CX := CX0) (P := P) (w := w) (K := K) (mg := mg) (base := base) (qual := qual) (f := f) (cd := cdv) (E := E0) S room.hd e0 (len _ _ _ h) rel into
  refine wpAny_mono (term.nox.run [] s1 (start N vs) H _ I1 reads) (fun fl s' z => ?_) fun _ _ z => z
  have done : ∀ {v : V} {u : PySem.Value} {H' : Hp} {σ' : L2.St}, L2.Inv (cxOf CX0 P w K mg base N qual scope f cdv A outer s H E0) [] σ' H' s' → RelV v u → Q v H' → CE outer P w H s Q u s' :=
    fun {v u H' σ'} J r q => ⟨v, H', J.os, J.bare, J.base, J.hok, r, q⟩
  match fl, z with
  | .ret _, ⟨v, _, H', J, r, q⟩ => exact done J r q
  | .next, ⟨_, H', J, q⟩ => exact done (v := V.non) J rfl q
  | .brk, ⟨_, _, _, q⟩ => exact q.elim
  | .cont, ⟨_, _, _, q⟩ => exact q.elim
end
/-! ### the end: such a def is the law -/
section
variable {P : Program} {w : World} {K : PySem.W.Frag} {mg mb : Str → Option PySem.Value} {k : Nat} {fa a : Addr} {fd : FuncData} {x : Str} {sp : Sp} {s₁ : Shared} {vs : List PySem.Value} {ns : List Int}
theorem law_run (KX : K.In s₁.heap) (gl : s₁.heap.Ns mainGlobals mg) (bl : s₁.heap.Ns builtinsNs mb) (blb : ∀ x : Str, x ≠ "__name__" → mb x = bootBuiltins x) (lim : s₁.heap.NoLimit) (noGens : s₁.gens = #[])
    (script : s₁.heap.get? a = some { cls := .type "list", data := .seq vs.toArray }) (theInts : IntsAre vs ns) (few : ns.length ≤ sizeLine) (room : Room k callerA)
    (FF : ∀ base : Heap, K.In base → base.Ns mainGlobals mg → GOk P w K mg base k fa fd [x] sp) (bound : ∀ (s : Shared) (u : PySem.Value), BindsTo s fd ⟨[u], []⟩ [(x, u)])
    (asks : ∀ H : Hp, SqL K H a (ns.map V.int) → sp [.ref a] H (fun v _ => v = .bl true) E0) :
    codeAny (model P w) callerA (.call (.ref fa) ⟨[.ref a], []⟩) (fun r s' => r = .ok (.ret (.bool true)) ∧ OldK s₁.heap s'.heap ∧ s'.os = s₁.os ∧ AllBare s'.gens) s₁ := by
  have rel : Vals (ns.map V.int) vs := vals_ints theInts
  have sized : vs.length = ns.length := theInts.length
  -- the script is tracked, locked, unless it is an object of the written part
  have main : ∀ H : Hp, (∀ b o, H b = some o → b = a ∧ K.lookup a = none ∧ o = .frz { cls := .type "list", data := .seq vs.toArray } (.lst (ns.map V.int))) → SqL K H a (ns.map V.int) →
      codeAny (model P w) callerA (.call (.ref fa) ⟨[.ref a], []⟩) (fun r s' => r = .ok (.ret (.bool true)) ∧ OldK s₁.heap s'.heap ∧ s'.os = s₁.os ∧ AllBare s'.gens) s₁ := by
    intro H only sq
    have hok : HOk P w H s₁.heap := by
      intro b o e
      obtain ⟨rfl, _, rfl⟩ := only b o e
      exact ⟨script, by rw [List.length_map]; exact few, vs, _, rel, script⟩
    have off : ∀ {b : Addr}, (∀ o, H b ≠ some o) → H b = none := fun {b} z => by
      match e : H b with
      | none => rfl
      | some o => exact absurd e (z o)
    have notDict : ∀ {b : Addr} {o : Obj} {es : Array DictEntry} {n : Nat}, s₁.heap.get? b = some o → o.data = .dict es n → H b = none := fun {b o es n} e d => off fun u q => by
      obtain ⟨rfl, _, _⟩ := only b u q
      rw [script] at e
      obtain rfl := Option.some.inj e
      cases d
    have names : ∀ {b : Addr} {m : Str → Option PySem.Value}, s₁.heap.Ns b m → (hidT s₁.heap H).Ns b m := by
      rintro b m ⟨o, es, n, e, d, r⟩
      exact ⟨o, es, n, hidT_get e (notDict e d), d, r⟩
    have inK : K.In (hidT s₁.heap H) := fun b o e => hidT_get (KX b o e) (off fun u q => by
      obtain ⟨rfl, none_, _⟩ := only b u q
      rw [none_] at e
      cases e)
    obtain ⟨mc, lim1, lim2⟩ := lim
    have mod : Mod K mg (hidT s₁.heap H) := ⟨inK, names gl, ⟨mb, names bl, blb⟩, ⟨mc, names lim1, lim2⟩⟩
    have e0 : Env0 P w K mg (hidT s₁.heap H) callerA [] s₁ H :=
      ⟨rfl, mod, fun _ _ e => of_hidT e, Nat.le_of_eq (hidT_size _ _), trivial, fun _ z => (nomatch z), hok, .of_eq noGens⟩
    refine codeAny_mono ((FF _ inK (names gl)).run callerA [] s₁ H ⟨[.ref a], []⟩ [.ref a] [.ref a] _ room rfl e0 (bound s₁ _) (.cons rfl .nil) (asks H sq)) ?_
    intro r s' z
    match r, z with
    | .ok (.ret u), ⟨v, H', os, bare, un, hok', ru, q⟩ =>
      obtain rfl : v = .bl true := q
      obtain rfl : u = PySem.Value.bool true := ru
      refine ⟨rfl, OldK.of_keep fun b o e => ?_, os, bare⟩
      match eb : H b with
      | none => exact un.keep b o e eb (fun z => nomatch z) (fun z => nomatch z)
      | some u =>
        obtain ⟨rfl, _, rfl⟩ := only b u eb
        obtain ⟨there, _⟩ := hok' _ _ (un.frzs b _ _ eb)
        rw [script] at e
        obtain rfl := Option.some.inj e
        exact there
    | .ok .next, z => exact z.elim
    | .ok .brk, z => exact z.elim
    | .ok .cont, z => exact z.elim
    | .error _, z => exact z.elim
  match ek : K.lookup a with
  | some o =>
    have same := KX a o ek
    rw [script] at same
    obtain rfl := Option.some.inj same
    exact main (fun _ => none) (fun _ _ z => nomatch z) (.inr ⟨_, vs.toArray, _, ek, rfl, rfl, rfl, by rw [List.size_toArray, sized]; exact few, by simpa using rel⟩)
  | none =>
    refine main (fun b => if b = a then some (.frz { cls := .type "list", data := .seq vs.toArray } (.lst (ns.map V.int))) else none) (fun b o z => ?_) (.inl (.inr ⟨_, if_pos rfl⟩))
    by_cases hb : b = a
    · exact ⟨hb, ek, (Option.some.inj ((if_pos hb).symm.trans z)).symm⟩
    · exact nomatch (if_neg hb).symm.trans z
end
/-- for the goal that head_any leaves -/
theorem law_walk {l : PySem.W.OpenLaw} {n k : Nat} {q : Program} {loose : List Str} {XP : (Str → Option PySem.Value) → Heap → Prop} {YP : World → Heap → Prop} {d : DefRec} {x : Str}
    (most : l.most = some n) (small : n ≤ sizeLine) (plain : d.params.defaults = []) (room : Room k callerA)
    (told : ∀ (w : World) (mg : Str → Option PySem.Value) (fa : Addr) (h : Heap), YP w h → h.Ns mainGlobals mg → mg d.name = some (.ref fa) →
      ∃ (K : PySem.W.Frag) (fd : FuncData) (sp : Sp), K.In h ∧ (∀ (s : Shared) (u : PySem.Value), BindsTo s fd ⟨[u], []⟩ [(x, u)]) ∧
        (∀ (H : Hp) (a : Addr) (ns : List Int), ns.length ≤ n → SqL K H a (ns.map V.int) → sp [.ref a] H (fun v _ => v = .bl true) E0) ∧
        ∀ base : Heap, K.In base → base.Ns mainGlobals mg → GOk l.prog w K mg base k fa fd [x] sp) :
    PySem.W.WalkO q loose XP YP l.row.toRowW d [] (fun f vs => PySem.call f vs) := by
  refine Att.attach_call most plain ?_
  intro w s₀ s₁ mg mb fa o pm cd doc a vs ns G Y ho hd hcd hmg script theInts few noGens
  obtain ⟨K, fd, sp, KX, bound, asks, FF⟩ := told w mg fa _ Y G.T.g hmg
  exact law_run KX G.T.g G.T.b G.T.builtins G.T.nolimit noGens script theInts (Nat.le_trans few small) room FF bound fun H z => asks H a ns few z
end Tr
namespace Pen
open PySem PySem.Spec PyProof.Rows L2
/-! ### the pen: a dict of five names -/
def penK (l : Addr) (at_ dg ct fo : Int) : List (Key × V) := [(Sum.inr "cells", .ref l), (Sum.inr "at", .int at_), (Sum.inr "digits", .int dg), (Sum.inr "count", .int ct), (Sum.inr "fold", .int fo)]
section
variable {H : Hp} {p l : Addr} {a d c f z : Int}
theorem get_ {k : Str} {v : V} (e : valV (penK l a d c f) (Sum.inr k) = some v) (h : H p = some (.dK (penK l a d c f))) : DGet H p (.str k) (some v) := by
  have g := DGet.k (k := Sum.inr k) h
  rw [e] at g
  exact g
theorem put_ {k : Str} {v : V} {kvs : List (Key × V)} (e : putK (penK l a d c f) (Sum.inr k) v = kvs) (h : H p = some (.dK (penK l a d c f))) : DPut H p (.str k) v (upd H p (.dK kvs)) := by
  have g := DPut.k (k := Sum.inr k) (v := v) h (small1000 (by show 5 ≤ 1000; decide))
  rw [e] at g
  exact g
theorem gCells (h : H p = some (.dK (penK l a d c f))) : DGet H p (.str "cells") (some (.ref l)) := get_ (by kernel_rfl) h
theorem gAt (h : H p = some (.dK (penK l a d c f))) : DGet H p (.str "at") (some (.int a)) := get_ (by kernel_rfl) h
theorem gDigits (h : H p = some (.dK (penK l a d c f))) : DGet H p (.str "digits") (some (.int d)) := get_ (by kernel_rfl) h
theorem gCount (h : H p = some (.dK (penK l a d c f))) : DGet H p (.str "count") (some (.int c)) := get_ (by kernel_rfl) h
theorem gFold (h : H p = some (.dK (penK l a d c f))) : DGet H p (.str "fold") (some (.int f)) := get_ (by kernel_rfl) h
theorem pAt (h : H p = some (.dK (penK l a d c f))) : DPut H p (.str "at") (.int z) (upd H p (.dK (penK l z d c f))) := put_ (by kernel_rfl) h
theorem pDigits (h : H p = some (.dK (penK l a d c f))) : DPut H p (.str "digits") (.int z) (upd H p (.dK (penK l a z c f))) := put_ (by kernel_rfl) h
theorem pCount (h : H p = some (.dK (penK l a d c f))) : DPut H p (.str "count") (.int z) (upd H p (.dK (penK l a d z f))) := put_ (by kernel_rfl) h
theorem pFold (h : H p = some (.dK (penK l a d c f))) : DPut H p (.str "fold") (.int z) (upd H p (.dK (penK l a d c z))) := put_ (by kernel_rfl) h
end
/-- the pen at p with these fields -/
structure PenV (H : Hp) (p l : Addr) (cells : List Int) (a d c f : Int) : Prop where
  di : H p = some (.dK (penK l a d c f))
  li : H l = some (.lst (cells.map V.int))
  a0 : 0 ≤ a
  d0 : 0 ≤ d
  c0 : 0 ≤ c
  f0 : 0 ≤ f
  f1 : f < 2147483648
/-- a pen at p that was asked at most n times -/
def PenAt (H : Hp) (p l : Addr) (n : Nat) : Prop := ∃ cells a d c f, PenV H p l cells a d c f ∧ c ≤ n
/-- all that was tracked but p is as it was -/
def But (p : Addr) (H H' : Hp) : Prop := ∀ b o, H b = some o → b ≠ p → H' b = some o
theorem But.refl {p : Addr} {H : Hp} : But p H H := fun _ _ e _ => e
theorem But.trans {p : Addr} {H H1 H2 : Hp} (x : But p H H1) (y : But p H1 H2) : But p H H2 := fun b o e n => y b o (x b o e n) n
theorem But.upd {p : Addr} {H H1 : Hp} {o : HO} (x : But p H H1) : But p H (L2.upd H1 p o) := fun b u e n => by rw [upd_ne n]; exact x b u e n
theorem But.same {p : Addr} {H H1 : Hp} (x : Same H H1) : But p H H1 := fun b o e _ => x b o e
theorem PenV.keep {H H' : Hp} {p l : Addr} {cells : List Int} {a d c f : Int} (P : PenV H p l cells a d c f) (s : Same H H') : PenV H' p l cells a d c f := ⟨s _ _ P.di, s _ _ P.li, P.a0, P.d0, P.c0, P.f0, P.f1⟩
theorem PenAt.keep {H H' : Hp} {p l : Addr} {n : Nat} (P : PenAt H p l n) (s : Same H H') : PenAt H' p l n := by
  obtain ⟨cells, a, d, c, f, P, h⟩ := P
  exact ⟨cells, a, d, c, f, P.keep s, h⟩
theorem PenAt.mono {H : Hp} {p l : Addr} {n m : Nat} (P : PenAt H p l n) (h : n ≤ m) : PenAt H p l m := by
  obtain ⟨cells, a, d, c, f, P, h1⟩ := P
  exact ⟨cells, a, d, c, f, P, by omega⟩
theorem PenAt.is {H : Hp} {p l : Addr} {n : Nat} (P : PenAt H p l n) : ∃ kvs, H p = some (.dK kvs) := by
  obtain ⟨cells, a, d, c, f, P, _⟩ := P
  exact ⟨_, P.di⟩
theorem PenAt.lis {H : Hp} {p l : Addr} {n : Nat} (P : PenAt H p l n) : ∃ xs, H l = some (.lst xs) := by
  obtain ⟨cells, a, d, c, f, P, _⟩ := P
  exact ⟨_, P.li⟩
/-- another object changes -/
theorem PenAt.other {H : Hp} {p l D : Addr} {o : HO} {n : Nat} (P : PenAt H p l n) (h1 : D ≠ p) (h2 : D ≠ l) : PenAt (L2.upd H D o) p l n := by
  obtain ⟨cells, a, d, c, f, P, h⟩ := P
  exact ⟨cells, a, d, c, f, ⟨by rw [upd_ne (Ne.symm h1)]; exact P.di, by rw [upd_ne (Ne.symm h2)]; exact P.li, P.a0, P.d0, P.c0, P.f0, P.f1⟩, h⟩
/-- the pen with another dict -/
theorem PenV.set {H : Hp} {p l : Addr} {cells : List Int} {a d c f a' d' c' f' : Int} (P : PenV H p l cells a d c f) (a0 : 0 ≤ a') (d0 : 0 ≤ d') (c0 : 0 ≤ c') (f0 : 0 ≤ f') (f1 : f' < 2147483648) :
    PenV (upd H p (.dK (penK l a' d' c' f'))) p l cells a' d' c' f' :=
  ⟨upd_same, by rw [upd_ne (ne_of P.li P.di (by intro z; cases z))]; exact P.li, a0, d0, c0, f0, f1⟩
/-! ### promises -/
def spPen (K : PySem.W.Frag) : Sp := fun vs H Q _ => ∃ (a : Addr) (ns : List Int), vs = [.ref a] ∧ SqL K H a (ns.map V.int) ∧ ns.length ≤ 63 ∧ ∀ p l H', PenAt H' p l 0 → Same H H' → H p = none → Q (.ref p) H'
def spDraw : Sp := fun vs H Q _ => ∃ (p l : Addr) (n : Nat) (m : Int), vs = [.ref p, .int m] ∧ PenAt H p l n ∧ n ≤ 1000000 ∧ 1 ≤ m ∧ m < 1073741824 ∧
  ∀ r H', 0 ≤ r → r < m → PenAt H' p l (n + 1) → But p H H' → Q (.int r) H'
def spPick (K : PySem.W.Frag) : Sp := fun vs H Q _ => ∃ (p l s : Addr) (n : Nat) (xs : List V), vs = [.ref p, .ref s] ∧ PenAt H p l n ∧ n ≤ 1000000 ∧ SqL K H s xs ∧ xs ≠ [] ∧ xs.length < 1073741824 ∧ s ≠ p ∧
  ∀ (i : Nat) v H', xs[i]? = some v → PenAt H' p l (n + 1) → But p H H' → Q v H'
end Pen
namespace Pen
open PySem PySem.Spec PyProof.Rows L2
theorem But.seq {K : PySem.W.Frag} {p a : Addr} {H H' : Hp} {xs : List V} (s : But p H H') (n : a ≠ p) (h : SqL K H a xs) : SqL K H' a xs := by
  rcases h with (h | ⟨o, h⟩) | h
  · exact .inl (.inl (s _ _ h n))
  · exact .inl (.inr ⟨o, s _ _ h n⟩)
  · exact .inr h
theorem But.seqT {K : PySem.W.Frag} {p a : Addr} {H H' : Hp} {xs : List V} (s : But p H H') (n : a ≠ p) (h : SqT K H a xs) : SqT K H' a xs := by
  rcases h with (h | ⟨o, h⟩) | h
  · exact .inl (.inl (s _ _ h n))
  · exact .inl (.inr ⟨o, s _ _ h n⟩)
  · exact .inr h
/-! ### digits -/
theorem dv_lt : ∀ (cs : List Nat) (a : Nat), NumText.AllDigits cs → cs.foldl (fun acc c => acc * 10 + (c - 48)) a < (a + 1) * 10 ^ cs.length
  | [], a, _ => by
    show a < (a + 1) * 10 ^ 0
    omega
  | c :: cs, a, h => by
    have h0 := h.head
    have z := dv_lt cs (a * 10 + (c - 48)) h.tail
    show cs.foldl (fun acc c => acc * 10 + (c - 48)) (a * 10 + (c - 48)) < (a + 1) * 10 ^ (cs.length + 1)
    have e : (a + 1) * 10 ^ (cs.length + 1) = (a * 10 + 10) * 10 ^ cs.length := by
      rw [Nat.pow_succ, Nat.mul_comm (10 ^ cs.length) 10, ← Nat.mul_assoc]
      have : (a + 1) * 10 = a * 10 + 10 := by omega
      rw [this]
    rw [e]
    refine Nat.lt_of_lt_of_le z (Nat.mul_le_mul_right _ ?_)
    omega
/-- the last fg figures of a number, read back -/
theorem cut_num (n fg : Nat) (h1 : 1 ≤ fg) (short : (TL.numL n).length ≤ 640) :
    ∃ z : Nat, PySem.intText? (cutS (Str.ofString (toString (n : Int))) (some (-(fg : Int))) none) = some (z : Int) ∧ z < 10 ^ fg ∧ (cutS (Str.ofString (toString (n : Int))) (some (-(fg : Int))) none).length ≤ 640 := by
  have hd : (Str.ofString (toString (n : Int))).cps.toList = TL.numL n := TL.tl_num n
  have hlen : (Str.ofString (toString (n : Int))).length = (TL.numL n).length := by
    show (Str.ofString (toString (n : Int))).cps.size = _
    rw [← Array.length_toList, hd]
  have hne : 0 < (TL.numL n).length := List.length_pos_iff.mpr (TL.numL_ne n)
  have shape : cutS (Str.ofString (toString (n : Int))) (some (-(fg : Int))) none = SX.S ((TL.numL n).drop ((TL.numL n).length - fg)) := by
    unfold cutS
    rw [hd, hlen]
    have e1 : HT.sIx (TL.numL n).length 0 (some (-(fg : Int))) = (TL.numL n).length - fg := by
      show (if (-(fg : Int)) < 0 then ((-(fg : Int)) + ((TL.numL n).length : Int)).toNat else _) = _
      rw [if_pos (by omega)]
      omega
    have e2 : HT.sIx (TL.numL n).length (TL.numL n).length none = (TL.numL n).length := rfl
    rw [e1, e2, List.take_of_length_le (by rw [List.length_drop]; omega)]
  have dl : ((TL.numL n).drop ((TL.numL n).length - fg)).length ≤ fg := by rw [List.length_drop]; omega
  have dg : NumText.AllDigits ((TL.numL n).drop ((TL.numL n).length - fg)) := fun c hc => TL.numL_digits n c (List.mem_of_mem_drop hc)
  rw [shape]
  refine ⟨NumText.digitsVal ((TL.numL n).drop ((TL.numL n).length - fg)), SX.int_S ?_ ?_ ?_, ?_, ?_⟩
  · refine List.all_eq_true.mpr fun c hc => ?_
    obtain ⟨a, b⟩ := dg c hc
    rw [decide_eq_true a, decide_eq_true b] <;> rfl
  · intro e
    have := congrArg List.length e
    rw [List.length_drop] at this
    simp at this
    omega
  · rw [List.length_drop]
    omega
  · have z := dv_lt _ 0 dg
    refine Nat.lt_of_lt_of_le z ?_
    rw [Nat.zero_add, Nat.one_mul]
    exact Nat.pow_le_pow_right (by decide) dl
  · rw [SX.S_len, List.length_drop]
    omega
/-- _law_big: a number of at most fg figures -/
def spBig : Sp := fun vs H Q _ => ∃ (p l : Addr) (n fg : Nat), vs = [.ref p, .int fg] ∧ PenAt H p l n ∧ n ≤ 900000 ∧ 1 ≤ fg ∧ fg ≤ 500 ∧
  ∀ (z : Nat) H', z < 10 ^ fg → PenAt H' p l (n + 1 + (fg + 3)) → But p H H' → Q (.int z) H'
end Pen
namespace Tr
open PySem PySem.Spec PyProof.Rows L2
/-! ### defs that run where nothing is being shown; what they hold of code objects -/
structure GFn (P : Program) (w : World) (K : PySem.W.Frag) (mg : Str → Option PySem.Value) (base : Heap) (CX : CXT) (k : Nat) (f : Addr) (fd : FuncData) (ps : List Str) (sp : Sp) : Prop where
  len : ∀ vs H Q E, sp vs H Q E → vs.length = ps.length
  run : ∀ (A : Around) (outer : List Env) (s : Shared) (H : Hp) (args : Args) (us : List PySem.Value) (vs : List V) (Q : VK) (E : XK), Room k A → A.guards = some [] → Env0 P w K mg base A outer s H →
    BindsTo s fd args (ps.zip us) → Vals vs us → sp vs H Q E → codeAny (model P w) A (.call (.ref f) args) (CR CX outer P w H s Q E) s
section
variable {CX : CXT} {P : Program} {w : World} {K : PySem.W.Frag} {mg : Str → Option PySem.Value} {base : Heap} {x qual : Str} {params : Arguments} {body : List PySem.Stmt} {scope : Scope} {f : Addr} {fd : FuncData}
theorem GFn.of {N ps : List Str} {k : Nat} {sp : Sp} {dvs : List V} {kws : List (Str × V)} (D : FunD K x qual params body scope dvs kws f fd) (S : FnScope N ps scope) (len : ∀ vs H Q E, sp vs H Q E → vs.length = ps.length)
    (walk : ∀ (c : Addr) (A : Around) (outer : List Env) (s : Shared) (H : Hp) (vs : List V) (Q : VK) (E : XK), (∀ p, He.fAd K p = f → He.codeOf K p = c) → Room k (A.deeper (envOfC qual scope s.heap.objs.size f (.ref c))) → A.guards = some [] → sp vs H Q E →
      ∃ t, PSs (cxOf CX P w K mg base N qual scope f (.ref c) A outer s H E) body t ∧ t { nx := fun _ H' => Q .non H', rt := Q } (start N vs) H) : GFn P w K mg base CX (k + 1) f fd ps sp := by
  obtain ⟨oc, od, dV, kV, doc, pm, an, cdv, ct, osl, rfl, found, isCode, _, _⟩ := D.ex
  obtain ⟨c, rfl⟩ := He.codeIn_ref isCode
  refine ⟨len, fun A outer s H args us vs Q E room free e0 bound rel h => ?_⟩
  have inK : K.In s.heap := e0.mod.kin.keeps fun b o e => (e0.bs b o e).1
  have roomy : s.heap.NoLimit := e0.mod.nolimit.keeps fun b o e => (e0.bs b o e).1
  have kinds : ∀ y ∈ ps.zip us, scope.names.lookup y.1 = some .local ∨ (scope.names.lookup y.1 = some .cell ∧ ((cellsFrom (s.heap.objs.size + 1) scope.names []).lookup y.1).isSome = true) := by
    rintro ⟨n, v⟩ hy
    exact (S.par n (List.of_mem_zip hy).1).imp id fun c => ⟨c, PySem.W.cellsFrom_some _ _ _ (.inl c)⟩
  refine codeAny_call_function room.depth (inK _ _ found) rfl S.co S.gen rfl (PySem.W.codeRec_of inK isCode) (bound _ _ _ _ (wpAny_newFunctionEnv_cells S.kind kinds ?_))
  rintro env1 rfl s1 into
  refine ⟨roomy.keeps into.toInCall.keep, codeAny_func ?_⟩
  obtain ⟨t, term, reads⟩ := walk c A outer s H vs Q E (fun p e => He.codeOf_eq (by rw [e]; exact found) rfl) (room.deeper _) free h
  have I1 := inv_start (CX := CX) (P := P) (w := w) (K := K) (mg := mg) (base := base) (qual := qual) (f := f) (cd := PySem.Value.ref c) (E := E) S room.hd e0 (len _ _ _ _ h) rel into
  refine wpAny_mono (term.run [] s1 (start N vs) H _ I1 reads) (fun fl s' z => ?_) fun _ _ z => z
  have done : ∀ {v : V} {u : PySem.Value} {H' : Hp} {σ' : L2.St}, L2.Inv (cxOf CX P w K mg base N qual scope f (.ref c) A outer s H E) [] σ' H' s' → RelV v u → Q v H' → CE outer P w H s Q u s' :=
    fun {v u H' σ'} J r q => ⟨v, H', J.os, J.bare, J.base, J.hok, r, q⟩
  match fl, z with
  | .ret _, ⟨v, _, H', J, r, q⟩ => exact done J r q
  | .next, ⟨_, H', J, q⟩ => exact done (v := V.non) J rfl q
  | .brk, ⟨_, _, _, q⟩ => exact q.elim
  | .cont, ⟨_, _, _, q⟩ => exact q.elim
end
section
variable {X : Cx} {CX : CXT} {k : Nat} {f C : Addr} {fd : FuncData} {ps : List Str} {sp : Sp} {E : XK} {x m : Str} {p pos apos : Pos} {e o : Expr} {es : List Expr} {ta : TE} {t : TA}
theorem run_fnG {pins : List (Addr × Obj)} {σ : L2.St} {H : Hp} {s : Shared} {Q : VK} {us : List PySem.Value} {vs : List V} (F : GFn X.prog X.w X.K X.mg X.base CX k f fd ps sp) (hG : X.A.guards = some []) (hr : Room k X.A) (hb : L2.Binds X.K fd ps []) (hx : Passes CX X E)
    (I : L2.Inv X pins σ H s) (r : Vals vs us) (h : sp vs H Q E) : wpAny (model X.prog X.w) X.A (call (.ref f) us) (EP X pins σ Q) X.xe s := by
  have hl : (us ++ []).length = ps.length := by
    rw [List.append_nil, ← r.length]
    exact F.len _ _ _ _ h
  have b := hb s us I.kIn hl
  rw [List.append_nil] at b
  refine wpAny_call (codeAny_mono (F.run X.A X.stack s H ⟨us, []⟩ us vs Q E hr hG I.env0 b r h) fun r s' hq => ?_)
  cases r with
  | error e => exact hx pins σ H s e s' I hq
  | ok fl =>
    cases fl with
    | ret u => exact I.after hq
    | next => exact False.elim hq
    | brk => exact False.elim hq
    | cont => exact False.elim hq
theorem pe_callG (F : GFn X.prog X.w X.K X.mg X.base CX k f fd ps sp) (hG : X.A.guards = some []) (hr : Room k X.A) (hg : Gl X x) (hm : X.mg x = some (.ref f)) (hk : PySem.W.keepIn X.K (.ref f) = true) (hb : L2.Binds X.K fd ps []) (hx : Passes CX X E)
    (ha : PA X (e :: es) t) (hdb : (x == ("__debug__" : Str)) = false := by decide) (he : starEach (e :: es) X.env = (false, eval e X.env) :: starEach es X.env := by rfl) (hpl : (backTo pos (starEach es X.env)).any (·.1) = false := by rfl) :
    PE X (.Call (.Name x p) (e :: es) [] pos) (fun σ H Q => t σ H fun vs H1 => sp vs H1 Q E) := by
  refine ⟨fun pins s σ H Q I h => ?_⟩
  refine wpAny_Call_Name_kw (ld_glob I hg hm ?_ hdb)
  refine PySem.W.callWith_K (h₀ := X.base) I.ok.mod.kin hk (thn (ha.run pos pins s σ H _ I h) fun us s1 ⟨vs, H1, I1, r, q⟩ => ⟨I1.kIn, ?_⟩) he hpl
  exact run_fnG F hG hr hb hx I1 r q
def tMakeG (C : Addr) (sp : Sp) (E : XK) (t : TA) : TE := fun σ H Q => t σ H fun vs H1 => ∀ x dx, H1 x = none → H1 dx = none → dx ≠ x →
  sp (.ref x :: vs) (upd (upd H1 dx (.own x)) x (.ins C dx [])) (fun v H2 => v = .non ∧ Q (.ref x) H2) E
/-- for exceptions that look at the heap from which the call was made: a promise of the class's call as a whole -/
theorem run_makeG {pins : List (Addr × Obj)} {σ : L2.St} {H : Hp} {s : Shared} {Q : VK} {us : List PySem.Value} {vs : List V} (M : Mk X.K C f) (F : GFn X.prog X.w X.K X.mg X.base CX k f fd ps sp) (hG : X.A.guards = some []) (hr : Room (k + 1) X.A) (hb : L2.Binds X.K fd ps [])
    (hx : Passes CX X E) (I : L2.Inv X pins σ H s) (r : Vals vs us)
    (h : ∀ x dx, H x = none → H dx = none → dx ≠ x → sp (.ref x :: vs) (upd (upd H dx (.own x)) x (.ins C dx [])) (fun v H2 => v = .non ∧ Q (.ref x) H2) E) :
    wpAny (model X.prog X.w) X.A (call (.ref C) us) (EP X pins σ Q) X.xe s := by
  have hq := h (s.heap.objs.size + 1) s.heap.objs.size (I.hok.fresh (Nat.le_succ _)) (I.hok.fresh (Nat.le_refl _)) (Nat.ne_of_lt (Nat.lt_succ_self _))
  have I2 := Inv.made (C := C) I
  have r2 : Vals (V.ref (s.heap.objs.size + 1) :: vs) (PySem.Value.ref (s.heap.objs.size + 1) :: us) := .cons rfl r
  have hl : (PySem.Value.ref (s.heap.objs.size + 1) :: us ++ []).length = ps.length := by
    have e := r2.length
    rw [F.len _ _ _ _ hq] at e
    rw [List.append_nil]
    exact e.symm
  have b := hb { s with heap := _ } (PySem.Value.ref (s.heap.objs.size + 1) :: us) I2.kIn hl
  rw [List.append_nil] at b
  have hG2 : (X.A.under (.builtin "type.__call__" ⟨.ref C :: us, []⟩)).guards = some [] := by
    have e1 : (Code.builtin "type.__call__" ⟨.ref C :: us, []⟩).guards = [] := by
      have e2 : (Code.builtin "type.__call__" ⟨.ref C :: us, []⟩).isGuard = false := by
        show guardIds.contains "type.__call__" = false
        decide +kernel
      unfold Code.guards
      rw [e2]
      rfl
    show pushGuards (Code.builtin "type.__call__" ⟨.ref C :: us, []⟩).guards X.A.guards = some []
    rw [e1, hG]
    first | rfl | (rw [pushGuards_eq]; rfl)
  refine wpAny_call (make_map (f := f) I.kIn M.makes M.init (beq_iff_eq.mp M.fn) (codeAny_mono (F.run _ X.stack _ _ ⟨PySem.Value.ref (s.heap.objs.size + 1) :: us, []⟩ (PySem.Value.ref (s.heap.objs.size + 1) :: us) _ _ E (hr.make C us []) hG2
    (I2.env0.make C us []) b r2 hq) fun r s' hq' => ?_))
  cases r with
  | error e => exact hx pins σ _ _ e s' I2 hq'
  | ok fl =>
    cases fl with
    | ret u =>
      obtain ⟨v, H', I3, rv, ev, q3⟩ := I2.after hq'
      subst ev
      exact ⟨rv, ⟨V.ref (s.heap.objs.size + 1), H', I3, rfl, q3⟩⟩
    | next => exact False.elim hq'
    | brk => exact False.elim hq'
    | cont => exact False.elim hq'
theorem pe_makeG (M : Mk X.K C f) (F : GFn X.prog X.w X.K X.mg X.base CX k f fd ps sp) (hG : X.A.guards = some []) (hr : Room (k + 1) X.A) (hg : Gl X x) (hm : X.mg x = some (.ref C)) (hb : L2.Binds X.K fd ps []) (hx : Passes CX X E)
    (ha : PA X (e :: es) t) (hdb : (x == ("__debug__" : Str)) = false := by decide) (he : starEach (e :: es) X.env = (false, eval e X.env) :: starEach es X.env := by rfl) (hpl : (backTo pos (starEach es X.env)).any (·.1) = false := by rfl) :
    PE X (.Call (.Name x p) (e :: es) [] pos) (tMakeG C sp E t) := by
  refine ⟨fun pins s σ H Q I h => ?_⟩
  refine wpAny_Call_Name_kw (ld_glob I hg hm ?_ hdb)
  refine PySem.W.callWith_K (h₀ := X.base) I.ok.mod.kin M.kp (thn (ha.run pos pins s σ H _ I h) fun us s1 ⟨vs, H1, I1, r, q⟩ => ⟨I1.kIn, ?_⟩) he hpl
  exact run_makeG M F hG hr hb hx I1 r q
end
end Tr
namespace Tr
open PySem PySem.Spec PyProof.Rows L2 LamX AK
section
variable {prog : Program} {w : World} {A : Around} {E : PySem.Value → Shared → Prop} {s : Shared} {Q : PySem.Value → Shared → Prop}
theorem repr_any {v : PySem.Value} {d : PyData} {as : List Addr} (r : Reads s.heap v d as) (hs : d.showable = true) (nd : d.hasDict = false) (free : A.guards = some []) (hu : A.units + (d.depth + 1) < cLine) (short : d.shown.length ≤ sizeLine)
    (hQ : ∀ h' u tk, (∀ b o, s.heap.get? b = some o → h'.get? b = some o) → Q (.str d.shown u) { s with heap := h', toks := tk }) : wpAny (model prog w) A (call (.builtin "repr") [v]) Q E s := by
  cases r with
  | none => exact P.repr_of_none (hQ s.heap _ _ fun _ _ e => e)
  | bool b => exact P.repr_of_bool (hQ s.heap _ _ fun _ _ e => e)
  | int i t => exact P.repr_of_int (of_decide_eq_true hs) (hQ s.heap _ _ fun _ _ e => e)
  | str x t => exact P.repr_of_str (hQ s.heap _ _ fun _ _ e => e) short
  | list h1 h2 h3 h4 => exact repr_of_reads' (.list h1 h2 h3 h4) hs (PyData.noDict_hsm nd) free hu (fun _ _ e => e) hQ short
  | tuple h1 h2 h3 h4 => exact repr_of_reads' (.tuple h1 h2 h3 h4) hs (PyData.noDict_hsm nd) free hu (fun _ _ e => e) hQ short
  | dict _ _ _ _ _ => cases nd
end
/-- repr(x) of any data -/
def rShowV (K : PySem.W.Frag) : List V → Hp → VK → Prop := fun xs H Q => ∃ (x : V) (d : PyData), xs = [x] ∧ Dp K H x d ∧ d.showable = true ∧ d.hasDict = false ∧ d.depth ≤ 60 ∧ d.shown.length ≤ sizeLine ∧ Q (.str d.shown) H
theorem call_showV {Y : Cx} (free : Y.A.guards = some []) (hu : Y.A.units + 64 < cLine) : CallR Y (.builtin "repr") (rShowV Y.K) := by
  intro pins s σ H xs us Q I rel h
  obtain ⟨x, d, rfl, hd, hs, nd, deep, short, q⟩ := h
  obtain ⟨u, rfl, ru⟩ := vals1 rel
  obtain ⟨as, rd⟩ := Dp.reads I d x u hd ru
  refine repr_any rd hs nd free (by omega) short (fun h' t' tk keep => ?_)
  exact ⟨.str d.shown, H, I.kept (t' := tk) keep, ⟨_, rfl⟩, q⟩
/-! ### sorted(x, key=lambda n: repr(n)) -/
abbrev Vd := V × PyData
def srt (xs : List Vd) : List Vd := xs.mergeSort (PySem.W.dataLe false fun x : Vd => .str x.2.shown)
theorem srt_perm (xs : List Vd) : (srt xs).Perm xs := List.mergeSort_perm _ _
theorem srt_len (xs : List Vd) : (srt xs).length = xs.length := (srt_perm xs).length_eq
theorem ExtN.rd {H H' : Hp} (e : ExtN H H') {a : Addr} {o : HO} (n : ∀ ps, o ≠ .tbl ps) (h : Rd H a o) : Rd H' a o := h.elim (fun h => .inl (e _ _ h n)) fun ⟨u, h⟩ => .inr ⟨u, e _ _ h fun ps z => nomatch z⟩
theorem ExtN.tups {H H' : Hp} (e : ExtN H H') : Tups H H' := fun a xs h => ExtN.rd e (fun ps z => nomatch z) h
theorem ExtN.seq {K : PySem.W.Frag} {H H' : Hp} (e : ExtN H H') {a : Addr} {xs : List V} (h : SqL K H a xs) : SqL K H' a xs := h.elim (fun h => .inl (ExtN.rd e (fun ps z => nomatch z) h)) .inr
theorem ExtN.da {K : PySem.W.Frag} {w : World} {H H' : Hp} (e : ExtN H H') {d : Addr} {es : List Eh} (D : DA K w H d es) : DA K w H' d es :=
  ⟨ExtN.rd e (fun ps z => nomatch z) D.at_, fun x hx => ⟨(D.nk x hx).1.tups (ExtN.tups e), (D.nk x hx).2⟩, D.nd⟩
/-- its items, in order: a list's, a dict's keys -/
def Colls (K : PySem.W.Frag) (w : World) (H : Hp) (x : V) (xs : List V) : Prop := ∃ a, x = .ref a ∧ (SqL K H a xs ∨ ∃ es : List Eh, DA K w H a es ∧ es.map (·.2.1) = xs)
/-- what is known of the things that are shown -/
def ShowOk (K : PySem.W.Frag) (H : Hp) (p : Vd) : Prop := Dp K H p.1 p.2 ∧ p.2.showable = true ∧ p.2.hasDict = false ∧ p.2.depth ≤ 60 ∧ p.2.shown.length ≤ sizeLine ∧ ∃ k, keyD p.2 = some k
theorem ShowOk.tups {K : PySem.W.Frag} {H H' : Hp} {p : Vd} (t : Tups H H') (h : ShowOk K H p) : ShowOk K H' p := by
  obtain ⟨h1, h2, h3, h4, h5, k, h6⟩ := h
  exact ⟨dp_tups t _ _ k h6 h1, h2, h3, h4, h5, k, h6⟩
section
variable {X : Cx} {pins : List (Addr × Obj)} {σ : L2.St} {H : Hp} {s : Shared}
theorem colls_run {x : V} {xs : List V} {r : Addr} {R : List PySem.Value → Shared → Prop} {E : PySem.Value → Shared → Prop} {A : Around} (hh : A.handled = none) (I : L2.Inv X pins σ H s) (c : Colls X.K X.w H x xs) (e : x = .ref r) (hz : xs.length ≤ sizeLine)
    (h : ∀ (h' : Heap) (tk : Nat) (us : List PySem.Value), (∀ b o, s.heap.get? b = some o → h'.get? b = some o) → Vals xs us → R us { s with heap := h', toks := tk }) : wpAny (model X.prog X.w) A (collect (.ref r)) R E s := by
  obtain ⟨a, rfl, c⟩ := c
  cases e
  rcases c with hs | ⟨es, D, rfl⟩
  · obtain ⟨its, rv, pl, _⟩ := I.list hs
    refine collect_list pl.isList ?_ (by rw [← rv.length]; exact hz)
    refine h _ _ its (fun b o q => ?_) rv
    rw [Heap.get?_update_ne _ _ _ _ (Nat.ne_of_lt (Heap.lt_size q))]
    exact Heap.get?_push_of_some _ q
  · obtain ⟨hd, _, us, ⟨⟨o, arr, ep, ho, hc, hdat, he⟩, his, nd⟩, rel⟩ := D.raw I
    have hsz : arr.size = es.length := by
      rw [ent_size he]
      exact (Paired.length rel).symm
    rw [List.length_map] at hz
    refine PySem.W.kdu_collect (KdlSrc.rawDict hd) hh ⟨o, ho, hc, hdat⟩ (by rw [hsz]; exact hz) fun h' tk acc keep items => h h' tk acc.toList keep ?_
    obtain ⟨hl, hi⟩ := items
    have key : acc.toList = us.map (·.2.1) := by
      refine List.ext_getElem? fun i => ?_
      by_cases hlt : i < arr.size
      · obtain ⟨v, h1⟩ : ∃ v, acc.toList[i]? = some v := ⟨_, List.getElem?_eq_getElem (by rw [Array.length_toList, hl]; exact hlt)⟩
        obtain ⟨hlt2, e2⟩ := hi i v (by rw [← Array.getElem?_toList]; exact h1)
        have h3 : arr[i]? = some arr[i] := Array.getElem?_eq_getElem hlt2
        have h4 := ent_at he i
        rw [h3] at h4
        obtain ⟨f, hf1, hf2⟩ := Option.map_eq_some_iff.mp h4.symm
        rw [h1, e2, List.getElem?_map, hf1, ← hf2]
        rfl
      · rw [List.getElem?_eq_none (by rw [Array.length_toList, hl]; omega), List.getElem?_eq_none (by rw [List.length_map, ← ent_size he]; omega)]
    rw [key]
    clear key
    have gen : ∀ {l : List Eh} {m : List En}, Paired (fun (p : Eh) (q : En) => p.1 = q.1 ∧ RelV p.2.1 q.2.1 ∧ RelV p.2.2 q.2.2) l m → Vals (l.map (·.2.1)) (m.map (·.2.1)) := by
      intro l m q
      induction q with
      | nil => exact .nil
      | cons hq t ih => exact .cons hq.2.1 ih
    exact gen rel
end
end Tr
namespace Tr
open PySem PySem.Spec PyProof.Rows L2 LamX AK
/-- the lambda's scope: its one name is local, repr is none of its own -/
structure LamR (scope : Scope) (n : Str) : Prop where
  kind : scope.kind = .function
  co : scope.isCoroutine = false
  gen : scope.isGenerator = false
  loc : scope.names.lookup n = some .local
  rep : scope.names.lookup ("repr" : Str) = some .globalImplicit
  nocell : ∀ y ∈ scope.names, y.2 ≠ .cell
  nofree : ∀ y ∈ scope.names, y.2 ≠ .free
section
variable {X : Cx} {pins : List (Addr × Obj)} {σ : L2.St} {H : Hp} {s : Shared}
/-- the lambda called where all that was there stays -/
theorem lam_repr {f c' : Addr} {pm ctv : PySem.Value} {params : Arguments} {scope : Scope} {n : Str} {p1 p2 p3 : Pos} {k : Nat} {h : Heap} {tk : Nat} {x : V} {v : PySem.Value} {d : PyData} (I : L2.Inv X pins σ H s) (L : LamR scope n) (hr : Room (k + 3) X.A) (free : X.A.guards = some [])
    (hm : X.mg "repr" = none) (hnd : (n == ("__debug__" : Str)) = false)
    (hf : s.heap.get? f = some (PySem.W.kla_obj "<lambda>" (X.env.qual ++ "<lambda>") params (.Call (.Name "repr" p1) [.Name n p2] [] p3) scope (cloFrom X.env.cells scope.names []) pm c' ctv)) (hc : H c' = some (CodeO c' (X.env.qual ++ "<lambda>")))
    (hbind : ∀ (q : Str) (cl : List (Str × Addr)) (pm cv ctv u : PySem.Value), bindArgs (PySem.W.kla_fn "<lambda>" q params (.Call (.Name "repr" p1) [.Name n p2] [] p3) scope cl pm cv ctv) ⟨[u], []⟩ = pure [(n, u)])
    (kept : ∀ b o, s.heap.get? b = some o → h.get? b = some o) (rx : RelV x v) (hd : ShowOk X.K H (x, d)) :
    wpAny (model X.prog X.w) X.A.in1.in1 (call (.ref f) [v]) (PySem.W.KeyPure (.str d.shown) { s with heap := h, toks := tk }) (fun _ _ => False) { s with heap := h, toks := tk } := by
  have J : L2.Inv X pins σ H { s with heap := h, toks := tk } := I.kept kept
  obtain ⟨hD, hs, nd, deep, short, _⟩ := hd
  obtain ⟨as, rd⟩ := Dp.reads J d x v hD rx
  have of1 := kept _ _ hf
  obtain ⟨⟨oc, vs, t, hoc, hdc, hvc⟩, _, _⟩ := J.hok c' _ hc
  have rc : codeAny (model X.prog X.w) X.A.in1.in1 (.call (.ref f) ⟨[v], []⟩) (fun r s' => ∃ u, r = .ok (.ret u) ∧ PySem.W.KeyPure (.str d.shown) { s with heap := h, toks := tk } u s') { s with heap := h, toks := tk } := by
    refine PySem.W.kla_callFunE (hr.in1.in1).depth of1 rfl L.co L.gen rfl ⟨c', oc, vs, t, rfl, hoc, hdc, hvc⟩ ?_
    rw [hbind]
    refine wpAny_pure (wpAny_newFunctionEnv (fun y hy => L.nocell y hy) (fun y hy => by
      obtain rfl : y = (n, v) := by simpa using hy
      exact L.loc) (fun h₁ hns hsb => ⟨J.nolimit.fresh _ hsb, ?_⟩) L.kind)
    have kp : ∀ b o, h.get? b = some o → h₁.get? b = some o := fun b o e => hsb.extBut b o (Nat.ne_of_lt (Heap.lt_size e)) (Heap.get?_push_of_some _ e)
    have J1 : L2.Inv X pins σ H { s with heap := h₁, toks := tk + 1 } := J.kept kp
    show codeAny _ _ (.expr (.Call (.Name "repr" p1) [.Name n p2] [] p3) (PySem.W.envX (X.env.qual ++ "<lambda>") scope h.objs.size f (.ref c') (cloFrom X.env.cells scope.names []))) _ _
    refine PySem.W.kla_codeExpr ?_
    obtain ⟨mb, b1, b2⟩ := J1.mod.blt
    refine wpAny_Call_Name_kw (Calls.Name_function_global L.kind L.rep (Calls.loadGlobal_builtin (J1.mod.glob.keeps J1.bk) hm (b1.keeps J1.bk) ((b2 "repr" (by decide)).trans boot_repr) ?_) (by decide))
    refine PyProof.Rows.callWith_builtin1 (Calls.spliced_cons ?_) rfl rfl
    show wpAny _ _ (eval (.Name n p2) (PySem.W.envX (X.env.qual ++ "<lambda>") scope h.objs.size f (.ref c') (cloFrom X.env.cells scope.names []))) _ _ _
    refine wpAny_Name (wpAny_loadName_local (m := fun y => ([(n, v)] : List (Str × PySem.Value)).reverse.lookup y) L.kind L.loc hns (show ([(n, v)] : List (Str × PySem.Value)).reverse.lookup n = some v by simp) ?_) hnd
    refine Calls.spliced_nil ?_
    have hu := hr.units
    refine repr_any (PyProof.Rows.Reads.keeps kp rd) hs nd (by exact free) (by
      show X.A.units + 1 + 1 + 3 + (d.depth + 1) < cLine
      have := hr.un
      have deep : d.depth ≤ 60 := deep
      omega) short fun h2 u tk2 keep => ?_
    exact ⟨_, rfl, h2, tk2, rfl, fun b o e => keep b o (kp b o e), .str _ _⟩
  refine wpAny_call (codeAny_mono rc fun r s' hq => ?_)
  obtain ⟨u, rfl, q⟩ := hq
  exact q
/-- the whole call's reading -/
def aSortR (K : PySem.W.Frag) (w : World) (T : List (Addr × Str)) (Q : VK) (x : V) (H1 : Hp) : Prop := Tabs T H1 ∧ ∃ xs : List Vd, Colls K w H1 x (xs.map (·.1)) ∧ (∀ q ∈ xs, ShowOk K H1 q) ∧ xs.length ≤ sizeLine ∧
  ∀ H2 p, ExtN H1 H2 → Tabs T H2 → H2 p = none → Q (.ref p) (upd H2 p (.lst ((srt xs).map (·.1))))
def tSortR (K : PySem.W.Frag) (w : World) (T : List (Addr × Str)) (te : TE) : TE := fun σ H Q => te σ H fun x H1 => aSortR K w T Q x H1
def oneOf (R : V → Hp → Prop) : List V → Hp → Prop := fun vs H => match vs with
  | [x] => R x H
  | _ => False
theorem oneOf_is {R : V → Hp → Prop} {vs : List V} {H : Hp} (h : oneOf R vs H) : ∃ x, vs = [x] ∧ R x H := by
  match vs, h with
  | [x], h => exact ⟨x, rfl, h⟩
theorem objok_get {P : Program} {w : World} {H : Hp} {h : Heap} {a : Addr} {o : HO} (x : ObjOk P w H h a o) : ∃ ob, h.get? a = some ob := by
  cases o with
  | lst xs => obtain ⟨_, _, _, _, e⟩ := x; exact ⟨_, e⟩
  | tup xs => obtain ⟨_, _, _, o, e, _⟩ := x; exact ⟨_, e⟩
  | dK kvs => obtain ⟨_, _, _, _, o, _, _, e, _⟩ := x; exact ⟨_, e⟩
  | dT kvs => obtain ⟨_, _, _, _, o, _, _, e, _⟩ := x; exact ⟨_, e⟩
  | set S n => obtain ⟨o, _, _, _, e, _⟩ := x; exact ⟨_, e⟩
  | ins C dx fs => obtain ⟨_, _, _, e, _⟩ := x; exact ⟨_, e⟩
  | own y => exact x
  | xd fs => obtain ⟨_, ⟨_, _, _, e, _⟩, _⟩ := x; exact ⟨_, e⟩
  | rng lo hi => obtain ⟨_, _, _, e⟩ := x; exact ⟨_, e⟩
  | frz ob u => obtain ⟨e, _⟩ := x; exact ⟨_, e⟩
  | tbl ps => exact ⟨_, x⟩
  | met f y => exact ⟨_, x⟩
  | ext φ => obtain ⟨_, e, _⟩ := x; exact e
theorem each_of : ∀ {xs : List Vd} {us : List PySem.Value}, Vals (xs.map (·.1)) us → PySem.W.EachIs (fun (v : PySem.Value) (x : Vd) => RelV x.1 v) us xs
  | [], _, r => by cases r; exact .nil
  | x :: xs, _, r => by
    cases r with
    | cons h t => exact .cons h (each_of t)
theorem of_each : ∀ {xs : List Vd} {us : List PySem.Value}, PySem.W.EachIs (fun (v : PySem.Value) (x : Vd) => RelV x.1 v) us xs → Vals (xs.map (·.1)) us
  | _, _, .nil => .nil
  | _, _, .cons h t => .cons h (of_each t)
theorem boot_sortedN : bootBuiltins ("sorted" : Str) = some (.builtin "sorted") := by decide +kernel
theorem key_kz {xs : List Vd} : ∀ d ∈ xs.map (fun x : Vd => PyData.str x.2.shown), ∃ z, d = .str z := fun d hd => by
  obtain ⟨x, _, rfl⟩ := List.mem_map.mp hd
  exact ⟨_, rfl⟩
theorem pe_sortR {T : List (Addr × Str)} {c P : Addr} {te : TE} {e : PySem.Expr} {params : Arguments} {scope : Scope} {n : Str} {p pos lp kp p1 p2 p3 : Pos} {k : Nat} (he : PE X e te) (TB : TabB X.base X.mg c P) (hcode : X.env.code = .ref c)
    (hmT : (P, X.env.qual ++ "<lambda>") ∈ T) (huT : ∀ p ∈ T, p.1 = P → p.2 = X.env.qual ++ "<lambda>") (L : LamR scope n) (hr : Room (k + 3) X.A) (free : X.A.guards = some []) (hm : X.mg "repr" = none) (hms : X.mg "sorted" = none) (hgs : Gl X "sorted")
    (hnd : (n == ("__debug__" : Str)) = false) (hdef : defaultsOf params X.env = ([], []))
    (hbind : ∀ (q : Str) (cl : List (Str × Addr)) (pm cv ctv u : PySem.Value), bindArgs (PySem.W.kla_fn "<lambda>" q params (.Call (.Name "repr" p1) [.Name n p2] [] p3) scope cl pm cv ctv) ⟨[u], []⟩ = pure [(n, u)])
    (hst : starEach [e] X.env = (false, eval e X.env) :: starEach [] X.env := by rfl) :
    PE X (.Call (.Name "sorted" p) [e] [⟨some "key", .Lambda params (.Call (.Name "repr" p1) [.Name n p2] [] p3) scope lp, kp⟩] pos) (tSortR X.K X.w T te) := by
  refine ⟨fun pins s σ H Q I h => ?_⟩
  refine wpAny_Call_Name_kw (ld_blt I hgs hms boot_sortedN ?_ (by decide))
  refine PyProof.Rows.callWith_kw (thn ((pa_cons he pa_nil hst).run pos pins s σ H (oneOf (aSortR X.K X.w T Q)) I h) fun xsv s1 ⟨vs, H1, I1, rvs, one⟩ => ?_) (by rw [hst] <;> rfl) (by rw [hst] <;> rfl) rfl rfl
  obtain ⟨x, rfl, hT, xs, hC, hS, hz, q1⟩ := oneOf_is one
  obtain ⟨xv, rfl, rx⟩ := vals1 rvs
  show wpAny _ _ (evalAll [do let v ← eval (.Lambda params (.Call (.Name "repr" p1) [.Name n p2] [] p3) scope lp) X.env; standAt pos; pure v]) _ _ s1
  refine wpAny_evalAll_cons (wpAny_bind (lam_make2 I1 TB hcode hmT huT hT hdef (fun y hy e => absurd e (L.nofree y hy)) fun f c' pm ctv H2 s2 I2 ext hT2 hf hfn hfr hco => ?_))
  refine wpAny_bind (wpAny_standAt (wpAny_pure (wpAny_evalAll_nil ?_)))
  obtain ⟨r, rfl, hC⟩ := hC
  cases rx
  have hC2 : Colls X.K X.w H2 (.ref r) (xs.map (·.1)) := ⟨r, rfl, hC.elim (fun z => .inl (ExtN.seq ext z)) fun ⟨es, D, e⟩ => .inr ⟨es, ExtN.da ext D, e⟩⟩
  have hS2 : ∀ q ∈ xs, ShowOk X.K H2 q := fun q hq => (hS q hq).tups (ExtN.tups ext)
  show wpAny _ _ (call (.builtin "sorted") [.ref r] [(Str.ofString "key", .ref f)]) _ _ s2
  have hz2 : (xs.map (·.1)).length ≤ sizeLine := by
    rw [List.length_map]
    exact hz
  refine call_function_entry_kw PyProof.Rows.kind_sorted PyProof.Rows.plain_sorted PyProof.Rows.entry_sorted (PyProof.Rows.ksk_s1 _ _) ?_
  unfold Builtin.«sorted»
  refine wpAny_bind (m := checkCount "sorted" 1 1 _) (wpAny_pure ?_)
  refine wpAny_bind (colls_run (A := X.A.in1) hr.hd I2 hC2 rfl hz2 fun h' tk us keep rel => ?_)
  have hus : us.length = xs.length := by
    rw [← rel.length, List.length_map]
  refine wpAny_bind (wpAny_newList ?_ (by rw [hus]; exact hz))
  have at1 : (h'.push (seqObj "list" us.toArray 0)).get? h'.objs.size = some (seqObj "list" us.toArray 0) := Heap.get?_push_size _ rfl
  have keep1 : ∀ b o, s2.heap.get? b = some o → b ≠ h'.objs.size ∧ (h'.push (seqObj "list" us.toArray 0)).get? b = some o := fun b o e => ⟨Nat.ne_of_lt (Heap.lt_size (keep b o e)), Heap.get?_push_of_some _ (keep b o e)⟩
  refine wpAny_bind (wpAny_holding (wpAny_call_entry_kw PyProof.Rows.slot_list_sort ⟨_, at1, rfl⟩ PyProof.Rows.entry_list_sort ?_ (PyProof.Rows.ksk_l1 _ _)))
  rw [PyProof.Rows.ksk_t1]
  have alk : PySem.W.AllAlike (xs.map fun x : Vd => PyData.str x.2.shown) := fun d hd d' hd' => by
    obtain ⟨z, rfl⟩ := key_kz d hd
    obtain ⟨z', rfl⟩ := key_kz d' hd'
    rfl
  have srtb : PySem.W.Sortable (xs.map fun x : Vd => PyData.str x.2.shown) := .inr fun d hd => by
    obtain ⟨z, rfl⟩ := key_kz d hd
    exact ⟨(fun e => nomatch e), (fun _ e => nomatch e)⟩
  have eu := each_of rel
  refine PySem.W.keyH_tree (A := X.A.in1.in1) (b := false) (kz := xs.map fun x : Vd => PyData.str x.2.shown) (vs := us) (s := { s2 with heap := h'.push (seqObj "list" us.toArray 0), toks := tk }) at1 (by rw [List.length_map, hus]) (by rw [hus]; exact hz) alk srtb (fun d hd => ?_)
    (PySem.W.keyH_turns (bs := xs) (k := fun x : Vd => PyData.str x.2.shown) (s := { s2 with heap := h'.push (seqObj "list" us.toArray 0), toks := tk }) eu fun v x hR hx g tk2 kp => ?_) fun h3 tk3 out c3 kp hD ko => ?_
  · obtain ⟨z, rfl⟩ := key_kz d hd
    have := hr.un
    show X.A.units + 1 + 1 + 0 < cLine
    omega
  · exact lam_repr (s := s2) (h := g) (tk := tk2) I2 L hr free hm hnd hf hco hbind (fun b o e => kp b o (keep1 b o e).1 (keep1 b o e).2) hR (hS2 x hx)
  · have eo := of_each (PySem.W.keyedOut_each (fun x : Vd => PyData.str x.2.shown) ko eu)
    have np : ∀ o, s2.heap.get? h'.objs.size ≠ some o := fun o e => Nat.lt_irrefl _ (Heap.lt_size (keep _ _ e))
    have n1 : s2.heap.get? h'.objs.size = none := by
      cases q : s2.heap.get? h'.objs.size with
      | none => rfl
      | some o => exact absurd q (np o)
    have n2 : H2 h'.objs.size = none := by
      cases q : H2 h'.objs.size with
      | none => rfl
      | some o =>
        obtain ⟨ob, e⟩ := objok_get (I2.hok _ _ q)
        exact absurd e (np ob)
    refine ⟨_, rfl, wpAny_pure ⟨_, rfl, .ref h'.objs.size, _, I2.laidN (t' := tk3) (fun b o e => kp b o (keep1 b o e).1 (keep1 b o e).2) n1 n2 (show ObjOk X.prog X.w _ h3 _ (.lst ((srt xs).map (·.1))) from ⟨?_, out, c3, eo, hD⟩), rfl, q1 H2 _ ext hT2 n2⟩⟩
    rw [List.length_map, srt_len]
    exact hz
end
end Tr
namespace Tr
open PySem PySem.Spec PyProof.Rows L2 AK
/-- the type of a datum -/
def tyD : PyData → String
  | .none => "NoneType"
  | .bool _ => "bool"
  | .int _ => "int"
  | .str _ => "str"
  | .list _ => "list"
  | .tuple _ => "tuple"
  | .dict _ => "dict"
/-- isinstance(x, c), x a datum, c a built-in type -/
def rIsD (K : PySem.W.Frag) : List V → Hp → VK → Prop := fun xs H Q => ∃ (x : V) (c : String) (d : PyData) (b : Bool), xs = [x, .ty c] ∧ Dp K H x d ∧ kitB (tyD d) c = some b ∧ Q (.bl b) H
theorem call_isD {X : Cx} : CallR X (.builtin "isinstance") (rIsD X.K) := by
  intro pins s σ H xs us Q I r h
  obtain ⟨x, c, d, b, rfl, hD, e, q⟩ := h
  obtain ⟨u1, u2, rfl, r1, r2⟩ := vals2 r
  obtain rfl : u2 = PySem.Value.type c := r2
  have kit : ∃ P : Heap → Prop, PySem.W.KitX X.K u1 (.type (tyD d)) P ∧ P s.heap ∧ u1 ≠ .builtin "__main__.__loader__#opaque" := by
    cases hD with
    | non => cases (show u1 = PySem.Value.none from r1); exact ⟨_, PySem.W.kitx_none, True.intro, fun z => nomatch z⟩
    | bl y => cases (show u1 = PySem.Value.bool y from r1); exact ⟨_, PySem.W.kitx_bool, True.intro, fun z => nomatch z⟩
    | int i => obtain ⟨t, rfl⟩ := r1; exact ⟨_, PySem.W.kitx_int, True.intro, fun z => nomatch z⟩
    | str y => obtain ⟨t, rfl⟩ := r1; exact ⟨_, PySem.W.kitx_str, True.intro, fun z => nomatch z⟩
    | lst hs ha =>
      cases r1
      obtain ⟨its, rv, ⟨o, n, ho, hc, _⟩, _⟩ := I.list hs
      exact ⟨_, PySem.W.kitx_list, ⟨o, ho, hc⟩, fun z => nomatch z⟩
    | tup hs ha =>
      cases r1
      obtain ⟨its, rv, ⟨o, ho, hc, _⟩, _⟩ := I.tuple hs
      exact ⟨_, PySem.W.kitx_tuple, ⟨o, ho, hc⟩, fun z => nomatch z⟩
  obtain ⟨P, Z, p, hx⟩ := kit
  exact PySem.W.kia_one Z I.kIn p (kit_ty e) hx fun tk => ⟨.bl b, H, I.tok tk, rfl, q⟩
def isIntD : PyData → Bool
  | .int _ => true
  | _ => false
def isTupD : PyData → Bool
  | .tuple _ => true
  | _ => false
def notBoolD : PyData → Bool
  | .bool _ => false
  | _ => true
theorem kit_int (d : PyData) (nd : ∀ kvs, d ≠ .dict kvs) : ∃ b, kitB (tyD d) "int" = some b ∧ (b = true → ∃ c, kitB (tyD d) "bool" = some c ∧ (!c) = isIntD d) ∧ (b = false → isIntD d = false) := by
  have k1 : kitB "NoneType" "int" = some false := by decide +kernel
  have k2 : kitB "bool" "int" = some true := by decide +kernel
  have k3 : kitB "int" "int" = some true := by decide +kernel
  have k4 : kitB "str" "int" = some false := by decide +kernel
  have k5 : kitB "list" "int" = some false := by decide +kernel
  have k6 : kitB "tuple" "int" = some false := by decide +kernel
  have k7 : kitB "bool" "bool" = some true := by decide +kernel
  have k8 : kitB "int" "bool" = some false := by decide +kernel
  cases d with
  | none => exact ⟨false, k1, nofun, fun _ => rfl⟩
  | bool b => exact ⟨true, k2, fun _ => ⟨true, k7, rfl⟩, nofun⟩
  | int i => exact ⟨true, k3, fun _ => ⟨false, k8, rfl⟩, nofun⟩
  | str x => exact ⟨false, k4, nofun, fun _ => rfl⟩
  | list xs => exact ⟨false, k5, nofun, fun _ => rfl⟩
  | tuple xs => exact ⟨false, k6, nofun, fun _ => rfl⟩
  | dict kvs => exact absurd rfl (nd kvs)
theorem kit_tup (d : PyData) (nd : ∀ kvs, d ≠ .dict kvs) : kitB (tyD d) "tuple" = some (isTupD d) := by
  have k1 : kitB "NoneType" "tuple" = some false := by decide +kernel
  have k2 : kitB "bool" "tuple" = some false := by decide +kernel
  have k3 : kitB "int" "tuple" = some false := by decide +kernel
  have k4 : kitB "str" "tuple" = some false := by decide +kernel
  have k5 : kitB "list" "tuple" = some false := by decide +kernel
  have k6 : kitB "tuple" "tuple" = some true := by decide +kernel
  cases d with
  | none => exact k1
  | bool b => exact k2
  | int i => exact k3
  | str x => exact k4
  | list xs => exact k5
  | tuple xs => exact k6
  | dict kvs => exact absurd rfl (nd kvs)
theorem dp_nodict {K : PySem.W.Frag} {H : Hp} {v : V} {d : PyData} (h : Dp K H v d) : ∀ kvs, d ≠ .dict kvs := by
  intro kvs e
  subst e
  cases h
/-- called with a datum: whether it is such a one -/
def spAsk (f : PyData → Bool) (K : PySem.W.Frag) : Sp := fun vs H Q _ => ∃ (v : V) (d : PyData), vs = [v] ∧ Dp K H v d ∧ Q (.bl (f d)) H
theorem spAsk_len {f : PyData → Bool} {K : PySem.W.Frag} {x : Str} {vs : List V} {H : Hp} {Q : VK} {E : XK} (h : spAsk f K vs H Q E) : vs.length = [x].length := by
  obtain ⟨v, d, rfl, _⟩ := h
  rfl
end Tr
namespace Tr
open PySem PySem.Spec PyProof.Rows L2 Pen
/-! ### what __init__ of an own error bears: each parameter stored under its name -/
def spI (C : Addr) (fs : List Str) : Sp := fun vs H Q _ => ∃ (a : Addr) (ws : List V), vs = .ref a :: ws ∧ ws.length = fs.length ∧ H a = some (exo a C none) ∧
  ∀ (H' : Hp) (d : Addr), H d = none → H' a = some (exo a C (some d)) → H' d = some (exd d (fs.zip ws).reverse) → But a H H' → Q .non H'
theorem spI_len {C : Addr} {fs : List Str} {vs : List V} {H : Hp} {Q : VK} {E : XK} (h : spI C fs vs H Q E) : vs.length = (("self" : Str) :: fs).length := by
  obtain ⟨a, ws, rfl, hl, _⟩ := h
  exact congrArg Nat.succ hl
theorem XoAt.keep {H H' : Hp} {a C : Addr} {fs : Option (List (Str × V))} (x : XoAt H a C fs) (s : Same H H') : XoAt H' a C fs := by
  cases fs with
  | none => exact s _ _ x
  | some l =>
    obtain ⟨d, e1, e2⟩ := x
    exact ⟨d, s _ _ e1, s _ _ e2⟩
theorem same_new {H H1 : Hp} {a : Addr} {o : HO} (n : H a = none) (b : But a (upd H a o) H1) : Same H H1 := fun c u e => by
  have ne := ne_of_none e n
  exact b c u (by rw [upd_ne ne]; exact e) ne
/-- the first field -/
theorem xo_first {H : Hp} {a C d : Addr} {f : Str} {v : V} (hd : H d = none) (hne : d ≠ a) : XoAt (upd (upd H d (exd d [(f, v)])) a (exo a C (some d))) a C (some [(f, v)]) :=
  ⟨d, upd_same, by rw [upd_ne hne, upd_same]⟩
theorem but_first {H : Hp} {a C d : Addr} {f : Str} {v : V} (hd : H d = none) : But a H (upd (upd H d (exd d [(f, v)])) a (exo a C (some d))) := fun b o e n => by
  rw [upd_ne n, upd_ne (ne_of_none e hd)]
  exact e
/-- a class of errors, all that a body asks -/
structure Er (P : Program) (w : World) (K : PySem.W.Frag) (mg : Str → Option PySem.Value) (base : Heap) (x : Str) (C : Addr) (fs : List Str) : Prop where
  t : Xc K C
  no : ∀ f ∈ fs, PySem.W.findIn K (.ref C) f = some none
  mgx : mg x = some (.ref C)
  ini : ∃ fI fd, PySem.W.findIn K (.ref C) "__init__" = some (some (.ref fI)) ∧ PySem.W.typeIn K (.ref fI) = some (.type "function") ∧ FnOk P w K mg base CX0 1 fI fd ("self" :: fs) (spI C fs) ∧ L2.Binds K fd ("self" :: fs) []
/-- raise x(e, ..) -/
theorem pmk_er {X : Cx} {k : Nat} {x : Str} {C : Addr} {fs : List Str} {ta : TA} {e : PySem.Expr} {es : List PySem.Expr} {p pos : Pos} (T : Er X.prog X.w X.K X.mg X.base x C fs) (hr : Room (k + 2) X.A) (hg : Gl X x) (ha : PA X (e :: es) ta)
    (hdb : (x == ("__debug__" : Str)) = false := by decide) (he : starEach (e :: es) X.env = (false, eval e X.env) :: starEach es X.env := by rfl) (hpl : (backTo pos (starEach es X.env)).any (·.1) = false := by rfl) :
    PMk X (.Call (.Name x p) (e :: es) [] pos) (tMkO C (spI C fs) [] ta) := by
  obtain ⟨fI, fd, i1, i2, F, b⟩ := T.ini
  exact pmk_oex (p := p) (pos := pos) T.t.o i1 i2 F (hr.mono (by omega)) b .nil pass0 hg T.mgx ha hdb he hpl
/-- .. what is to be shown then: cls is the class, its dict is new -/
theorem raise_sp {C : Addr} {fs : List Str} {vs : List V} {H1 : Hp} {Q : XK} (z1 : vs.length = fs.length) (z0 : fs.length ≤ 10) (z3 : ∀ d, H1 d = none → ∀ H2, Same H1 H2 → H2 d = some (.xd (fs.zip vs).reverse) → Q (.ref C) (some d) H2) :
    vs.length ≤ 1000 ∧ ∀ a, H1 a = none → spI C fs (.ref a :: (vs ++ [])) (upd H1 a (exo a C none)) (fun v H2 => v = .non ∧ ∃ (d : Addr) (gs : List (Str × V)), H2 a = some (exo a C (some d)) ∧ H2 d = some (exd d gs) ∧ H1 d = none ∧ Q (.ref C) (some d) (upd (del H2 a) d (.xd gs))) (fun _ _ _ => False) := by
  refine ⟨by omega, fun a na => ⟨a, vs, by rw [List.append_nil], z1, upd_same, fun H' d hd e1 e2 but => ⟨rfl, d, _, e1, e2, ?_, ?_⟩⟩⟩
  · by_cases eda : d = a
    · subst eda
      exact na
    · rw [upd_ne eda] at hd
      exact hd
  · have nda : d ≠ a := by
      rintro rfl
      rw [upd_same] at hd
      cases hd
    have hd1 : H1 d = none := by
      rw [upd_ne nda] at hd
      exact hd
    refine z3 d hd1 _ (fun b o e => ?_) upd_same
    have nb : b ≠ a := ne_of_none e na
    rw [upd_ne (ne_of_none e hd1)]
    show del H' a b = some o
    unfold del
    rw [if_neg nb]
    exact but b o (by rw [upd_ne nb]; exact e) nb
end Tr
namespace Tr
open PySem PySem.Spec PyProof.Rows L2 AK Pen
/-- a value is looked at, else the error C is raised with the fields that are told -/
def spCheck (K : PySem.W.Frag) (f : PyData → Bool) (C : Addr) (fs : V → List (Str × V)) : Sp := fun vs H Q E => ∃ v d, vs = [v] ∧ Dp K H v d ∧ (f d = true → Q .non H) ∧ (f d = false → ∀ dd H2, H dd = none → Same H H2 → H2 dd = some (.xd (fs v)) → E (.ref C) (some dd) H2)
theorem spCheck_len {K : PySem.W.Frag} {f : PyData → Bool} {C : Addr} {fs : V → List (Str × V)} {x : Str} {vs : List V} {H : Hp} {Q : VK} {E : XK} (h : spCheck K f C fs vs H Q E) : vs.length = [x].length := by
  obtain ⟨v, d, rfl, _⟩ := h
  rfl
theorem same_refl {H : Hp} : Same H H := fun _ _ e => e
theorem same_trans {H H1 H2 : Hp} (a : Same H H1) (b : Same H1 H2) : Same H H2 := fun c o e => b c o (a c o e)
theorem same_upd {H : Hp} {a : Addr} {o : HO} (n : H a = none) : Same H (upd H a o) := fun b u e => by
  rw [upd_ne (ne_of_none e n)]
  exact e
theorem same_rd {H H' : Hp} (s : Same H H') {a : Addr} {o : HO} (h : Rd H a o) : Rd H' a o := h.elim (fun h => .inl (s _ _ h)) fun ⟨u, h⟩ => .inr ⟨u, s _ _ h⟩
mutual
theorem dp_same {K : PySem.W.Frag} {H H' : Hp} (s : Same H H') : ∀ (d : PyData) (v : V), Dp K H v d → Dp K H' v d
  | .none, _, h => by cases h; exact .non
  | .bool b, _, h => by cases h; exact .bl b
  | .int i, _, h => by cases h; exact .int i
  | .str x, _, h => by cases h; exact .str x
  | .list ds, _, h => by
    cases h with
    | lst hs ha => exact .lst (hs.elim (fun z => .inl (same_rd s z)) .inr) (dps_same s ds _ ha)
  | .tuple ds, _, h => by
    cases h with
    | tup hs ha => exact .tup (hs.elim (fun z => .inl (same_rd s z)) .inr) (dps_same s ds _ ha)
  | .dict _, _, h => by cases h
theorem dps_same {K : PySem.W.Frag} {H H' : Hp} (s : Same H H') : ∀ (ds : List PyData) (vs : List V), DpAll K H vs ds → DpAll K H' vs ds
  | [], _, h => by cases h; exact .nil
  | d :: ds, _, h => by
    cases h with
    | cons h1 h2 => exact .cons (dp_same s d _ h1) (dps_same s ds _ h2)
end
theorem but_of_same {a : Addr} {H H1 H2 : Hp} (s : Same H H1) (b : But a H1 H2) : But a H H2 := fun c o e n => b c o (s c o e) n
end Tr

set_option Elab.async false
set_option linter.all false
set_option maxRecDepth 100000
set_option maxHeartbeats 4000000
namespace Tr
open PySem PySem.Spec PyProof.Rows L2 AK Pen LamX
theorem yes_if {σ : L2.St} {H : Hp} {A B : Hp → Prop} (h : A H) : tYes σ H (fun b H => if b = true then A H else B H) := by
  show (if true = true then A H else B H)
  rw [if_pos rfl]
  exact h
theorem at_new {T : Hp → Prop} {H1 : Hp} (h : ∀ H2, H2 = H1 → T H2) : T H1 := h H1 rfl
theorem rd_nil {σ : L2.St} {H : Hp} {Q : List V → Hp → Prop} (h : Q [] H) : tNil σ H Q := h
theorem dps_len {K : PySem.W.Frag} : ∀ {xs : List V} {ds : List PyData} {H : Hp}, DpAll K H xs ds → xs.length = ds.length
  | [], _, _, h => by cases h; rfl
  | x :: xs, _, _, h => by
    cases h with
    | cons _ t => exact congrArg Nat.succ (dps_len t)
/-- all but these stay -/
def Stay (S : Addr → Prop) (H H' : Hp) : Prop := ∀ b o, H b = some o → ¬ S b → H' b = some o
theorem Stay.rfl' {S : Addr → Prop} {H : Hp} : Stay S H H := fun _ _ e _ => e
theorem Stay.of {S : Addr → Prop} {H H' : Hp} (s : Same H H') : Stay S H H' := fun b o e _ => s b o e
theorem Stay.trans {S : Addr → Prop} {H H1 H2 : Hp} (a : Stay S H H1) (b : Stay S H1 H2) : Stay S H H2 := fun c o e n => b c o (a c o e n) n
theorem Stay.mono {S S' : Addr → Prop} {H H1 : Hp} (a : Stay S H H1) (h : ∀ b, S b → S' b) : Stay S' H H1 := fun c o e n => a c o e fun z => n (h c z)
theorem Stay.upd {S : Addr → Prop} {H H1 : Hp} {p : Addr} {o : HO} (a : Stay S H H1) (h : S p) : Stay S H (L2.upd H1 p o) := fun c u e n => by
  have ne : c ≠ p := by
    rintro rfl
    exact n h
  rw [upd_ne ne]
  exact a c u e n
theorem Stay.new {S : Addr → Prop} {H H1 : Hp} {p : Addr} {o : HO} (a : Stay S H H1) (h : H p = none) : Stay S H (L2.upd H1 p o) := fun c u e n => by
  rw [upd_ne (ne_of_none e h)]
  exact a c u e n
/-- what changes are no tuples -/
theorem Stay.tups {S : Addr → Prop} {H H' : Hp} (a : Stay S H H') (h : ∀ b, S b → ∀ xs, ¬ Rd H b (.tup xs)) : Tups H H' := fun c xs r => by
  have n : ¬ S c := fun z => h c z xs r
  exact r.elim (fun r => .inl (a c _ r n)) fun ⟨o, r⟩ => .inr ⟨o, a c _ r n⟩
theorem lst_ntup {H : Hp} {l : Addr} {ys : List V} (e : H l = some (.lst ys)) : ∀ xs, ¬ Rd H l (.tup xs) := fun xs h => by
  unfold Rd at h
  rw [e] at h
  rcases h with h | ⟨_, h⟩ <;> cases h
theorem daPut {K : PySem.W.Frag} {w : World} {H : Hp} {d : Addr} {es : List Eh} (D : DA K w H d es) (e : H d = some (DkO w d es)) {k : NestedKey} {v x : V} (n : NK K H k v) (kd : k.depth ≤ 8) : DA K w (upd H d (DkO w d (putE es k v x))) d (putE es k v x) := by
  have t : Tups H (upd H d (DkO w d (putE es k v x))) := Tups.upd (dk_ntup e)
  refine ⟨.inl upd_same, fun f hf => ?_, putE_nd D.nd⟩
  rcases putE_mem hf with ⟨g, hg, e1, e2⟩ | ⟨e1, e2⟩
  · rw [← e1, ← e2]
    exact ⟨(D.nk g hg).1.tups t, (D.nk g hg).2⟩
  · rw [e1, e2]
    exact ⟨n.tups t, kd⟩
theorem daKeep {K : PySem.W.Frag} {w : World} {H H' : Hp} {d : Addr} {es : List Eh} (D : DA K w H d es) (t : Tups H H') (e : Rd H' d (DkO w d es)) : DA K w H' d es := ⟨e, fun x hx => ⟨(D.nk x hx).1.tups t, (D.nk x hx).2⟩, D.nd⟩
theorem atK_mem {es : List Eh} {k : NestedKey} {v : V} (h : atK es k = some v) : ∃ e ∈ es, e.2.2 = v := by
  unfold atK at h
  obtain ⟨e, h1, h2⟩ := Option.map_eq_some_iff.mp h
  exact ⟨e, List.mem_of_find?_eq_some h1, h2⟩
theorem putE_vals {es : List Eh} {k : NestedKey} {u v : V} {e : Eh} (h : e ∈ putE es k u v) : e.2.2 = v ∨ ∃ f ∈ es, f.2.2 = e.2.2 := by
  cases q : atK es k with
  | none =>
    rw [putE_new q] at h
    rcases List.mem_append.mp h with h | h
    · exact .inr ⟨e, h, rfl⟩
    · obtain rfl : e = (k, u, v) := by simpa using h
      exact .inl rfl
  | some y =>
    rw [putE_old q] at h
    obtain ⟨f, hf, rfl⟩ := List.mem_map.mp h
    by_cases z : f.1 = k
    · rw [if_pos z]
      exact .inl rfl
    · rw [if_neg z]
      exact .inr ⟨f, hf, rfl⟩
theorem passE {P : Program} {w : World} {X : Cx} : Passes (L2.CX P w) X E0 := fun _ _ _ _ _ _ _ h => by
  obtain ⟨_, _, _, _, _, _, _, _, _, _, _, _, h⟩ := h
  exact h.elim
/-- all but a and the tables stay -/
def ButN (a : Addr) (H H' : Hp) : Prop := ∀ b o, H b = some o → (∀ ps, o ≠ .tbl ps) → b ≠ a → H' b = some o
/-- tuple(x): one that holds what x holds -/
def rTupOf (K : PySem.W.Frag) : List V → Hp → VK → Prop := fun xs H Q => ∃ x ys, xs = [.ref x] ∧ (SqL K H x ys ∨ SqT K H x ys) ∧ ∀ l H1, Same H H1 → SqT K H1 l ys → Q (.ref l) H1
theorem call_tupR {X : Cx} : CallR X (.type "tuple") (rTupOf X.K) := by
  intro pins s σ H xs us Q I r h
  obtain ⟨x, ys, rfl, hx, q⟩ := h
  exact call_tuple_of pins s σ H _ us Q I r ⟨x, ys, rfl, hx.imp (fun z => ⟨z, fun l nl => q l _ (same_upd nl) (SqT.of upd_same)⟩) fun z => ⟨z, q x H same_refl z⟩⟩
theorem ins_ntup {H : Hp} {a C dx : Addr} {fs : List (Str × V)} (e : H a = some (.ins C dx fs)) : ∀ xs, ¬ Rd H a (.tup xs) := fun xs h => by
  rcases h with h | ⟨u, h⟩ <;> rw [e] at h <;> cases h
/-- not there, or a table -/
def NewB (H : Hp) (b : Addr) : Prop := ∀ o, H b = some o → ∃ ps, o = .tbl ps
theorem ButN.of {a : Addr} {H H' : Hp} (b : But a H H') : ButN a H H' := fun c o e _ n => b c o e n
theorem ButN.trans {a : Addr} {H H1 H2 : Hp} (x : ButN a H H1) (y : ButN a H1 H2) : ButN a H H2 := fun c o e t n => y c o (x c o e t n) t n
theorem ButN.tups {a C dx : Addr} {fs : List (Str × V)} {H H' : Hp} (x : ButN a H H') (ha : H a = some (.ins C dx fs)) : Tups H H' := fun c xs r => by
  have n : c ≠ a := by
    rintro rfl
    exact ins_ntup ha xs r
  rcases r with r | ⟨o, r⟩
  · exact .inl (x _ _ r (fun ps z => nomatch z) n)
  · exact .inr ⟨o, x _ _ r (fun ps z => nomatch z) n⟩
theorem NewB.of {a C dx b : Addr} {fs : List (Str × V)} {H H' : Hp} (x : ButN a H H') (ha : H' a = some (.ins C dx fs)) (n : H' b = none) : NewB H b := fun o e => by
  by_cases t : ∃ ps, o = .tbl ps
  · exact t
  · have nb : b ≠ a := by
      rintro rfl
      rw [ha] at n
      cases n
    rw [x _ _ e (fun ps z => t ⟨ps, z⟩) nb] at n
    cases n
theorem Tabs.but {T : List (Addr × Str)} {a C dx : Addr} {fs : List (Str × V)} {H H' : Hp} (t : Tabs T H) (ha : H a = some (.ins C dx fs)) (b : But a H H') : Tabs T H' := fun p hp => by
  obtain ⟨ps, h1, h2, h3⟩ := t p hp
  refine ⟨ps, b _ _ h1 (ne_of h1 ha fun z => nomatch z), h2, fun pos cv hc => ?_⟩
  obtain ⟨c, e1, e2⟩ := h3 pos cv hc
  exact ⟨c, e1, b _ _ e2 (ne_of e2 ha fun z => nomatch z)⟩
theorem pen_tups {p pl : Addr} {Ha Hb : Hp} {m : Nat} (PA : PenAt Ha p pl m) (b : But p Ha Hb) : Tups Ha Hb := fun c xs h => by
  obtain ⟨kvs, hp⟩ := PA.is
  have n : c ≠ p := by
    rintro rfl
    rcases h with h | ⟨u, h⟩ <;> rw [hp] at h <;> cases h
  exact h.imp (fun h => b _ _ h n) fun ⟨u, h⟩ => ⟨u, b _ _ h n⟩
/-- o.m(..) where what the method lets out is told at the slots -/
def tMethW (C : Addr) (m : Str) (sp : Sp) (E : L2.St → XK) (ta : TE) (t : TA) : TE := fun σ H Q => ta σ H fun x H1 => ∃ a dx fs, x = .ref a ∧ H1 a = some (.ins C dx fs) ∧ fs.lookup m = none ∧ t σ H1 fun vs H2 => sp (x :: vs) H2 Q (E σ)
theorem pe_methW {X : Cx} {CX : CXT} {k : Nat} {C f : Addr} {m : Str} {fd : FuncData} {ps : List Str} {sp : Sp} {E : L2.St → XK} {o e : PySem.Expr} {es : List PySem.Expr} {ta : TE} {t : TA} {apos pos : Pos} {pl : Sem Bool} (he : PE X o ta) (c : Cls X.K C) (hm : Meth X.K C m f)
    (F : FnOk X.prog X.w X.K X.mg X.base CX k f fd ps sp) (hr : Room k X.A) (hb : L2.Binds X.K fd ps []) (hx : ∀ σ, PassesAt CX X σ (E σ)) (ha : PA X (e :: es) t)
    (hst : starEach (e :: es) X.env = (false, eval e X.env) :: starEach es X.env := by rfl) (hpl : (backTo pos (starEach es X.env)).any (·.1) = false := by rfl)
    (ht : eval (.Call (.Attribute o m apos) (e :: es) [] pos) X.env = (do
      let ov ← eval o X.env
      standAt apos.atName
      let (f, first) ← holding [ov] (getMethod ov m pl)
      callWith pos f first (backTo pos (starEach (e :: es) X.env)) (backToKw pos (keywordEach [] X.env))) := by rfl) :
    PE X (.Call (.Attribute o m apos) (e :: es) [] pos) (tMethW C m sp E ta t) := by
  refine ⟨fun pins s σ H Q I h => ?_⟩
  refine PySem.W.methodCall_KW (pl := pl) (thn (he.run pins s σ H _ I h) fun u s1 ⟨x, H1, I1, rx, a, dx, fs, ex, ea, l, q⟩ => ?_) ht
  subst ex
  obtain rfl : u = PySem.Value.ref a := rx
  refine getmeth_ok I1 ea c hm l ?_
  refine PySem.W.callWith_K (first := [.ref a]) (h₀ := X.base) I.ok.mod.kin hm.kp (thn (ha.run pos pins s1 σ H1 _ I1 q) fun us s2 ⟨vs, H2, I2, r, q2⟩ => ⟨I2.kIn, ?_⟩) hst hpl
  exact run_fnS (us := .ref a :: us) (vs := .ref a :: vs) F hr hb (hx σ) I2 (.cons rfl r) q2
/-! ### C(..) within try: what __init__ lets out is told at the slots -/
def tMakeW (C : Addr) (sp : Sp) (E : L2.St → XK) (t : TA) : TE := fun σ H Q => t σ H fun vs H1 => ∀ x dx, H1 x = none → H1 dx = none → dx ≠ x →
  sp (.ref x :: vs) (upd (upd H1 dx (.own x)) x (.ins C dx [])) (fun v H2 => v = .non ∧ Q (.ref x) H2) (E σ)
section
variable {X : Cx} {CX : CXT} {k : Nat} {f C : Addr} {fd : FuncData} {ps : List Str} {sp : Sp} {E : L2.St → XK} {x : Str} {p pos : Pos} {e : PySem.Expr} {es : List PySem.Expr} {t : TA}
theorem run_makeGW {pins : List (Addr × Obj)} {σ : L2.St} {H : Hp} {s : Shared} {Q : VK} {us : List PySem.Value} {vs : List V} (M : Mk X.K C f) (F : GFn X.prog X.w X.K X.mg X.base CX k f fd ps sp) (hG : X.A.guards = some []) (hr : Room (k + 1) X.A) (hb : L2.Binds X.K fd ps [])
    (hx : PassesAt CX X σ (E σ)) (I : L2.Inv X pins σ H s) (r : Vals vs us)
    (h : ∀ x dx, H x = none → H dx = none → dx ≠ x → sp (.ref x :: vs) (upd (upd H dx (.own x)) x (.ins C dx [])) (fun v H2 => v = .non ∧ Q (.ref x) H2) (E σ)) :
    wpAny (model X.prog X.w) X.A (call (.ref C) us) (EP X pins σ Q) X.xe s := by
  have hq := h (s.heap.objs.size + 1) s.heap.objs.size (I.hok.fresh (Nat.le_succ _)) (I.hok.fresh (Nat.le_refl _)) (Nat.ne_of_lt (Nat.lt_succ_self _))
  have I2 := Inv.made (C := C) I
  have r2 : Vals (V.ref (s.heap.objs.size + 1) :: vs) (PySem.Value.ref (s.heap.objs.size + 1) :: us) := .cons rfl r
  have hl : (PySem.Value.ref (s.heap.objs.size + 1) :: us ++ []).length = ps.length := by
    have e := r2.length
    rw [F.len _ _ _ _ hq] at e
    rw [List.append_nil]
    exact e.symm
  have b := hb { s with heap := _ } (PySem.Value.ref (s.heap.objs.size + 1) :: us) I2.kIn hl
  rw [List.append_nil] at b
  have hG2 : (X.A.under (.builtin "type.__call__" ⟨.ref C :: us, []⟩)).guards = some [] := by
    have e1 : (Code.builtin "type.__call__" ⟨.ref C :: us, []⟩).guards = [] := by
      have e2 : (Code.builtin "type.__call__" ⟨.ref C :: us, []⟩).isGuard = false := by
        show guardIds.contains "type.__call__" = false
        decide +kernel
      unfold Code.guards
      rw [e2]
      rfl
    show pushGuards (Code.builtin "type.__call__" ⟨.ref C :: us, []⟩).guards X.A.guards = some []
    rw [e1, hG]
    first | rfl | (rw [pushGuards_eq]; rfl)
  refine wpAny_call (make_map (f := f) I.kIn M.makes M.init (beq_iff_eq.mp M.fn) (codeAny_mono (F.run _ X.stack _ _ ⟨PySem.Value.ref (s.heap.objs.size + 1) :: us, []⟩ (PySem.Value.ref (s.heap.objs.size + 1) :: us) _ _ (E σ) (hr.make C us []) hG2
    (I2.env0.make C us []) b r2 hq) fun r s' hq' => ?_))
  cases r with
  | error e => exact hx pins _ _ e s' I2 hq'
  | ok fl =>
    cases fl with
    | ret u =>
      obtain ⟨v, H', I3, rv, ev, q3⟩ := I2.after hq'
      subst ev
      exact ⟨rv, ⟨V.ref (s.heap.objs.size + 1), H', I3, rfl, q3⟩⟩
    | next => exact False.elim hq'
    | brk => exact False.elim hq'
    | cont => exact False.elim hq'
theorem pe_makeGW (M : Mk X.K C f) (F : GFn X.prog X.w X.K X.mg X.base CX k f fd ps sp) (hG : X.A.guards = some []) (hr : Room (k + 1) X.A) (hg : Gl X x) (hm : X.mg x = some (.ref C)) (hb : L2.Binds X.K fd ps []) (hx : ∀ σ, PassesAt CX X σ (E σ))
    (ha : PA X (e :: es) t) (hdb : (x == ("__debug__" : Str)) = false := by decide) (he : starEach (e :: es) X.env = (false, eval e X.env) :: starEach es X.env := by rfl) (hpl : (backTo pos (starEach es X.env)).any (·.1) = false := by rfl) :
    PE X (.Call (.Name x p) (e :: es) [] pos) (tMakeW C sp E t) := by
  refine ⟨fun pins s σ H Q I h => ?_⟩
  refine wpAny_Call_Name_kw (ld_glob I hg hm ?_ hdb)
  refine PySem.W.callWith_K (h₀ := X.base) I.ok.mod.kin M.kp (thn (ha.run pos pins s σ H _ I h) fun us s1 ⟨vs, H1, I1, r, q⟩ => ⟨I1.kIn, ?_⟩) he hpl
  exact run_makeGW M F hG hr hb (hx σ) I1 r q
/-- a def that needs no free guards, where they are free -/
theorem FnOk.gfn {P : Program} {w : World} {K : PySem.W.Frag} {mg : Str → Option PySem.Value} {base : Heap} (F : FnOk P w K mg base CX k f fd ps sp) : GFn P w K mg base CX k f fd ps sp :=
  ⟨F.len, fun A outer s H args us vs Q E hr _ e0 b r h => F.run A outer s H args us vs Q E hr e0 b r h⟩
end
/-! ### l != [] -/
def rNeE (K : PySem.W.Frag) : R2 := fun x y H Q => ∃ a b xs, x = .ref a ∧ y = .ref b ∧ SqL K H a xs ∧ SqL K H b [] ∧ Q (.bl (decide (xs ≠ []))) H
theorem op_neE {X : Cx} (hu : X.A.units < cLine) : OpR X (compareOp .NotEq) (rNeE X.K) := by
  intro pins s σ H x y v u Q I rx ry h
  obtain ⟨a, b, xs, rfl, rfl, ha, hb, q⟩ := h
  cases rx
  cases ry
  obtain ⟨its, r1, p1, _⟩ := I.list ha
  obtain ⟨its2, r2, p2, _⟩ := I.list hb
  cases r2
  cases r1 with
  | nil => exact SeqAt.RcNeAt.lists (e := fun _ => true) p1.isList p2.isList rfl hu (fun j h => nomatch h) _ _ _ _ ⟨.bl false, H, I, rfl, q⟩
  | cons h t => exact SeqAt.RcNeAt.lists_lengths p1.isList p2.isList (by simp) hu _ _ _ _ ⟨.bl true, H, I, rfl, q⟩
/-- isinstance(x, tuple) of a tuple of anything -/
def rIsTu (K : PySem.W.Frag) : List V → Hp → VK → Prop := fun xs H Q => ∃ a ys, xs = [.ref a, .ty "tuple"] ∧ SqT K H a ys ∧ Q (.bl true) H
theorem call_isTu {X : Cx} : CallR X (.builtin "isinstance") (rIsTu X.K) := by
  intro pins s σ H xs us Q I r h
  obtain ⟨a, ys, rfl, hs, q⟩ := h
  obtain ⟨u1, u2, rfl, r1, r2⟩ := vals2 r
  obtain rfl : u2 = PySem.Value.type "tuple" := r2
  cases r1
  obtain ⟨its, rv, ⟨o, ho, hc, _⟩, _⟩ := I.tuple hs
  exact PySem.W.kia_one PySem.W.kitx_tuple I.kIn ⟨o, ho, hc⟩ (kit_ty (show kitB "tuple" "tuple" = some true by decide +kernel)) (fun z => nomatch z) fun tk => ⟨.bl true, H, I.tok tk, rfl, q⟩
/-! ### what stays while the pen draws, tables change, new things come -/
def Kp (H H' : Hp) : Prop := ∀ b o, H b = some o → (∀ ps, o ≠ .tbl ps) → (∀ kvs, o ≠ .dK kvs) → H' b = some o
theorem Kp.rfl' {H : Hp} : Kp H H := fun _ _ e _ _ => e
theorem Kp.trans {H H1 H2 : Hp} (x : Kp H H1) (y : Kp H1 H2) : Kp H H2 := fun b o e t k => y b o (x b o e t k) t k
theorem Kp.same {H H' : Hp} (s : Same H H') : Kp H H' := fun b o e _ _ => s b o e
theorem Kp.ext {H H' : Hp} (s : ExtN H H') : Kp H H' := fun b o e t _ => s b o e t
theorem Kp.pen {H H' : Hp} {p pl : Addr} {n : Nat} (PA : PenAt H p pl n) (s : But p H H') : Kp H H' := fun b o e _ k => s b o e (by
  rintro rfl
  obtain ⟨kvs, hp⟩ := PA.is
  rw [hp] at e
  cases e
  exact k _ rfl)
theorem Kp.tups {H H' : Hp} (k : Kp H H') : Tups H H' := fun c xs r => r.elim (fun r => .inl (k _ _ r (fun _ z => nomatch z) fun _ z => nomatch z)) fun ⟨u, r⟩ => .inr ⟨u, k _ _ r (fun _ z => nomatch z) fun _ z => nomatch z⟩
theorem Kp.lst {H H' : Hp} (k : Kp H H') {a : Addr} {xs : List V} (e : H a = some (.lst xs)) : H' a = some (.lst xs) := k _ _ e (fun _ z => nomatch z) fun _ z => nomatch z
theorem Kp.tup {H H' : Hp} (k : Kp H H') {a : Addr} {xs : List V} (e : H a = some (.tup xs)) : H' a = some (.tup xs) := k _ _ e (fun _ z => nomatch z) fun _ z => nomatch z
theorem Kp.ins {H H' : Hp} (k : Kp H H') {a C dx : Addr} {fs : List (Str × V)} (e : H a = some (.ins C dx fs)) : H' a = some (.ins C dx fs) := k _ _ e (fun _ z => nomatch z) fun _ z => nomatch z
theorem Kp.dko {w : World} {H H' : Hp} (k : Kp H H') {a : Addr} {es : List Eh} (e : H a = some (DkO w a es)) : H' a = some (DkO w a es) := k _ _ e (fun _ z => nomatch z) fun _ z => nomatch z
theorem Kp.da {K : PySem.W.Frag} {w : World} {H H' : Hp} (k : Kp H H') {a : Addr} {es : List Eh} (D : DA K w H a es) : DA K w H' a es :=
  daKeep D k.tups (D.at_.elim (fun h => .inl (k.dko h)) fun ⟨u, h⟩ => .inr ⟨u, k _ _ h (fun _ z => nomatch z) fun _ z => nomatch z⟩)
theorem Kp.sql {K : PySem.W.Frag} {H H' : Hp} (k : Kp H H') {a : Addr} {xs : List V} (h : SqL K H a xs) : SqL K H' a xs :=
  h.elim (fun h => .inl (h.elim (fun h => .inl (k.lst h)) fun ⟨u, h⟩ => .inr ⟨u, k _ _ h (fun _ z => nomatch z) fun _ z => nomatch z⟩)) .inr
theorem Kp.sqt {K : PySem.W.Frag} {H H' : Hp} (k : Kp H H') {a : Addr} {xs : List V} (h : SqT K H a xs) : SqT K H' a xs := SqT.tups k.tups h
/-- all but the lists that H0 had -/
def Kl (H0 H H' : Hp) : Prop := ∀ b o, H b = some o → (∀ ps, o ≠ .tbl ps) → (∀ kvs, o ≠ .dK kvs) → (NewB H0 b ∨ ∀ xs, o ≠ .lst xs) → H' b = some o
theorem Kp.kl {H0 H H' : Hp} (k : Kp H H') : Kl H0 H H' := fun b o e t d _ => k b o e t d
theorem Kl.upd {H0 H : Hp} {x : Addr} {xs ys zs : List V} (h0 : H0 x = some (.lst xs)) (h1 : H x = some (.lst ys)) : Kl H0 H (L2.upd H x (.lst zs)) := fun b o e _ _ c => by
  have n : b ≠ x := by
    rintro rfl
    rcases c with c | c
    · obtain ⟨ps, z⟩ := c _ h0
      cases z
    · rw [h1] at e
      cases e
      exact c _ rfl
  rw [upd_ne n]
  exact e
theorem Kl.tups {H0 H H' : Hp} (k : Kl H0 H H') : Tups H H' := fun c xs r => r.elim (fun r => .inl (k _ _ r (fun _ z => nomatch z) (fun _ z => nomatch z) (.inr fun _ z => nomatch z))) fun ⟨u, r⟩ => .inr ⟨u, k _ _ r (fun _ z => nomatch z) (fun _ z => nomatch z) (.inr fun _ z => nomatch z)⟩
theorem Kl.da {K : PySem.W.Frag} {w : World} {H0 H H' : Hp} (k : Kl H0 H H') {a : Addr} {es : List Eh} (D : DA K w H a es) : DA K w H' a es :=
  daKeep D k.tups (D.at_.elim (fun h => .inl (k _ _ h (fun _ z => nomatch z) (fun _ z => nomatch z) (.inr fun _ z => nomatch z))) fun ⟨u, h⟩ => .inr ⟨u, k _ _ h (fun _ z => nomatch z) (fun _ z => nomatch z) (.inr fun _ z => nomatch z)⟩)
/-- the pen across all but a and the tables -/
theorem PenAt.butN {H H' : Hp} {a p pl : Addr} {n : Nat} (PA : PenAt H p pl n) (b : ButN a H H') (h1 : p ≠ a) (h2 : pl ≠ a) : PenAt H' p pl n := by
  obtain ⟨cells, x, d, c, f, P, h⟩ := PA
  exact ⟨cells, x, d, c, f, ⟨b _ _ P.di (fun _ z => nomatch z) h1, b _ _ P.li (fun _ z => nomatch z) h2, P.a0, P.d0, P.c0, P.f0, P.f1⟩, h⟩
theorem PenAt.extN {H H' : Hp} {p pl : Addr} {n : Nat} (PA : PenAt H p pl n) (b : ExtN H H') : PenAt H' p pl n := by
  obtain ⟨cells, x, d, c, f, P, h⟩ := PA
  exact ⟨cells, x, d, c, f, ⟨b _ _ P.di (fun _ z => nomatch z), b _ _ P.li (fun _ z => nomatch z), P.a0, P.d0, P.c0, P.f0, P.f1⟩, h⟩
/-! ### tables by key -/
theorem atK_find {α : Type} {kf : α → NestedKey} {nf vf : α → V} {k : NestedKey} : ∀ l : List α, (∃ x ∈ l, kf x = k ∧ atK (l.map fun x => (kf x, nf x, vf x)) k = some (vf x)) ∨ ((∀ x ∈ l, kf x ≠ k) ∧ atK (l.map fun x => (kf x, nf x, vf x)) k = none)
  | [] => .inr ⟨(fun _ h => nomatch h), rfl⟩
  | x :: l => by
    by_cases h : kf x = k
    · exact .inl ⟨x, List.mem_cons_self .., h, atK_pos (e := (kf x, nf x, vf x)) h⟩
    · have e : atK ((x :: l).map fun x => (kf x, nf x, vf x)) k = atK (l.map fun x => (kf x, nf x, vf x)) k := atK_neg (e := (kf x, nf x, vf x)) h
      rcases atK_find (kf := kf) (nf := nf) (vf := vf) (k := k) l with ⟨y, h1, h2, h3⟩ | ⟨h1, h2⟩
      · exact .inl ⟨y, List.mem_cons_of_mem _ h1, h2, e.trans h3⟩
      · exact .inr ⟨fun y hy => (List.mem_cons.mp hy).elim (fun z => z ▸ h) (h1 y), e.trans h2⟩
theorem nodup_inj {α β : Type} {f : α → β} : ∀ {l : List α}, (l.map f).Nodup → ∀ {x y}, x ∈ l → y ∈ l → f x = f y → x = y
  | [], _, _, _, h, _, _ => nomatch h
  | a :: l, nd, x, y, hx, hy, e => by
    have nd2 : f a ∉ l.map f ∧ (l.map f).Nodup := List.nodup_cons.mp (by simpa using nd)
    rcases List.mem_cons.mp hx with e1 | hx2 <;> rcases List.mem_cons.mp hy with e2 | hy2
    · rw [e1, e2]
    · subst e1
      exact (nd2.1 (List.mem_map.mpr ⟨y, hy2, e.symm⟩)).elim
    · subst e2
      exact (nd2.1 (List.mem_map.mpr ⟨x, hx2, e⟩)).elim
    · exact nodup_inj nd2.2 hx2 hy2 e
theorem lay_all {ds : List PyData} {m : Nat} (h : ∀ d ∈ ds, d.canLay0 = true ∧ d.depth ≤ m) : PyData.canLayAll0 ds = true ∧ PyData.depthAll ds ≤ m := by
  induction ds with
  | nil => exact ⟨by simp [PyData.canLayAll0], by simp [PyData.depthAll]⟩
  | cons d ds ih =>
    obtain ⟨h1, h2⟩ := h d (List.mem_cons_self ..)
    obtain ⟨h3, h4⟩ := ih fun d hd => h d (List.mem_cons_of_mem _ hd)
    refine ⟨by simp [PyData.canLayAll0, h1, h3], ?_⟩
    simp only [PyData.depthAll]
    omega
theorem shaped_list {ds : List PyData} (h : ∀ d ∈ ds, d.canLay0 = true ∧ d.depth ≤ 40) : SeqAt.shaped (.list ds) = true := by
  obtain ⟨h1, h2⟩ := lay_all h
  unfold SeqAt.shaped
  rw [show PyData.canLay0 (.list ds) = true by simpa [PyData.canLay0] using h1, show decide (PyData.depth (.list ds) ≤ 64) = true from decide_eq_true (by simp only [PyData.depth]; omega)]
  rfl
theorem shaped_tuple {ds : List PyData} (h : ∀ d ∈ ds, d.canLay0 = true ∧ d.depth ≤ 40) : SeqAt.shaped (.tuple ds) = true := by
  obtain ⟨h1, h2⟩ := lay_all h
  unfold SeqAt.shaped
  rw [show PyData.canLay0 (.tuple ds) = true by simpa [PyData.canLay0] using h1, show decide (PyData.depth (.tuple ds) ≤ 64) = true from decide_eq_true (by simp only [PyData.depth]; omega)]
  rfl
theorem shaped_flat {d : PyData} (h1 : d.canLay0 = true) (h2 : d.depth ≤ 40) : SeqAt.shaped d = true := by
  unfold SeqAt.shaped
  rw [h1, decide_eq_true (show d.depth ≤ 64 by omega)]
  rfl
theorem Tabs.pen {T : List (Addr × Str)} {p pl : Addr} {n : Nat} {H H' : Hp} (t : Tabs T H) (PA : PenAt H p pl n) (b : But p H H') : Tabs T H' := fun x hx => by
  obtain ⟨ps, h1, h2, h3⟩ := t x hx
  obtain ⟨kvs, hp⟩ := PA.is
  refine ⟨ps, b _ _ h1 (ne_of h1 hp fun z => nomatch z), h2, fun pos cv hc => ?_⟩
  obtain ⟨c, e1, e2⟩ := h3 pos cv hc
  exact ⟨c, e1, b _ _ e2 (ne_of e2 hp fun z => nomatch z)⟩
/-- from H to H': what stays, the pen, the tables -/
structure Go (T : List (Addr × Str)) (p pl : Addr) (H H' : Hp) (m : Nat) : Prop where
  kp : Kp H H'
  pen : PenAt H' p pl m
  tabs : Tabs T H'
section
variable {T : List (Addr × Str)} {p pl : Addr} {H H1 H2 : Hp} {m k : Nat}
theorem Go.same (g : Go T p pl H H1 m) (s : Same H1 H2) : Go T p pl H H2 m := ⟨g.kp.trans (.same s), g.pen.keep s, g.tabs.ext s⟩
theorem Go.draw (g : Go T p pl H H1 m) (PA : PenAt H2 p pl k) (b : But p H1 H2) : Go T p pl H H2 k := ⟨g.kp.trans (.pen g.pen b), PA, Tabs.pen g.tabs g.pen b⟩
theorem Go.mono (g : Go T p pl H H1 m) (h : m ≤ k) : Go T p pl H H1 k := ⟨g.kp, g.pen.mono h, g.tabs⟩
end
theorem cut_take {xs : List V} {n : Nat} (h : n ≤ xs.length) : cutV xs none (some (n : Int)) = xs.take n := by
  unfold cutV
  rw [HT.sIx_nat, HT.sIx_none, Nat.min_eq_left h, List.drop_zero, Nat.sub_zero]
theorem cut_drop {xs : List V} {n : Nat} (h : n ≤ xs.length) : cutV xs (some (n : Int)) none = xs.drop n := by
  unfold cutV
  rw [HT.sIx_nat, HT.sIx_none, Nat.min_eq_left h]
  exact List.take_of_length_le (by rw [List.length_drop]; omega)
theorem Tabs.updL {T : List (Addr × Str)} {H : Hp} {x : Addr} {xs ys : List V} (t : Tabs T H) (h : H x = some (.lst xs)) : Tabs T (L2.upd H x (.lst ys)) := fun y hy => by
  obtain ⟨ps, h1, h2, h3⟩ := t y hy
  refine ⟨ps, by rw [upd_ne (ne_of h1 h fun z => nomatch z)]; exact h1, h2, fun pos cv hc => ?_⟩
  obtain ⟨c, e1, e2⟩ := h3 pos cv hc
  exact ⟨c, e1, by rw [upd_ne (ne_of e2 h fun z => nomatch z)]; exact e2⟩
section
variable {K : PySem.W.Frag} {w : World} {CS CT CN : Addr} {T : List (Addr × Str)} {p pl x dx y : Addr} {m : Nat} {H : Hp} {ts : List Til}
theorem ins_new {C : Addr} (nx : H x = none) (ndx : H dx = none) : Same H (upd (upd H dx (.own x)) x (.ins C dx [])) := fun b o e => by
  rw [upd_ne (ne_of_none e nx), upd_ne (ne_of_none e ndx)]
  exact e
theorem butN_kp {H0 H1 H2 : Hp} {a : Addr} (s : Same H0 H1) (na : H0 a = none) (b : ButN a H1 H2) : Kp H0 H2 := fun c o e t _ => b _ _ (s _ _ e) t (ne_of_none e na)
theorem butN_pen {H0 H1 H2 : Hp} {a : Addr} (s : Same H0 H1) (na : H0 a = none) (b : ButN a H1 H2) (PA : PenAt H0 p pl m) : PenAt H2 p pl m := by
  obtain ⟨kvs, hp⟩ := PA.is
  obtain ⟨xs, hl⟩ := PA.lis
  exact PenAt.butN (PA.keep s) b (ne_of_none hp na) (ne_of_none hl na)
end
/-! ### the end, where tables of code are tracked, too -/
section
variable {P : Program} {w : World} {K : PySem.W.Frag} {mg mb : Str → Option PySem.Value} {k : Nat} {fa a : Addr} {cs : List (Addr × Addr)} {fd : FuncData} {x : Str} {sp : Sp} {s₁ : Shared} {vs : List PySem.Value} {ns : List Int}
/-- the script, unless it stands in the written part, and the tables -/
def seen (K : PySem.W.Frag) (a : Addr) (o : HO) (ts : List Addr) : Hp := fun b => if b = a ∧ (K.lookup a).isNone = true then some o else if b ∈ ts then some (.tbl #[]) else none
theorem run_tab (KX : K.In s₁.heap) (gl : s₁.heap.Ns mainGlobals mg) (bl : s₁.heap.Ns builtinsNs mb) (blb : ∀ x : Str, x ≠ "__name__" → mb x = bootBuiltins x) (lim : s₁.heap.NoLimit) (noGens : s₁.gens = #[])
    (mods : ∃ (bm : Addr) (ob : Obj), mg "__builtins__" = some (.ref bm) ∧ bm ≠ builtinsNs ∧ s₁.heap.get? bm = some ob ∧ ob.cls = .type "module" ∧ ob.dict = some builtinsNs ∧ ob.data = .plain)
    (script : s₁.heap.get? a = some { cls := .type "list", data := .seq vs.toArray }) (theInts : IntsAre vs ns) (few : ns.length ≤ sizeLine) (room : Room k callerA)
    (empt : ∀ p ∈ cs, s₁.heap.get? p.2 = some { cls := .none, data := .fields #[] }) (out : ∀ p ∈ cs, K.lookup p.2 = none) (hd : ∀ p ∈ cs, PySem.W.codeHdIn K p.1 p.2 = true)
    (FF : ∀ base : Heap, K.In base → base.Ns mainGlobals mg → (∀ p ∈ cs, TabB base mg p.1 p.2) → GFn P w K mg base CX0 k fa fd [x] sp) (bound : ∀ (s : Shared) (u : PySem.Value), BindsTo s fd ⟨[u], []⟩ [(x, u)])
    (asks : ∀ H : Hp, (∀ p ∈ cs, H p.2 = some (.tbl #[])) → SqL K H a (ns.map V.int) → sp [.ref a] H (fun v _ => v = .bl true) E0) :
    codeAny (model P w) callerA (.call (.ref fa) ⟨[.ref a], []⟩) (fun r s' => r = .ok (.ret (.bool true)) ∧ OldK s₁.heap s'.heap ∧ s'.os = s₁.os ∧ AllBare s'.gens) s₁ := by
  have rel : Vals (ns.map V.int) vs := vals_ints theInts
  have sized : vs.length = ns.length := theInts.length
  have emptyAt : ∀ b ∈ cs.map (·.2), s₁.heap.get? b = some { cls := .none, data := .fields #[] } := fun b hb => by
    obtain ⟨p, hp, rfl⟩ := List.mem_map.mp hb
    exact empt p hp
  have apart : a ∉ cs.map (·.2) := fun hb => by
    have e := (emptyAt a hb).symm.trans script
    cases e
  obtain ⟨H, hH⟩ : ∃ H, H = seen K a (.frz { cls := .type "list", data := .seq vs.toArray } (.lst (ns.map V.int))) (cs.map (·.2)) := ⟨_, rfl⟩
  have only : ∀ b o, H b = some o → (b = a ∧ K.lookup a = none ∧ o = .frz { cls := .type "list", data := .seq vs.toArray } (.lst (ns.map V.int))) ∨ (b ∈ cs.map (·.2) ∧ o = .tbl #[]) := fun b o z => by
    rw [hH] at z
    unfold seen at z
    split at z
    · rename_i h
      exact .inl ⟨h.1, Option.isNone_iff_eq_none.mp h.2, (Option.some.inj z).symm⟩
    · split at z
      · rename_i h
        exact .inr ⟨h, (Option.some.inj z).symm⟩
      · cases z
  have tabsAt : ∀ p ∈ cs, H p.2 = some (.tbl #[]) := fun p hp => by
    have m : p.2 ∈ cs.map (·.2) := List.mem_map.mpr ⟨p, hp, rfl⟩
    rw [hH]
    unfold seen
    have nz : ¬ (p.2 = a ∧ (K.lookup a).isNone = true) := fun z => apart (z.1 ▸ m)
    rw [if_neg nz, if_pos m]
  have sq : SqL K H a (ns.map V.int) := by
    cases ek : K.lookup a with
    | some o =>
      have same := KX a o ek
      rw [script] at same
      obtain rfl := Option.some.inj same
      exact .inr ⟨_, vs.toArray, _, ek, rfl, rfl, rfl, by rw [List.size_toArray, sized]; exact few, by simpa using rel⟩
    | none =>
      refine .inl (.inr ⟨{ cls := .type "list", data := .seq vs.toArray }, ?_⟩)
      rw [hH]
      unfold seen
      rw [if_pos ⟨rfl, by rw [ek]; rfl⟩]
  clear hH
  have hok : HOk P w H s₁.heap := fun b o e => by
    rcases only b o e with ⟨rfl, _, rfl⟩ | ⟨m, rfl⟩
    · exact ⟨script, by rw [List.length_map]; exact few, vs, _, rel, script⟩
    · exact emptyAt b m
  -- what is neither a list nor an empty table is not tracked
  have off : ∀ {b : Addr} {o : Obj}, s₁.heap.get? b = some o → (∀ xs n, o.data ≠ .seq xs n) → o.data ≠ .fields #[] → H b = none := fun {b o} e n1 n2 => by
    cases q : H b with
    | none => rfl
    | some u =>
      rcases only b u q with ⟨rfl, _, _⟩ | ⟨m, _⟩
      · rw [script] at e
        cases e
        exact absurd rfl (n1 _ _)
      · rw [emptyAt b m] at e
        cases e
        exact absurd rfl n2
  have names : ∀ {b : Addr} {m : Str → Option PySem.Value}, s₁.heap.Ns b m → (hidT s₁.heap H).Ns b m := by
    rintro b m ⟨o, es, n, e, d, r⟩
    exact ⟨o, es, n, hidT_get e (off e (fun _ _ z => by rw [d] at z; cases z) fun z => by rw [d] at z; cases z), d, r⟩
  have inK : K.In (hidT s₁.heap H) := fun b o e => hidT_get (KX b o e) (by
    cases q : H b with
    | none => rfl
    | some u =>
      rcases only b u q with ⟨rfl, none_, _⟩ | ⟨m, _⟩
      · rw [none_] at e
        cases e
      · obtain ⟨p, hp, rfl⟩ := List.mem_map.mp m
        rw [out p hp] at e
        cases e)
  obtain ⟨mc, lim1, lim2⟩ := lim
  have mod : Mod K mg (hidT s₁.heap H) := ⟨inK, names gl, ⟨mb, names bl, blb⟩, ⟨mc, names lim1, lim2⟩⟩
  have notG : ∀ p ∈ cs, mainGlobals ≠ p.2 := fun p hp z => by
    obtain ⟨o, es, n, e, d, _⟩ := gl
    rw [z, empt p hp] at e
    cases e
    cases d
  have tb : ∀ p ∈ cs, TabB (hidT s₁.heap H) mg p.1 p.2 := fun p hp => by
    refine NdefX.tabB_of_K inK (hd p hp) ?_ (notG p hp)
    obtain ⟨bm, ob, b1, b2, b3, b4, b5, b6⟩ := mods
    refine ⟨bm, ob, b1, b2, fun z => ?_, fun z => ?_, hidT_get b3 (off b3 (fun _ _ z => by rw [b6] at z; cases z) fun z => by rw [b6] at z; cases z), b4, b5, b6⟩
    · obtain ⟨o, es, n, e, d, _⟩ := gl
      rw [← z, b3] at e
      cases e
      rw [b6] at d
      cases d
    · rw [z, empt p hp] at b3
      cases b3
      cases b6
  have e0 : Env0 P w K mg (hidT s₁.heap H) callerA [] s₁ H :=
    ⟨rfl, mod, fun _ _ e => of_hidT e, Nat.le_of_eq (hidT_size _ _), trivial, fun _ z => (nomatch z), hok, .of_eq noGens⟩
  refine codeAny_mono ((FF _ inK (names gl) tb).run callerA [] s₁ H ⟨[.ref a], []⟩ [.ref a] [.ref a] _ E0 room rfl e0 (bound s₁ _) (.cons rfl .nil) (asks H tabsAt sq)) ?_
  intro r s' z
  match r, z with
  | .ok (.ret u), ⟨v, H', os, bare, un, hok', ru, q⟩ =>
    obtain rfl : v = .bl true := q
    obtain rfl : u = PySem.Value.bool true := ru
    have kept : ∀ b o, b ∉ cs.map (·.2) → s₁.heap.get? b = some o → s'.heap.get? b = some o := fun b o nb e => by
      cases eb : H b with
      | none => exact un.keep b o e eb (fun z => nomatch z) (fun z => nomatch z)
      | some u =>
        rcases only b u eb with ⟨rfl, _, rfl⟩ | ⟨m, _⟩
        · obtain ⟨there, _⟩ := hok' _ _ (un.frzs b _ _ eb)
          rw [script] at e
          obtain rfl := Option.some.inj e
          exact there
        · exact absurd m nb
    have more : ∀ b ∈ cs.map (·.2), ∃ p ∈ cs, p.2 = b ∧ ∃ ps : Array PySem.Value, s'.heap.get? b = some { cls := .none, data := .fields ps } := fun b hb => by
      obtain ⟨p, hp, rfl⟩ := List.mem_map.mp hb
      obtain ⟨ps, e⟩ := un.tbls _ _ (tabsAt p hp)
      exact ⟨p, hp, rfl, _, hok' _ _ e⟩
    refine ⟨rfl, ⟨fun b o e => ?_, fun b o e => ?_⟩, os, bare⟩
    · by_cases hb : b ∈ cs.map (·.2)
      · obtain ⟨p, hp, rfl, ps, e2⟩ := more b hb
        rw [empt p hp] at e
        cases e
        exact .inr (.inl ⟨((PySem.W.codeHd_of_K KX (hd p hp)).tab (empt p hp)).isCodeTable, rfl, #[], ps, rfl, by rw [Array.empty_append]; exact e2⟩)
      · exact .inl (kept b o hb e)
    · by_cases hb : b ∈ cs.map (·.2)
      · obtain ⟨_, _, _, ps, e2⟩ := more b hb
        exact ⟨_, e2⟩
      · exact ⟨o, kept b o hb e⟩
  | .ok .next, z => exact z.elim
  | .ok .brk, z => exact z.elim
  | .ok .cont, z => exact z.elim
  | .error _, z => exact z.elim
end
/-- for the goal that head_any leaves -/
theorem law_walkT {l : PySem.W.OpenLaw} {n k : Nat} {q : Program} {loose : List Str} {XP : (Str → Option PySem.Value) → Heap → Prop} {YP : World → Heap → Prop} {d : DefRec} {x : Str}
    (most : l.most = some n) (small : n ≤ sizeLine) (plain : d.params.defaults = []) (room : Room k callerA)
    (told : ∀ (w : World) (mg : Str → Option PySem.Value) (fa : Addr) (h : Heap), YP w h → h.Ns mainGlobals mg → mg d.name = some (.ref fa) →
      ∃ (K : PySem.W.Frag) (fd : FuncData) (sp : Sp) (cs : List (Addr × Addr)), K.In h ∧ (∀ p ∈ cs, h.get? p.2 = some { cls := .none, data := .fields #[] }) ∧ (∀ p ∈ cs, K.lookup p.2 = none) ∧ (∀ p ∈ cs, PySem.W.codeHdIn K p.1 p.2 = true) ∧ (∀ (s : Shared) (u : PySem.Value), BindsTo s fd ⟨[u], []⟩ [(x, u)]) ∧
        (∀ (H : Hp) (a : Addr) (ns : List Int), ns.length ≤ n → (∀ p ∈ cs, H p.2 = some (.tbl #[])) → SqL K H a (ns.map V.int) → sp [.ref a] H (fun v _ => v = .bl true) E0) ∧
        ∀ base : Heap, K.In base → base.Ns mainGlobals mg → (∀ p ∈ cs, TabB base mg p.1 p.2) → GFn l.prog w K mg base CX0 k fa fd [x] sp) :
    PySem.W.WalkO q loose XP YP l.row.toRowW d [] (fun f vs => PySem.call f vs) := by
  refine Att.attach_call most plain ?_
  intro w s₀ s₁ mg mb fa o pm cd doc a vs ns G Y ho hd hcd hmg script theInts few noGens
  obtain ⟨K, fd, sp, cs, KX, empt, out, hcs, bound, asks, FF⟩ := told w mg fa _ Y G.T.g hmg
  exact run_tab KX G.T.g G.T.b G.T.builtins G.T.nolimit noGens G.T.bmain script theInts (Nat.le_trans few small) room empt out hcs FF bound fun H ht z => asks H a ns few ht z
end Tr

set_option Elab.async false
set_option linter.all false
set_option maxRecDepth 100000
set_option maxHeartbeats 4000000
namespace AK
open PySem PySem.Spec PyProof.Rows L2
/-! ### a walk over the keys of such a dict, locked -/
def ItA (w : World) (d : Addr) (o : Obj) (es : List Eh) : It :=
  ⟨fun i H => H d = some (.frz o (DkO w d es)) ∧ i < es.length, fun i H x H' => H' = H ∧ ∃ e, es[i]? = some e ∧ x = e.2.1, fun i H => H d = some (.frz o (DkO w d es)) ∧ es.length ≤ i⟩
theorem frzA {X : Cx} {pins : List (Addr × Obj)} {σ : L2.St} {H : Hp} {s : Shared} {d : Addr} {o : Obj} {es : List Eh} (I : L2.Inv X pins σ H s) (h : H d = some (.frz o (DkO X.w d es))) :
    (d == sysModules) = false ∧ s.heap.get? d = some o ∧ o.ExactDict ∧ ∃ (arr : Array DictEntry) (ep : Nat) (us : List En), o.data = .dict arr ep ∧ arr.toList = us.map (ent X.w) ∧ Paired (fun (p : Eh) (q : En) => p.1 = q.1 ∧ RelV p.2.1 q.2.1 ∧ RelV p.2.2 q.2.2) es us := by
  obtain ⟨there, raw, _⟩ := I.hok d _ h
  obtain ⟨h1, h2, o', arr, ep, us, g, ex, dt, l, pr⟩ := raw
  rw [there] at g
  cases g
  exact ⟨h1, there, ex, arr, ep, us, dt, l, pr⟩
theorem pair_at {es : List Eh} {us : List En} (r : Paired (fun (p : Eh) (q : En) => p.1 = q.1 ∧ RelV p.2.1 q.2.1 ∧ RelV p.2.2 q.2.2) es us) {i : Nat} {e : Eh} (h : es[i]? = some e) : ∃ u, us[i]? = some u ∧ RelV e.2.1 u.2.1 := by
  induction r generalizing i with
  | nil => simp at h
  | cons p t ih =>
    cases i with
    | zero =>
      cases (show some _ = some e from h)
      exact ⟨_, rfl, p.2.1⟩
    | succ j =>
      obtain ⟨u, h1, h2⟩ := ih (i := j) (by simpa using h)
      exact ⟨u, by simpa using h1, h2⟩
theorem turn_keysA {P : Program} {w : World} {K : PySem.W.Frag} {tg : PySem.Expr} {d : Addr} {o : Obj} {es : List Eh} {arr : Array DictEntry} {ep : Nat} (it : Addr) (hod : o.data = .dict arr ep) :
    Turn P w K tg (ItA w d o es) [it] it (fun i h => h.IsKeyIter it d i es.length ep) where
  mem := by simp
  obj := fun i h st b hb => by
    obtain rfl := List.mem_singleton.mp hb
    obtain ⟨oi, e, _, dd⟩ := st
    exact ⟨oi, e, fun v z => by rw [dd] at z; cases z⟩
  keep := fun i h h' st k => st.at fun oi e => k it (List.mem_singleton.mpr rfl) oi e
  item := by
    intro X hP hw hK hc i pins s σ H E I apart st go
    subst hP hw hK
    obtain ⟨lock, few⟩ := go
    obtain ⟨f0, f1, f2, f3, f4, f5⟩ := apart it (List.mem_singleton.mpr rfl)
    obtain ⟨_, there, _, arr', ep', us, dt, l, pr⟩ := frzA I lock
    rw [hod] at dt
    cases dt
    have at_ := List.getElem?_eq_getElem few
    obtain ⟨u, hu, ru⟩ := pair_at pr at_
    have size : arr.size = es.length := by
      have z := congrArg List.length l
      rw [Array.length_toList, List.length_map] at z
      exact z.trans (Paired.length pr).symm
    have ea : arr[i]? = some (ent X.w u) := by
      rw [← Array.getElem?_toList, l, List.getElem?_map, hu]
      rfl
    refine next_key_item st there hod size ea fun h' st' sb => ?_
    have J : L2.Inv X pins σ H { s with heap := h' } := I.turned (t' := s.toks) (fun b ob hb e => (sb.2 b hb).trans e) f0 f1 f3 f4 f5
    obtain ⟨oi, e, c, dd⟩ := id st'
    exact ⟨(ent X.w u).key, rfl, go_of (s := { s with heap := h' }) e c dd (by decide) ⟨_, H, J, ru, ⟨rfl, _, at_, rfl⟩, st', fun b hb => (apart b hb).1⟩⟩
  done := by
    intro X hP hw hK hc i pins s σ H E I apart st go
    subst hP hw hK
    obtain ⟨lock, few⟩ := go
    obtain ⟨f0, f1, f2, f3, f4, f5⟩ := apart it (List.mem_singleton.mpr rfl)
    obtain ⟨_, there, _, arr', ep', us, dt, l, pr⟩ := frzA I lock
    rw [hod] at dt
    cases dt
    have size : arr.size = es.length := by
      have z := congrArg List.length l
      rw [Array.length_toList, List.length_map] at z
      exact z.trans (Paired.length pr).symm
    exact next_key_end (I.ok.hd hc) st there hod size few fun h' eb => ⟨rfl, I.turned (t' := s.toks) (fun b o hb e => eb b o hb e) f0 f1 f3 f4 f5⟩
  self := fun A i s Q E st h => wpAny_pyIter_keyiter st h
def iKeysA (w : World) (td : TE) : TI := fun σ H R => td σ H fun x H1 => ∃ d o es, x = .ref d ∧ H1 d = some (.frz o (DkO w d es)) ∧ R (ItA w d o es) H1
theorem pi_keysA {X : Cx} {tg e : PySem.Expr} {td : TE} (he : PE X e td) : PI X tg e (iKeysA X.w td) := by
  refine ⟨fun pins s σ H R I h => ?_⟩
  refine thn (he.run pins s σ H _ I h) fun u s1 ⟨x, H1, I1, rx, d, o, es, ex, lock, q⟩ => ?_
  subst ex
  obtain rfl : u = PySem.Value.ref d := rx
  obtain ⟨hs, there, exact_, arr, ep, us, dt, l, pr⟩ := frzA I1 lock
  have size : arr.size = es.length := by
    have z := congrArg List.length l
    rw [Array.length_toList, List.length_map] at z
    exact z.trans (Paired.length pr).symm
  refine iter_keys hs there exact_ dt (pi_one (tk := s1.toks) I1 _ (turn_keysA _ dt) ⟨_, Heap.get?_push_size _ rfl, rfl, ?_⟩ q)
  rw [size] <;> rfl
theorem walk_keysA {w : World} {d : Addr} {o : Obj} {es : List Eh} : Walk (ItA w d o es) es.length (fun H => H d = some (.frz o (DkO w d es))) (fun i H x H' => H' = H ∧ ∃ e, es[i]? = some e ∧ x = e.2.1) :=
  ⟨fun _ _ hi q => ⟨q, hi⟩, fun _ q => ⟨q, Nat.le_refl _⟩, fun _ _ _ _ _ _ y => y⟩
end AK
namespace Tr
open PySem PySem.Spec PyProof.Rows L2 AK Pen LamX
/-! ### what is never run -/
theorem pe_never {X : Cx} {e : PySem.Expr} : PE X e (fun _ _ _ => False) := ⟨fun _ _ _ _ _ _ h => h.elim⟩
theorem pss_never {X : Cx} {b : List PySem.Stmt} : PSs X b (fun _ _ _ => False) := ⟨fun _ _ _ _ _ _ h => h.elim⟩
theorem ps_never {X : Cx} {b : PySem.Stmt} : PS X b (fun _ _ _ => False) := ⟨fun _ _ _ _ _ _ h => h.elim⟩
/-- isinstance(x, dict) of such a dict -/
def rIsDi (K : PySem.W.Frag) (w : World) : List V → Hp → VK → Prop := fun xs H Q => ∃ a es, xs = [.ref a, .ty "dict"] ∧ DA K w H a es ∧ Q (.bl true) H
theorem call_isDi {X : Cx} : CallR X (.builtin "isinstance") (rIsDi X.K X.w) := by
  intro pins s σ H xs us Q I r h
  obtain ⟨a, es, rfl, D, q⟩ := h
  obtain ⟨u1, u2, rfl, r1, r2⟩ := vals2 r
  obtain rfl : u2 = PySem.Value.type "dict" := r2
  cases r1
  obtain ⟨_, _, us, dk, _⟩ := D.raw I
  obtain ⟨o, arr, ep, ho, hx, _⟩ := dk.ex
  exact PySem.W.kia_one PySem.W.kitx_dict I.kIn ⟨o, ho, hx.1⟩ (kit_ty (show kitB "dict" "dict" = some true by decide +kernel)) (fun z => nomatch z) fun tk => ⟨.bl true, H, I.tok tk, rfl, q⟩
/-- l.extend(t), t a tuple -/
theorem ext_tup (l b : Addr) (xs ys : Array PySem.Value) (n m : Nat) (dd : Option Addr) (sl : Array (Option PySem.Value)) (fits : ¬(!xs.isEmpty && Builtin.List.listTooLong (xs.size + ys.size)) = true) (z1 : xs.size ≤ sizeLine) (z2 : xs.size + ys.size ≤ sizeLine + 1) :
    Meets (Builtin.«list.extend» ⟨[.ref l, .ref b], []⟩) (fun _ R s => s.heap.get? l = some { cls := .type "list", dict := none, data := .seq xs n, slots := #[] } ∧ s.heap.get? b = some { cls := .type "tuple", dict := dd, data := .seq ys m, slots := sl } ∧
      R (.ok (.ret PySem.Value.none)) { s with heap := s.heap.update l (Obj.mapSeq fun x => x ++ ys), toks := s.toks }) :=
  .of_wp fun prog w A R s both => by
    obtain ⟨hp, gs, dr, tk, os⟩ := s
    obtain ⟨here, there, ends⟩ := both
    have f1 := AutoSeq1.idx_int
    have f2 := AutoSeq1.sub_tuple_tuple
    have f3 := AutoSeq1.sub_list_list
    have f4 := AutoSeq1.sub_tuple_list
    have f5 := AutoSeq1.sub_list_tuple
    have z3 : (xs ++ ys).size ≤ sizeLine + 1 := by
      rw [Array.size_append]
      exact z2
    wp_walk using (wpAny_updateSeq here rfl (hz := z1) (_hz' := z3)), wpAny_loadPart' here, wpAny_loadPart' there
    exact ⟨_, rfl, ends⟩
def rExtT (K : PySem.W.Frag) : V → List V → Hp → VK → Prop := fun x vs H Q => ∃ l b xs zs, x = .ref l ∧ vs = [.ref b] ∧ H l = some (.lst xs) ∧ SqT K H b zs ∧ xs.length + zs.length ≤ sizeLine ∧ Q .non (upd H l (.lst (xs ++ zs)))
theorem mt_extT {X : Cx} : MtM X "list.extend" (rExtT X.K) := by
  intro pins s σ H x vs v us Q I rx rv h
  obtain ⟨l, b, xs, zs, rfl, rfl, hl, hb, hz, q⟩ := h
  cases rx
  obtain ⟨u, rfl, ru⟩ := rv.one
  cases ru
  obtain ⟨z, its, n, r, hl2, e⟩ := I.lstM hl
  obtain ⟨its2, r2, ⟨⟨cls, dd, data, sl⟩, ho, hc, m, hd⟩, z2⟩ := I.tuple hb
  have hc : cls = .type "tuple" := hc
  have hd : data = .seq its2.toArray m := hd
  subst hc hd
  have l1 := r.length
  have l2 := r2.length
  have sized : its.toArray.size + its2.toArray.size ≤ sizeLine := by
    rw [List.size_toArray, List.size_toArray]
    omega
  have fits : ¬ (!its.toArray.isEmpty && Builtin.List.listTooLong (its.toArray.size + its2.toArray.size)) = true := by
    rw [notLongL sized, Bool.and_false]
    exact Bool.false_ne_true
  refine call_meets F.slot_list_extend ⟨_, e, rfl⟩ F.entry_list_extend (F.args_list_extend_2 _ _) (ext_tup l b its.toArray its2.toArray n m dd sl fits (by omega) (by omega)) ⟨e, ho, ?_⟩
  refine ⟨.non, _, I.lset (its' := its ++ its2) hl e (by simp) (r.append r2) ?_, rfl, q⟩
  rw [List.length_append]
  omega
end Tr
namespace Tr
open PySem PySem.Spec PyProof.Rows L2 AK Pen LamX
/-! ### t[::-1], t a tuple -/
theorem adjust_rev (n : Nat) : Builtin.Slice.sliceAdjust none none (-1) (n : Int) = ((n : Int) - 1, -1) := by
  unfold Builtin.Slice.sliceAdjust
  simp
theorem places_rev (n : Nat) : Builtin.Slice.slicePlaces ((n : Int) - 1) (-1) (-1) = n := by
  unfold Builtin.Slice.slicePlaces
  simp
  try omega
theorem fm_congr {α β : Type} {f g : α → Option β} : ∀ {l : List α}, (∀ x ∈ l, f x = g x) → l.filterMap f = l.filterMap g
  | [], _ => rfl
  | x :: l, h => by
    rw [List.filterMap_cons, List.filterMap_cons, h x (List.mem_cons_self ..), fm_congr fun y hy => h y (List.mem_cons_of_mem _ hy)]
theorem pick_rev (xs : Array PySem.Value) : ((List.range xs.size).filterMap fun (m : Nat) => xs[(((xs.size : Int) - 1) + (m : Int) * (-1)).toNat]?).toArray = xs.toList.reverse.toArray := by
  have e := PySem.W.krv_pick xs
  unfold slicePick at e
  rw [PySem.W.krv_bounds] at e
  have e : ((sliceRange ((xs.size : Int) - 1) (-1) (-1)).filterMap (xs[·]?)).toArray = xs.toList.reverse.toArray := e
  rw [PySem.W.krv_sliceRange, List.filterMap_map] at e
  rw [← e]
  congr 1
  refine fm_congr fun m hm => ?_
  have hm := List.mem_range.mp hm
  have z : (((xs.size : Int) - 1) + (m : Int) * (-1)).toNat = xs.size - 1 - m := by omega
  rw [z]
  rfl
section
variable {prog : Program} {w : World} {A : Around} {E : PySem.Value → Shared → Prop} {s : Shared}
theorem applied_rev {sl : Addr} {vl vu vs : PySem.Value} {n : Nat} {Q : Int × Int × Nat → Shared → Prop} (hs : s.heap.IsSliceOf sl vl vu vs) (pl : IsPart vl none) (pu : IsPart vu none) (ps : IsPart vs (some (-1))) (h : Q ((n : Int) - 1, -1, n) s) :
    wpAny (model prog w) A (Builtin.Slice.sliceApplied (.ref sl) (pure (n : Int))) Q E s := by
  obtain ⟨ob, there, isSl, parts⟩ := id hs
  unfold Builtin.Slice.sliceApplied Builtin.Slice.sliceFields
  refine wpAny_bind (wpAny_bind (wpAny_field there parts (x := vl) rfl (wpAny_bind (wpAny_field there parts (x := vu) rfl (wpAny_bind (wpAny_field there parts (x := vs) rfl (wpAny_pure ?_)))))))
  refine wpAny_bind (HT.slicePart_ ps ?_)
  show wpAny _ _ (if ((-1 : Int) == 0) = true then _ else _) _ _ s
  rw [if_neg (by decide)]
  refine wpAny_bind (HT.slicePart_ pl (wpAny_bind (HT.slicePart_ pu (wpAny_bind (wpAny_pure ?_)))))
  show wpAny _ _ (match Builtin.Slice.sliceAdjust none none (-1) (n : Int) with | (a, b) => pure (a, (-1 : Int), Builtin.Slice.slicePlaces a b (-1))) _ _ s
  rw [adjust_rev]
  show wpAny _ _ (pure ((n : Int) - 1, (-1 : Int), Builtin.Slice.slicePlaces ((n : Int) - 1) (-1) (-1))) _ _ s
  rw [places_rev]
  exact wpAny_pure h
theorem item_rev {t sl : Addr} {xs : Array PySem.Value} {vl vu vs : PySem.Value} {Q : PySem.Value → Shared → Prop} (ht : IsTup s.heap t xs) (hs : s.heap.IsSliceOf sl vl vu vs) (pl : IsPart vl none) (pu : IsPart vu none) (ps : IsPart vs (some (-1))) (hz : xs.size ≤ sizeLine)
    (h : Q (.ref s.heap.objs.size) { s with heap := s.heap.push { cls := .type "tuple", data := .seq xs.toList.reverse.toArray } }) : wpAny (model prog w) A (getItem (.ref t) (.ref sl)) Q E s := by
  obtain ⟨ob, there, isSl, parts⟩ := id hs
  have ty : s.TypeIs (.ref sl) "slice" := ⟨ob, there, isSl⟩
  have fits : sizeOk (.seq xs.toList.reverse.toArray) := by
    show xs.toList.reverse.toArray.size ≤ sizeLine
    rw [List.size_toArray, List.length_reverse, Array.length_toList]
    exact hz
  unfold getItem
  try with_reducible refine wpAny_holding ?_
  first
    | refine wpAny_bind (wpAny_pure ?_)
    | skip
  refine wpAny_bind (wpAny_sequenceKey ht.typeIs (by decide) ?_)
  refine wpAny_bind (wpAny_callSpecial?_slot (name := Str.ofString "__getitem__") ht.typeIs PyProof.Rows.slot_tuple_getitem (wpAny_call_entry PyProof.Rows.slot_tuple_getitem ht.typeIs entry_tuple_getitem ?_ (args_tuple_getitem _ _)))
  show wpAny _ _ (Builtin.Tuple.tupleItemsOf (.ref t) >>= _) _ _ s
  refine wpAny_bind (PyProof.Rows.tupleItemsOf_ ht ?_)
  refine wpAny_bind (wpAny_typeOf ty ?_)
  rw [if_pos (by decide)]
  refine wpAny_bind (applied_rev hs pl pu ps ?_)
  have no : ¬ ((((xs.size : Int) - 1) == 0 && (-1 : Int) == 1 && xs.size == xs.size) = true) := by
    intro z
    rw [Bool.and_eq_true, Bool.and_eq_true] at z
    exact absurd (eq_of_beq z.1.2) (by decide)
  show wpAny _ _ (if (((xs.size : Int) - 1) == 0 && (-1 : Int) == 1 && xs.size == xs.size) = true then _ else _) _ _ s
  rw [if_neg no, pick_rev]
  first
    | exact wpAny_bind (m := Builtin.Tuple.tupleExact xs.toList.reverse.toArray) (wpAny_newObj_type (wpAny_pure ⟨_, rfl, wpAny_pure h⟩) fits)
    | exact wpAny_bind (m := Builtin.Tuple.tupleExact xs.toList.reverse.toArray) (wpAny_newObj_type (wpAny_bind (wpAny_pure (wpAny_pure ⟨_, rfl, wpAny_pure h⟩))) fits)
    | exact wpAny_bind (wpAny_bind (m := Builtin.Tuple.tupleExact xs.toList.reverse.toArray) (wpAny_newObj_type (wpAny_pure (wpAny_pure ⟨_, rfl, wpAny_pure h⟩)) fits))
    | exact wpAny_bind (wpAny_bind (m := Builtin.Tuple.tupleExact xs.toList.reverse.toArray) (wpAny_newObj_type (wpAny_pure ⟨_, rfl, wpAny_pure h⟩) fits))
end
def tRevT (K : PySem.W.Frag) (te : TE) : TE := fun σ H Q => te σ H fun x H1 => ∃ a xs, x = .ref a ∧ SqT K H1 a xs ∧ ∀ p, H1 p = none → Q (.ref p) (upd H1 p (.tup xs.reverse))
theorem pe_revT {X : Cx} {e : PySem.Expr} {te : TE} {k : Nat} {p1 p2 p3 pos : Pos} (he : PE X e te) : PE X (.Subscript e (.Slice none none (some (.UnaryOp .USub (.Constant (.int 1) k p1) p2)) p3) pos) (tRevT X.K te) := by
  refine ⟨fun pins s σ H Q I h => ?_⟩
  refine Subscript_ (thn (he.run pins s σ H _ I h) fun v s1 ⟨x, H1, I1, r1, a, xs, ex, hx, q⟩ => ?_)
  subst ex
  cases r1
  have step : PO X (some (.UnaryOp .USub (.Constant (.int 1) k p1) p2)) (tPart (tUn (rU fun i => .int (-i)) (tC (.int 1)))) := po_some (pe_un un_neg pe_int)
  refine wpAny_Slice (thn (po_none.run pins s1 σ H1 (fun o H2 => o = none ∧ H2 = H1) I1 ⟨rfl, rfl⟩) fun vl s2 ⟨l, H2, I2, pl, el, e2⟩ => ?_)
  subst el e2
  refine thn (po_none.run pins s2 σ H2 (fun o H3 => o = none ∧ H3 = H2) I2 ⟨rfl, rfl⟩) fun vu s3 ⟨u, H3, I3, pu, eu, e3⟩ => ?_
  subst eu e3
  refine thn (step.run pins s3 σ H3 (fun o H4 => o = some (-1) ∧ H4 = H3) I3 ⟨1, rfl, -1, rfl, rfl, rfl⟩) fun vs s4 ⟨o, H4, I4, ps, eo, e4⟩ => ?_
  subst eo e4
  have J : L2.Inv X pins σ H4 { s4 with heap := s4.heap.push { cls := .type "slice", data := .fields #[vl, vu, vs] } } := I4.kept (t' := s4.toks) fun b ob z => Heap.get?_push_of_some _ z
  obtain ⟨its, r, tup, hz⟩ := J.tuple hx
  have len := r.length
  show wpAny (model X.prog X.w) X.A (subscriptTail e (.Slice none none (some (.UnaryOp .USub (.Constant (.int 1) k p1) p2)) p3) (.ref a) (.ref s4.heap.objs.size)) (EP X pins σ Q) X.xe { s4 with heap := s4.heap.push { cls := .type "slice", data := .fields #[vl, vu, vs] } }
  refine tail_any (ops := [.ref a, .ref s4.heap.objs.size]) tup.typeIs PyProof.Rows.slot_tuple_getitem.lookup ?_ (by with_unfolding_all rfl)
  refine item_rev tup (Heap.IsSliceOf.new _ vl vu vs) pl pu ps (by rw [List.size_toArray]; omega) ?_
  refine ⟨.ref _, _, J.laid (t' := s4.toks) (o := .tup xs.reverse) (fun b ob z => Heap.get?_push_of_some _ z) (Nat.le_refl _) ?_, rfl, q _ (J.hok.fresh (Nat.le_refl _))⟩
  exact ⟨by rw [List.length_reverse]; exact hz, _, r.reverse, IsTup.new _ _⟩
end Tr

set_option Elab.async false
set_option linter.all false
set_option maxRecDepth 100000
set_option maxHeartbeats 4000000
namespace Tr
open PySem PySem.Spec PyProof.Rows L2 AK Pen LamX
/-! ### several clauses `except X as n` -/
/-- one clause: its class, the slot of its name, its suite's reading -/
abbrev Cl : Type := PySem.Value × Nat × (Addr → PySem.Value → Option Addr → TS)
/-- the ends of a suite: the name at slot i is gone behind it -/
def gone (i : Nat) (D : Ends) : Ends := { nx := fun σ H => D.nx (σ.set i none) H, rt := D.rt, bk := fun σ H => D.bk (σ.set i none) H, ct := fun σ H => D.ct (σ.set i none) H }
/-- what the clauses wish of what the body lets out -/
def wCls (K : PySem.W.Frag) (Wo : WX) (D : Ends) : List Cl → WX
  | [] => Wo
  | (c, i, ts) :: more => fun cls d σ H => ∃ b, PySem.W.exmOne K cls c = some b ∧ (b = true → ∀ a, H a = none → ts a cls d (gone i D) (σ.set i (some (.ref a))) H) ∧ (b = false → wCls K Wo D more cls d σ H)
inductive ClsOk (X : Cx) : List ExceptHandler → List Cl → Prop
  | nil : ClsOk X [] []
  | cons {x n : Str} {c : PySem.Value} {i : Nat} {ts : Addr → PySem.Value → Option Addr → TS} {st : PySem.Stmt} {sts : List PySem.Stmt} {p q : Pos} {hs : List ExceptHandler} {l : List Cl} (named : Names X x c) (slot : X.N[i]? = some n) (loc : X.env.kindOf n = some .local)
      (suite : ∀ (a : Addr) (ob : Obj) (cls : PySem.Value) (d : Option Addr) (pn : List (Addr × Obj)), Zc cls d ob → (∃ vs, ob.data = .fields vs) → PSs (X.suite a ((a, ob) :: pn)) (st :: sts) (ts a cls d)) (rest : ClsOk X hs l) :
      ClsOk X (.ExceptHandler (some (.Name x p)) (some n) (st :: sts) q :: hs) ((c, i, ts) :: l)
theorem ps_try_cls {X : Cx} {body : List PySem.Stmt} {h1 : ExceptHandler} {hs : List ExceptHandler} {l : List Cl} {pos : Pos} {tb : WX → TS} {Wo : WX} (st : X.stack = X.env :: X.outer) (fr : X.env.frame = some X.env.locals) (nd : X.N.Nodup) (tk : L2.Takes X Wo)
    (hb : ∀ (W : WX) (pn : List (Addr × Obj)) (xe : PySem.Value → Shared → Prop), L2.Takes (X.tr pn xe) W → PassesOwn (model X.prog X.w) X.A X.env xe → PSs (X.tr pn xe) body (tb W)) (cls_ : ClsOk X (h1 :: hs) l) :
    PS X (.Try body (h1 :: hs) [] [] pos) (fun D σ H => tb (wCls X.K Wo D l) D σ H) := by
  refine ⟨fun pins s σ H D I reads => ?_⟩
  have okI := I.ok
  have frames : X.A.frames = some (X.env :: X.outer) := by
    rw [okI.frames, st]
  refine wpAny_Try_except ?_
  have body_ := hb (wCls X.K Wo D l) (X.pn ++ pins) (fun e sa => wpAny (model X.prog X.w) X.A (noteFrame e X.env) (fun _ sb => wpAny (model X.prog X.w) X.A (setFlight e none) (fun _ sc => wpAny (model X.prog X.w) X.A (handleBy e X.env (h1 :: hs)) (SP X pins D) X.xe sc) X.xe sb) X.xe sa)
  refine wpAny_mono ((body_ (fun u sx caught => ?_) PassesOwn.looking).run [] s σ H D (I.toTry _) reads) (fun fl sx ended => ?_) (fun e sx z => z)
  · obtain ⟨a, B, s0, pins0, σ0, H0, cls, d, rfl, I0, nb, up, sky, fresh, os, ag, wish⟩ := caught
    have I1 : L2.Inv X pins σ0 H0 s0 := I0.ofTry okI
    have sky1 : Sky B (X.env :: X.outer) a (Zc cls d) X.env.locals sx.heap := by
      rw [← st]
      exact sky
    show wpAny (model X.prog X.w) X.A (noteFrame (.ref a) X.env) _ _ _
    refine Sky.land Zc.steady frames fr sky1 fun g fl up1 => ?_
    have I2 : L2.Inv X pins σ0 H0 { sx with heap := g } := I1.landed nb fl.1 (up.trans up1) os ag
    obtain ⟨ob, vs, at_, zc, dat⟩ := fl.there
    have notIn : ∀ {h : Heap} {o : Obj} {us : Array PySem.Value}, h.FunFrames B (X.env :: X.outer) → h.get? a = some o → o.data = .fields us → a ∉ frs (X.env :: X.outer) := fun {h o us} ff e isF m => by
      obtain ⟨_, o2, e2, no⟩ := ff.mem m
      rw [e] at e2
      cases e2
      exact no _ isF
    have out := notIn fl.2.2.1 at_ dat
    have notL : a ≠ X.env.locals := fun z => out (List.mem_filterMap.mpr ⟨X.env, List.mem_cons_self, by rw [fr, z]⟩)
    have notF : a ∉ X.fs := fun m => by
      obtain ⟨e, me, z⟩ := List.mem_filterMap.mp m
      exact out (List.mem_filterMap.mpr ⟨e, List.mem_cons_of_mem _ me, z⟩)
    have S2 := I2.suite at_ dat fresh notL notF
    suffices run : ∀ {gs : List ExceptHandler} {k : List Cl}, ClsOk X gs k → wCls X.K Wo D k cls d σ0 H0 → wpAny (model X.prog X.w) X.A (handleBy (.ref a) X.env gs) (SP X pins D) X.xe { sx with heap := g } by
      exact run cls_ wish
    intro gs k ok
    induction ok with
    | nil =>
      intro wish
      refine wpAny_handleBy_nil ?_
      obtain ⟨_, _, _, o3, us, T, oT, tsT, at3, zc3, dat3, first_, _⟩ := id fl
      unfold PySem.passOn
      refine wpAny_bind (wpAny_field at3 dat3 first_ ?_)
      have no : ¬ ((PySem.Value.ref T == PySem.Value.none) = true) := by simp
      rw [if_neg no]
      have pass_ : wpAny (model X.prog X.w) X.A (setFlight (.ref a) X.env.frame) (fun _ sy => wpAny (model X.prog X.w) X.A (throw (.ref a) : Sem Flow) (SP X pins D) X.xe sy) X.xe { sx with heap := g } := by
        rw [fr]
        refine HandSPX.setFlight_upZ fl fun g2 fl2 up2 => wpAny_throw (tk _ _ ?_)
        exact ⟨a, B, s0, pins, σ0, H0, cls, d, rfl, I1, nb, (up.trans up1).trans up2, .inr (.inr (by rw [st]; exact fl2)), fresh, os, ag, wish⟩
      first
        | exact wpAny_bind (wpAny_pure (wpAny_bind pass_))
        | exact wpAny_bind pass_
    | @cons x n c i ts sm sms p q gs2 k2 named slot loc suite rest ih =>
      intro wish
      obtain ⟨b, match_, yes, no⟩ := wish
      refine wpAny_handleBy_cons (codeAny_handlers_test ?_) (by intro z; cases z)
      have looks : PySem.W.Looks (model X.prog X.w) g (typeOf (.ref a)) cls := fun A' Q' E' s' kp z => wpAny_typeOf_ref (kp _ _ at_) (by rw [zc.1]; exact z)
      have asks := PySem.W.exm_one (M := model X.prog X.w) I2.kIn looks match_
      have told : ∀ {Q' : PySem.Value → Shared → Prop} {E' : PySem.Value → Shared → Prop}, Q' c { sx with heap := g } → wpAny (model X.prog X.w) (X.A.mark (some (.ref a))) (eval (.Name x p) X.env) Q' E' { sx with heap := g } := fun {Q' E'} z => by
        obtain ⟨gl, dbg, m | ⟨m, v, nn⟩⟩ := named
        · exact ld_glob (X := X.suite a ((a, ob) :: (X.pn ++ pins))) S2 gl m z dbg
        · exact ld_blt (X := X.suite a ((a, ob) :: (X.pn ++ pins))) S2 gl m v z nn dbg
      refine told (asks.here ?_)
      cases b with
      | true =>
        refine codeAny_handlers_suite_as ?_
        refine HandSPX.lands_againZ fl fun g2 fl2 up2 => ?_
        have I3 : L2.Inv X pins σ0 H0 { sx with heap := g2 } := I1.landed nb fl2.1 ((up.trans up1).trans up2) os ag
        obtain ⟨ob2, vs2, at2, zc2, dat2⟩ := fl2.there
        have S3 := I3.suite at2 dat2 fresh notL notF
        refine store_ok (X := X.suite a ((a, ob2) :: (X.pn ++ pins))) (v := .ref a) S3 nd slot (.inl loc) rfl (fun s5 S5 => ?_) (.inr loc)
        refine wpAny_mono ((suite a ob2 cls d (X.pn ++ pins) zc2 ⟨_, dat2⟩).run [] s5 _ H0 _ S5 (yes rfl a fresh)) (fun f6 s6 z6 => ?_) (fun _ _ z => False.elim z)
        have last : ∀ {σ6 : L2.St} {H6 : Hp} {Q' : Shared → Prop}, L2.Inv (X.suite a ((a, ob2) :: (X.pn ++ pins))) [] σ6 H6 s6 → (∀ s7, L2.Inv X pins (σ6.set i none) H6 s7 → Q' s7) →
            wpAny (model X.prog X.w) X.A (do bindName X.env n .none; unbindBehindTheSuite X.env n q) (fun _ s7 => Q' s7) X.xe s6 := fun {σ6 H6 Q'} S6 z => gone_ok (S6.unsuite okI) nd slot loc z
        match f6, z6 with
        | .next, ⟨σ6, H6, S6, z⟩ => exact last S6 fun s7 J7 => ⟨_, _, J7, z⟩
        | .brk, ⟨σ6, H6, S6, z⟩ => exact last S6 fun s7 J7 => ⟨_, _, J7, z⟩
        | .cont, ⟨σ6, H6, S6, z⟩ => exact last S6 fun s7 J7 => ⟨_, _, J7, z⟩
        | .ret u, ⟨v6, σ6, H6, S6, r6, z⟩ => exact last S6 fun s7 J7 => ⟨_, _, _, J7, r6, z⟩
      | false =>
        show wpAny _ X.A (handleBy (.ref a) X.env gs2) _ _ _
        exact ih (no rfl)
  · match fl, ended with
    | .next, ⟨σ6, H6, S6, z⟩ => exact wpAny_execs_nil ⟨_, _, S6.ofTry okI, z⟩
    | .brk, ⟨σ6, H6, S6, z⟩ => exact ⟨_, _, S6.ofTry okI, z⟩
    | .cont, ⟨σ6, H6, S6, z⟩ => exact ⟨_, _, S6.ofTry okI, z⟩
    | .ret u, ⟨v6, σ6, H6, S6, r6, z⟩ => exact ⟨_, _, _, S6.ofTry okI, r6, z⟩
end Tr

set_option Elab.async false
set_option linter.all false
set_option maxRecDepth 100000
set_option maxHeartbeats 4000000
/-! enumerate(x, start=k), x a text or a list -/
namespace RL
open PySem PySem.Spec PyProof.Rows L2 AK
/-- each turn: a new pair of k + the place, and the sign -/
def IteS (z : Str) (k : Int) : It :=
  ⟨fun i _ => i < z.cps.size, fun i H v H' => ∃ T c, v = .ref T ∧ H T = none ∧ H' = upd H T (.tup [.int (k + (i : Nat)), .str ⟨#[c]⟩]) ∧ z.cps[i]? = some c, fun i _ => z.cps.size = i⟩
theorem turn_enumS {P : Program} {w : World} {K : PySem.W.Frag} {elts : List PySem.Expr} {kk : Nat} {tpos : Pos} (z : Str) (k : Int) (t : Tok) (e it : Addr) :
    Turn P w K (.Tuple elts kk tpos) (IteS z k) [e, it] e (fun i h => (∃ old, IsEnum h e it (k + (i : Nat)) old) ∧ h.IsStrIter it (strIterType z) z t i ∧ e ≠ it) where
  mem := by simp
  obj := fun i h st b hb => by
    obtain ⟨⟨old, is⟩, ⟨o, there, _, data⟩, _⟩ := st
    rcases List.mem_cons.mp hb with rfl | hb
    · exact ⟨_, is, fun v q => nomatch q⟩
    · obtain rfl := List.mem_singleton.mp hb
      exact ⟨o, there, fun v q => by rw [data] at q; cases q⟩
  keep := fun i h h' st kp => by
    obtain ⟨⟨old, is⟩, ⟨o, there, r⟩, ne⟩ := st
    exact ⟨⟨old, kp e (by simp) _ is⟩, ⟨o, kp it (by simp) o there, r⟩, ne⟩
  item := by
    intro X hP hw hK calm i pins s σ H E I apart st more
    subst hP hw hK
    obtain ⟨⟨old, is⟩, iter, ne⟩ := st
    have ea : e < s.heap.objs.size := Heap.lt_size is
    have ia : it < s.heap.objs.size := by
      obtain ⟨_, q, _⟩ := iter
      exact Heap.lt_size q
    refine wpAny_pyNext_enum_itemC (c := k + (i : Nat)) (Draws.text (A := X.A.in1) (I.ok.hd calm) it z t) is iter more ne (fun q => ne (List.mem_singleton.mp q)) fun y h' tk hy out st' hT size keep => ?_
    obtain ⟨c, u, hc, rfl⟩ := hy
    have ru : RelV (.str ⟨#[c]⟩) (.str ⟨#[c]⟩ u) := ⟨_, rfl⟩
    have what : ∀ T, H T = none → (IteS z k).yld i H (.ref T) (upd H T (.tup [.int (k + (i : Nat)), .str ⟨#[c]⟩])) := fun T hT => ⟨T, c, rfl, hT, rfl, hc⟩
    have st2 := st'
    refine ⟨_, rfl, wpAny_letOwnedTupleGo_enum (s := { s with heap := h', toks := tk + 1 }) out fun h'' is' sb => ?_⟩
    have hT2 : h''.get? s.heap.objs.size = some { cls := .type "tuple", data := .seq #[.int (k + (i : Nat)) tk, .str ⟨#[c]⟩ u] } := (sb.2 _ (Nat.ne_of_gt ea)).trans hT
    have new : ObjOk X.prog X.w (upd H s.heap.objs.size (.tup [.int (k + (i : Nat)), .str ⟨#[c]⟩])) h'' s.heap.objs.size (.tup [.int (k + (i : Nat)), .str ⟨#[c]⟩]) :=
      ⟨by show 2 ≤ sizeLine; decide, [.int (k + (i : Nat)) tk, .str ⟨#[c]⟩ u], .cons ⟨_, rfl⟩ (.cons ru .nil), ⟨_, hT2, rfl, _, rfl⟩⟩
    have I1 : L2.Inv X pins σ (upd H s.heap.objs.size (.tup [.int (k + (i : Nat)), .str ⟨#[c]⟩])) { s with heap := h'', toks := tk + 1 } :=
      I.turnedNew (ch := [e, it]) (fun b ob hb q => (sb.2 b (fun z => hb (by simp [z]))).trans (keep b ob (fun z => hb (by simp [z])) (fun z => hb (by simp [z])) q)) apart (Nat.le_refl _) new
    refine ⟨.ref s.heap.objs.size, _, I1, rfl, what _ (I.hok.fresh (Nat.le_refl _)), ⟨⟨.str ⟨#[c]⟩ u, ?_⟩, ?_, ne⟩, fun b hb => ?_⟩
    · have e1 : k + ((i + 1 : Nat) : Int) = k + (i : Int) + 1 := by omega
      rw [e1]
      exact is'
    · obtain ⟨o, there, r⟩ := st2
      exact ⟨o, (sb.2 it (Ne.symm ne)).trans there, r⟩
    · have hb' : b < s.heap.objs.size := by
        rcases List.mem_cons.mp hb with rfl | hb
        · exact ea
        · rw [List.mem_singleton.mp hb]
          exact ia
      rw [upd_ne (Nat.ne_of_lt hb')]
      exact (apart b hb).1
  done := by
    intro X hP hw hK calm i pins s σ H E I apart st more
    subst hP hw hK
    obtain ⟨⟨old, is⟩, iter, ne⟩ := st
    obtain ⟨y0, y1, y2, y3, y4, y5⟩ := apart it (by simp)
    have z2 : z.cps.size = i := more
    subst z2
    exact wpAny_pyNext_enum_endD (Draws.text (A := X.A.in1) (I.ok.hd calm) it z t) is iter fun h' eb => ⟨rfl, I.turned (t' := s.toks) (fun b o hb q => eb b o hb q) y0 y1 y3 y4 y5⟩
  self := fun A i s Q E st h => let ⟨⟨_, is⟩, _⟩ := st; wpAny_pyIter_enum is h
/-- each turn: a new pair of k + the place, and the item -/
def IteL (K : PySem.W.Frag) (a : Addr) (k : Int) : It :=
  ⟨fun i H => ∃ (xs : List V) (x : V), SqL K H a xs ∧ xs[i]? = some x, fun i H v H' => ∃ T x, v = .ref T ∧ H T = none ∧ H' = upd H T (.tup [.int (k + (i : Nat)), x]) ∧ ∀ xs, SqL K H a xs → xs[i]? = some x, fun i H => ∃ xs : List V, SqL K H a xs ∧ xs.length = i⟩
theorem turn_enumL {P : Program} {w : World} {K : PySem.W.Frag} {elts : List PySem.Expr} {kk : Nat} {tpos : Pos} (a : Addr) (k : Int) (e it : Addr) :
    Turn P w K (.Tuple elts kk tpos) (IteL K a k) [e, it] e (fun i h => (∃ old, IsEnum h e it (k + (i : Nat)) old) ∧ h.IsListIter it a i ∧ e ≠ it) where
  mem := by simp
  obj := fun i h st b hb => by
    obtain ⟨⟨old, is⟩, ⟨o, there, _, data⟩, _⟩ := st
    rcases List.mem_cons.mp hb with rfl | hb
    · exact ⟨_, is, fun v q => nomatch q⟩
    · obtain rfl := List.mem_singleton.mp hb
      exact ⟨o, there, fun v q => by rw [data] at q; cases q⟩
  keep := fun i h h' st kp => by
    obtain ⟨⟨old, is⟩, ⟨o, there, r⟩, ne⟩ := st
    exact ⟨⟨old, kp e (by simp) _ is⟩, ⟨o, kp it (by simp) o there, r⟩, ne⟩
  item := by
    intro X hP hw hK calm i pins s σ H E I apart st more
    subst hP hw hK
    obtain ⟨⟨old, is⟩, iter, ne⟩ := st
    have ea : e < s.heap.objs.size := Heap.lt_size is
    have ia : it < s.heap.objs.size := by
      obtain ⟨_, q, _⟩ := iter
      exact Heap.lt_size q
    obtain ⟨xs, x, sq, at_⟩ := more
    obtain ⟨its, rel, tup, _⟩ := I.list sq
    have apart1 : a ≠ it := by
      rintro rfl
      obtain ⟨o1, n1, g1, c1, _⟩ := tup
      obtain ⟨o2, g2, c2, _⟩ := iter
      rw [g1] at g2
      cases g2
      rw [c1] at c2
      exact absurd c2 (by decide)
    obtain ⟨u, hu, ru⟩ := rel.get at_
    have few : i < its.toArray.size := by
      rw [List.size_toArray]
      exact (List.getElem?_eq_some_iff.mp hu).1
    have apart2 : e ∉ [it, a] := fun z => by
      rcases List.mem_cons.mp z with z | z
      · exact ne z
      · obtain rfl := List.mem_singleton.mp z
        obtain ⟨o1, n1, g1, c1, _⟩ := tup
        have g2 : s.heap.get? e = _ := is
        rw [g1] at g2
        cases g2
        exact absurd c1 (by show ¬ (PySem.Value.type "enumerate" = PySem.Value.type "list"); decide)
    refine wpAny_pyNext_enum_itemC (c := k + (i : Nat)) (Draws.list (A := X.A.in1) (I.ok.hd calm) it a apart1 its.toArray) is ⟨iter, tup.isList⟩ few ne apart2 fun y h' tk hy out st' hT size keep => ?_
    obtain rfl : y = u := by
      have z : its.toArray[i]? = some u := by simpa using hu
      exact Option.some.inj (hy.symm.trans z)
    have what : ∀ T, H T = none → (IteL X.K a k).yld i H (.ref T) (upd H T (.tup [.int (k + (i : Nat)), x])) := fun T hT => ⟨T, x, rfl, hT, rfl, fun ys hy => by rw [I.list_inj hy sq]; exact at_⟩
    have st2 := st'.1
    refine ⟨_, rfl, wpAny_letOwnedTupleGo_enum (s := { s with heap := h', toks := tk + 1 }) out fun h'' is' sb => ?_⟩
    have hT2 : h''.get? s.heap.objs.size = some { cls := .type "tuple", data := .seq #[.int (k + (i : Nat)) tk, y] } := (sb.2 _ (Nat.ne_of_gt ea)).trans hT
    have new : ObjOk X.prog X.w (upd H s.heap.objs.size (.tup [.int (k + (i : Nat)), x])) h'' s.heap.objs.size (.tup [.int (k + (i : Nat)), x]) :=
      ⟨by show 2 ≤ sizeLine; decide, [.int (k + (i : Nat)) tk, y], .cons ⟨_, rfl⟩ (.cons ru .nil), ⟨_, hT2, rfl, _, rfl⟩⟩
    have I1 : L2.Inv X pins σ (upd H s.heap.objs.size (.tup [.int (k + (i : Nat)), x])) { s with heap := h'', toks := tk + 1 } :=
      I.turnedNew (ch := [e, it]) (fun b ob hb q => (sb.2 b (fun z => hb (by simp [z]))).trans (keep b ob (fun z => hb (by simp [z])) (fun z => hb (by simp [z])) q)) apart (Nat.le_refl _) new
    refine ⟨.ref s.heap.objs.size, _, I1, rfl, what _ (I.hok.fresh (Nat.le_refl _)), ⟨⟨y, ?_⟩, ?_, ne⟩, fun b hb => ?_⟩
    · have e1 : k + ((i + 1 : Nat) : Int) = k + (i : Int) + 1 := by omega
      rw [e1]
      exact is'
    · obtain ⟨o, there, r⟩ := st2
      exact ⟨o, (sb.2 it (Ne.symm ne)).trans there, r⟩
    · have hb' : b < s.heap.objs.size := by
        rcases List.mem_cons.mp hb with rfl | hb
        · exact ea
        · rw [List.mem_singleton.mp hb]
          exact ia
      rw [upd_ne (Nat.ne_of_lt hb')]
      exact (apart b hb).1
  done := by
    intro X hP hw hK calm i pins s σ H E I apart st more
    subst hP hw hK
    obtain ⟨⟨old, is⟩, iter, ne⟩ := st
    obtain ⟨y0, y1, y2, y3, y4, y5⟩ := apart it (by simp)
    obtain ⟨xs, sq, rfl⟩ := more
    obtain ⟨its, rel, tup, _⟩ := I.list sq
    have apart1 : a ≠ it := by
      rintro rfl
      obtain ⟨o1, n1, g1, c1, _⟩ := tup
      obtain ⟨o2, g2, c2, _⟩ := iter
      rw [g1] at g2
      cases g2
      rw [c1] at c2
      exact absurd c2 (by decide)
    have size1 : xs.length = its.toArray.size := by
      rw [List.size_toArray]
      exact rel.length
    rw [size1] at is iter
    exact wpAny_pyNext_enum_endD (Draws.list (A := X.A.in1) (I.ok.hd calm) it a apart1 its.toArray) is ⟨iter, tup.isList⟩ fun h' eb => ⟨rfl, I.turned (t' := s.toks) (fun b o hb q => eb b o hb q) y0 y1 y3 y4 y5⟩
  self := fun A i s Q E st h => let ⟨⟨_, is⟩, _⟩ := st; wpAny_pyIter_enum is h
end RL
namespace RL
open PySem PySem.Spec PyProof.Rows L2 AK
section
variable {M : Model} {A : Around} {E : PySem.Value → Shared → Prop} {s : Shared} {env : Env}
/-- a built-in class called with keywords -/
theorem type_kw {pos : Pos} {T : String} {args : List (Bool × Sem PySem.Value)} {kws : List (Option Str × Sem PySem.Value)} {Q : PySem.Value → Shared → Prop} (plain : args.any (·.1) = false) (named : kws.any (·.1.isNone) = false)
    (h : wpAny M A (evalArgs (.type T) true args kws) (fun a s1 => wpAny M A (call (.type T) a.pos a.kw) Q E s1) E s) : wpAny M A (callWith pos (.type T) [] args kws) Q E s := by
  unfold callWith
  refine wpAny_bind (wpAny_holding (wpAny_mono h (fun a s1 g => wpAny_bind (wpAny_standAt ?_)) fun _ _ z => z))
  simp only [plain, named, Bool.or_false]
  refine wpAny_bind (wpAny_pure ?_)
  exact wpAny_bind (wpAny_mono g (fun r s2 hr => wpAny_bind (wpAny_holding (wpAny_point (wpAny_pure hr)))) fun _ _ z => z)
end
section
variable {X : Cx} {e kx : PySem.Expr} {ta : TA} {p pos tpos kp : Pos} {elts : List PySem.Expr} {kk : Nat} {k : Int}
def iEnumS (ta : TA) (k : Int) : TI := fun σ H R => ta σ H fun vs H1 => ∃ z, vs = [.str z] ∧ R (IteS z k) H1
def iEnumL (K : PySem.W.Frag) (ta : TA) (k : Int) : TI := fun σ H R => ta σ H fun vs H1 => ∃ a xs, vs = [.ref a] ∧ SqL K H1 a xs ∧ R (IteL K a k) H1
theorem pi_enumKS (hg : Gl X "enumerate") (hm : X.mg "enumerate" = none) (ha : PA X [e] ta) (hk : PE X kx (tC (.int k))) (k0 : -(2 ^ 63) ≤ k) (k1 : k < 2 ^ 63) (hs : backTo pos (starEach [e] X.env) = (false, eval e X.env) :: backTo pos (starEach [] X.env) := by rfl)
    (hpl : (backTo pos (starEach [e] X.env)).any (·.1) = false := by rfl) : PI X (.Tuple elts kk tpos) (.Call (.Name "enumerate" p) [e] [⟨some "start", kx, kp⟩] pos) (iEnumS ta k) := by
  refine ⟨fun pins s σ H R I h => ?_⟩
  refine wpAny_Call_Name_kw (ld_blt I hg hm boot_enumerate (type_kw hpl rfl ?_))
  have rd := ha.run pos pins s σ H _ I h
  rw [hs] at rd ⊢
  refine evalArgs_kwB rfl (thn rd fun us s1 ⟨vs, H1, I1, r1, z, ex, q⟩ => kws_cons (thn (hk.run pins s1 σ H1 (fun y H2 => y = .int k ∧ H2 = H1) I1 ⟨rfl, rfl⟩) fun v s2 ⟨y, H2, I2, r2, ey, eH⟩ => kws_nil ?_))
  subst ex ey eH
  obtain ⟨u, rfl, tz, rfl⟩ := vals1 r1
  obtain ⟨tk, rfl⟩ := r2
  show wpAny _ _ (call (.type "enumerate") [.str z tz] [(Str.ofString "start", .int k tk)]) _ _ _
  refine enum_begins_start (begins_text z tz) trivial k0 k1 fun h' is iter size keep => wpAny_pyIter_enum is ?_
  have I3 : L2.Inv X pins σ H2 { s2 with heap := h' } := I2.kept (t' := s2.toks) keep
  have k2 : k + ((0 : Nat) : Int) = k := by omega
  refine ⟨s2.heap.objs.size + 1, [s2.heap.objs.size + 1, s2.heap.objs.size], _, _, H2, rfl, I3, turn_enumS z k tz (s2.heap.objs.size + 1) s2.heap.objs.size, ⟨⟨.none, by rw [k2]; exact is⟩, ⟨_, iter, rfl, rfl⟩, Nat.succ_ne_self _⟩, fun b hb => ?_, q⟩
  have le : s2.heap.objs.size ≤ b := by
    rcases List.mem_cons.mp hb with rfl | hb
    · exact Nat.le_succ _
    · rw [List.mem_singleton.mp hb]
      exact Nat.le_refl _
  exact I2.fpOk le (I2.hok.fresh le)
theorem pi_enumKL (hg : Gl X "enumerate") (hm : X.mg "enumerate" = none) (ha : PA X [e] ta) (hk : PE X kx (tC (.int k))) (k0 : -(2 ^ 63) ≤ k) (k1 : k < 2 ^ 63) (hs : backTo pos (starEach [e] X.env) = (false, eval e X.env) :: backTo pos (starEach [] X.env) := by rfl)
    (hpl : (backTo pos (starEach [e] X.env)).any (·.1) = false := by rfl) : PI X (.Tuple elts kk tpos) (.Call (.Name "enumerate" p) [e] [⟨some "start", kx, kp⟩] pos) (iEnumL X.K ta k) := by
  refine ⟨fun pins s σ H R I h => ?_⟩
  refine wpAny_Call_Name_kw (ld_blt I hg hm boot_enumerate (type_kw hpl rfl ?_))
  have rd := ha.run pos pins s σ H _ I h
  rw [hs] at rd ⊢
  refine evalArgs_kwB rfl (thn rd fun us s1 ⟨vs, H1, I1, r1, a, xs, ex, sq, q⟩ => kws_cons (thn (hk.run pins s1 σ H1 (fun y H2 => y = .int k ∧ H2 = H1) I1 ⟨rfl, rfl⟩) fun v s2 ⟨y, H2, I2, r2, ey, eH⟩ => kws_nil ?_))
  subst ex ey eH
  obtain ⟨u, rfl, ru⟩ := vals1 r1
  obtain rfl : u = Value.ref a := ru
  obtain ⟨its, rel, tup, _⟩ := I2.list sq
  obtain ⟨tk, rfl⟩ := r2
  show wpAny _ _ (call (.type "enumerate") [.ref a] [(Str.ofString "start", .int k tk)]) _ _ _
  refine enum_begins_start (begins_list a its.toArray) tup.isList k0 k1 fun h' is iter size keep => wpAny_pyIter_enum is ?_
  have I3 : L2.Inv X pins σ H2 { s2 with heap := h' } := I2.kept (t' := s2.toks) keep
  have k2 : k + ((0 : Nat) : Int) = k := by omega
  refine ⟨s2.heap.objs.size + 1, [s2.heap.objs.size + 1, s2.heap.objs.size], _, _, H2, rfl, I3, turn_enumL a k (s2.heap.objs.size + 1) s2.heap.objs.size, ⟨⟨.none, by rw [k2]; exact is⟩, ⟨_, iter, rfl, rfl⟩, Nat.succ_ne_self _⟩, fun b hb => ?_, q⟩
  have le : s2.heap.objs.size ≤ b := by
    rcases List.mem_cons.mp hb with rfl | hb
    · exact Nat.le_succ _
    · rw [List.mem_singleton.mp hb]
      exact Nat.le_refl _
  exact I2.fpOk le (I2.hok.fresh le)
/-- enumerate of a text -/
theorem pi_enumS0 (hg : Gl X "enumerate") (hm : X.mg "enumerate" = none) (ha : PA X [e] ta) (hs : starEach [e] X.env = [(false, eval e X.env)] := by rfl) :
    PI X (.Tuple elts kk tpos) (.Call (.Name "enumerate" p) [e] [] pos) (iEnumS ta 0) := by
  refine ⟨fun pins s σ H R I h => ?_⟩
  refine Call_ (ld_blt I hg hm boot_enumerate (PyProof.Rows.callWith_type1 (thn (ha.run pos pins s σ H _ I h) fun us s1 ⟨vs, H1, I1, r1, z, ex, q⟩ => ?_) hs rfl))
  subst ex
  obtain ⟨u, rfl, tz, rfl⟩ := vals1 r1
  refine call_enum (begins_text z tz) trivial fun h' is iter keep => wpAny_pyIter_enum is ?_
  have I2 : L2.Inv X pins σ H1 { s1 with heap := h' } := I1.kept (t' := s1.toks) keep
  refine ⟨s1.heap.objs.size + 1, [s1.heap.objs.size + 1, s1.heap.objs.size], _, _, H1, rfl, I2, turn_enumS z 0 tz (s1.heap.objs.size + 1) s1.heap.objs.size, ⟨⟨.none, is⟩, ⟨_, iter, rfl, rfl⟩, Nat.succ_ne_self _⟩, fun b hb => ?_, q⟩
  have le : s1.heap.objs.size ≤ b := by
    rcases List.mem_cons.mp hb with rfl | hb
    · exact Nat.le_succ _
    · rw [List.mem_singleton.mp hb]
      exact Nat.le_refl _
  exact I1.fpOk le (I1.hok.fresh le)
theorem walk_enumS {z : Str} : Walk (IteS z k) z.cps.size (fun _ => True) (YPair (fun i => some (.int (k + (i : Nat)))) (fun i => (z.cps[i]?).map fun c => .str ⟨#[c]⟩)) := by
  refine ⟨fun i _ hi _ => hi, fun _ _ => rfl, ?_⟩
  rintro i H v H' _ _ ⟨T, c, h1, h2, h3, h4⟩
  exact ⟨T, .int (k + (i : Nat)), .str ⟨#[c]⟩, h1, h2, h3, rfl, by show (z.cps[i]?).map _ = _; rw [h4]; rfl⟩
theorem walk_enumL {K : PySem.W.Frag} {a : Addr} {xs : List V} : Walk (IteL K a k) xs.length (fun H => SqL K H a xs) (YPair (fun i => some (.int (k + (i : Nat)))) (fun i => xs[i]?)) := by
  refine ⟨fun i _ hi q => ⟨xs, xs[i], q, List.getElem?_eq_getElem hi⟩, fun _ q => ⟨xs, q, rfl⟩, ?_⟩
  rintro i H v H' _ q ⟨T, x, h1, h2, h3, h4⟩
  exact ⟨T, .int (k + (i : Nat)), x, h1, h2, h3, rfl, h4 xs q⟩
end
end RL

set_option Elab.async false
set_option linter.all false
set_option maxRecDepth 100000
set_option maxHeartbeats 4000000
namespace K23
open PySem PySem.Spec PyProof.Rows L2 Tr
def top (i : Nat) : Stmt := PySem.Challenge.pw_tilesregrow_k23_whole_rows_of_numbers.main.body.getD i (.Pass ⟨0, 0, 0, 0⟩)
abbrev sPen : Stmt := top 57
abbrev sDraw : Stmt := top 58
abbrev sPick : Stmt := top 59
def mkD (x : Str) (st : Stmt) : He.DefD := ⟨(x, none), x, x, defArgs st, defBody st, defScope st, [], []⟩
def mkM (x m : Str) (q : Str) (st : Stmt) : He.DefD := ⟨(x, some m), m, q, defArgs st, defBody st, defScope st, [], []⟩
def errs : List Str := ["BadText", "BadNumber"]
def fn : List He.DefD := [mkD "is_integer" (top 6), mkD "is_number" (top 7), mkD "is_datum" (top 8), mkD "is_symbol" (top 9), mkD "is_tuple_of" (top 10), mkD "is_list" (top 11), mkD "by_repr" (top 12), mkD "lines_of" (top 16), mkD "words_of" (top 17), mkD "is_name" (top 18), mkD "names_of_line" (top 24), mkD "marks_of" (top 25), mkD "orders_of" (top 26), mkD "check_mark" (top 27), mkD "order_of" (top 28), mkD "is_over" (top 29), mkD "check_values" (top 30), mkD "is_direction" (top 34), mkD "is_first" (top 39), mkD "are_steps" (top 40), mkD "is_step" (top 41), mkD "are_turns" (top 42), mkD "is_turn" (top 43), mkD "first_row" (top 45), mkD "values_of" (top 46), mkD "steps_told" (top 47), mkD "letters_of_program" (top 48), mkD "sweeps_of" (top 49), mkD "step_of" (top 50), mkD "turn_of" (top 51), mkD "turn_behind" (top 52), mkD "with_digit" (top 53), mkD "done_at" (top 54), mkD "digit_behind" (top 55), mkD "_law_pen" (top 57), mkD "_law_draw" (top 58), mkD "_law_pick" (top 59), mkD "_law_name" (top 60), mkD "_law_names" (top 61), mkD "_law_program" (top 62), mkD "_law_loop" (top 63), mkD "_law_any_program" (top 64), mkD "_law_marks" (top 65), mkD "_law_order_words" (top 66), mkD "_law_program_lines" (top 67), mkD "_law_text_of" (top 68), mkD "_law_some_values" (top 69), mkD "_law_digit" (top 70), mkD "_law_power_two" (top 71), mkD "_law_digits" (top 72), mkD "_law_row" (top 73), mkD "_law_refused" (top 74), mkD "_law_total" (top 75), mkD "law" (top 76),
  mkM "BadText" "__init__" "BadText.__init__" (inClass (top 2) 0), mkM "BadNumber" "__init__" "BadNumber.__init__" (inClass (top 3) 0), mkM "Program" "__init__" "Program.__init__" (inClass (top 23) 0)]
def fa1 : List He.Fa := [.free "len", .free "int", .free "list", .free "range", .free "repr", .free "isinstance", .free "tuple", .free "bool", .free "sorted", .free "all", .free "dict", .free "str", .free "max", .free "min", .free "enumerate", .free "zip", .free "sum", .str "FIGURES" "0123456789", .str "SMALL_LETTERS" "abcdefghijklmnopqrstuvwxyz", .int "MOST_REGISTERS" 3, .int "MOST_COLOURS" 4, .glo "ORDERS"]
def fa2 : List He.Fa := [.glo "is_integer", .glo "is_number", .glo "is_datum", .glo "is_symbol", .glo "is_tuple_of", .glo "is_list", .glo "by_repr", .glo "lines_of", .glo "words_of", .glo "is_name", .glo "names_of_line", .glo "marks_of", .glo "orders_of", .glo "check_mark", .glo "order_of", .glo "is_over", .glo "check_values", .glo "is_direction", .glo "is_first", .glo "are_steps", .glo "is_step", .glo "are_turns", .glo "is_turn", .glo "first_row", .glo "values_of", .glo "steps_told", .glo "letters_of_program", .glo "sweeps_of", .glo "step_of", .glo "turn_of", .glo "turn_behind", .glo "with_digit", .glo "done_at", .glo "digit_behind", .glo "_law_pen", .glo "_law_draw", .glo "_law_pick", .glo "_law_name", .glo "_law_names", .glo "_law_program", .glo "_law_loop", .glo "_law_any_program", .glo "_law_marks", .glo "_law_order_words", .glo "_law_program_lines", .glo "_law_text_of", .glo "_law_some_values", .glo "_law_digit", .glo "_law_power_two", .glo "_law_digits", .glo "_law_row", .glo "_law_refused", .glo "_law_total", .glo "law", .glo "BadText", .glo "BadNumber", .glo "Program", .meth "BadText" "__init__", .meth "BadNumber" "__init__", .cls "Program", .mkr "Program", .meth "Program" "__init__"]
def fa3 : List He.Fa := [.noat "Program" "text", .noat "Program" "registers", .noat "Program" "colours", .noat "Program" "orders"]
def fa : List He.Fa := fa1 ++ (fa2 ++ fa3)
def flds : List Str := ["line", "column", "what", "number"]
def tf : List He.Defn := []
def ordK : List (Str × Str) := [("inc", "R"), ("dec", "R"), ("clear", "R"), ("add", "RR"), ("copy", "RR"), ("jump", "L"), ("ifzero", "RL"), ("ifsame", "RRL"), ("paint", "C"), ("end", "")]
def ts : List He.Tab := [(fun K => He.ga K "ORDERS", ordK.map (·.1))]
def cs (K : PySem.W.Frag) : List Addr := errs.map (He.ga K)
def strAt (K : PySem.W.Frag) (a : Addr) (x y : Str) : Bool := match PySem.W.nsIn K a x with
  | some (some (.str z _)) => decide (z = y)
  | _ => false
def ex (K : PySem.W.Frag) : Bool := (cs K).all (Tr.xcAll K) && (((cs K).all fun c => (cs K).all fun d => decide (PySem.W.exmOne K (.ref c) (.ref d) = some (c == d))) && (((cs K).all fun c => flds.all fun f => decide (PySem.W.findIn K (.ref c) f = some none)) &&
  ordK.all fun e => strAt K (He.ga K "ORDERS") e.1 e.2))
end K23

set_option Elab.async false
set_option linter.all false
set_option maxRecDepth 100000
set_option maxHeartbeats 4000000
namespace K23
open PySem PySem.Spec PyProof.Rows L2 Pen
/-! ### what the top's names hold -/
structure Txt (mg : Str → Option PySem.Value) : Prop where
  len : mg "len" = none
  int : mg "int" = none
  list : mg "list" = none
  range : mg "range" = none
  repr : mg "repr" = none
  isi : mg "isinstance" = none
  tuple : mg "tuple" = none
  bool : mg "bool" = none
  sorted : mg "sorted" = none
  all : mg "all" = none
  dict : mg "dict" = none
  str : mg "str" = none
  max : mg "max" = none
  min : mg "min" = none
  enum : mg "enumerate" = none
  zip : mg "zip" = none
  sum : mg "sum" = none
abbrev FnT (K : PySem.W.Frag) (x : Str) (i : Nat) (f : Addr) (fd : FuncData) : Prop := FunD K x x (defArgs (top i)) (defBody (top i)) (defScope (top i)) [] [] f fd
abbrev FnM (K : PySem.W.Frag) (m q : Str) (st : PySem.Stmt) (f : Addr) (fd : FuncData) : Prop := FunD K m q (defArgs st) (defBody st) (defScope st) [] [] f fd
abbrev FnP (K : PySem.W.Frag) (x : Str) (st : PySem.Stmt) (f : Addr) (fd : FuncData) : Prop := FunD K x x (defArgs st) (defBody st) (defScope st) [] [] f fd
section
variable {P : Program} {w : World} {K : PySem.W.Frag} {mg : Str → Option PySem.Value} {base : Heap} {f : Addr} {fd : FuncData}
theorem scPen : FnScope ["_law_script", "_law_fold", "_law_cell"] ["_law_script"] (defScope sPen) := ⟨rfl, rfl, rfl, by decide +kernel, rfl, by decide +kernel, by decide +kernel⟩
theorem ok_pen (F : FnP K "_law_pen" sPen f fd) (T : Txt mg) : FnOk P w K mg base CX0 1 f fd ["_law_script"] (spPen K) := by
  refine F.ok scPen (fun vs H Q E h => ?_) (fun cdv A outer s H vs Q E hr h => ?_)
  · obtain ⟨a, ns, rfl, _⟩ := h
    rfl
  · obtain ⟨a, ns, rfl, hS, hl, k⟩ := h
    have nd := scPen.nd
    suffices z : ∃ t, PSs (cxOf CX0 P w K mg base ["_law_script", "_law_fold", "_law_cell"] "_law_pen" (defScope sPen) f cdv A outer s H E).nox (defBody sPen) t ∧ t { nx := fun _ H' => Q .non H', rt := Q } (start ["_law_script", "_law_fold", "_law_cell"] [.ref a]) H by
      obtain ⟨t, h1, h2⟩ := z
      exact ⟨t, h1.nox, h2⟩
    refine ⟨_, pss_cons (ps_set (i := 1) nd rfl (.inl rfl) pe_int)
      (pss_cons (ps_for PassesOwn.never rfl (pi_list (pv 0)) (pg_name (i := 2) nd rfl (.inl rfl))
        (pss_one (ps_set (i := 1) nd rfl (.inl rfl) (pe_op op_mod (pe_callTy call_int1 (by rfl) T.int (by decide +kernel) (pa_cons (pe_op op_add (pe_op op_mul (pv 1) pe_int) (pv 2)) pa_nil)) pe_int))))
      (pss_one (ps_ret (pe_disp (pps_cons pe_str (pe_callTy call_list_of (by rfl) T.list (by decide +kernel) (pa_cons (pv 0) pa_nil)) (pps_cons pe_str pe_int (pps_cons pe_str pe_int (pps_cons pe_str pe_int (pps_cons pe_str (pv 1) pps_nil)))))
        rfl rfl (by intro z; cases z) (by decide))))), ?_⟩
    refine ⟨_, rfl, a, rfl, ⟨_, hS⟩, for_list (K := K) (a := a) (xs := ns.map V.int) (fun i σ H2 => ∃ (fo : Int) (v : Option V), σ = [some (.ref a), some (.int fo), v] ∧ H2 = H ∧ 0 ≤ fo ∧ fo < 1000000007)
      ⟨0, none, rfl, rfl, by decide, by decide⟩ (fun i σ H2 _ ⟨_, _, _, e, _⟩ => by rw [e]; exact hS) ?_ ?_⟩
    · rintro i y σ H2 hi ⟨fo, v, rfl, rfl, f0, f1⟩
      obtain ⟨z, _, rfl⟩ : ∃ z, ns[i]? = some z ∧ V.int z = y := by
        rw [List.getElem?_map] at hi
        exact Option.map_eq_some_iff.mp hi
      refine ⟨_, rfl, _, _, rfl, rfl, .inr ⟨by decide, by decide⟩, _, rfl, _, _, rfl, rfl, .inl ⟨_, rfl, _, _, rfl, rfl, (by show (0 : Int) < 1000000007; decide), ?_⟩⟩
      exact ⟨(fo * 41 + z) % 1000000007, _, rfl, rfl, Int.emod_nonneg _ (by decide), Int.emod_lt_of_pos _ (by decide)⟩
    · rintro σ H2 ⟨fo, v, rfl, rfl, f0, f1⟩
      intro p hp
      refine ⟨_, rfl, a, _, rfl, .inl (Same.seq (fun b o e => by rw [upd_ne (ne_of_none e hp)]; exact e) hS), fun l hl => ?_⟩
      have nlp : p ≠ l := ne_of_none (upd_same (H := H2) (a := p)) hl
      have hl2 : H2 l = none := by rw [← hl, upd_ne nlp.symm]
      refine ⟨_, rfl, ?_⟩
      refine ⟨(by rw [upd_ne nlp]; exact upd_same), penK l 0 0 0 fo, rfl, (by show 5 ≤ 15; decide), ?_⟩
      have e0 : mergeK [] (penK l 0 0 0 fo) = penK l 0 0 0 fo := by kernel_rfl
      rw [e0]
      refine k p l _ ⟨ns, 0, 0, 0, fo, ⟨upd_same, by rw [upd_ne nlp.symm, upd_same], by decide, by decide, by decide, f0, by omega⟩, by decide⟩ (fun b o e => ?_) hp
      rw [upd_ne (ne_of_none e hp), upd_ne (ne_of_none e hl2), upd_ne (ne_of_none e hp)]
      exact e
end
end K23
namespace K23
open PySem PySem.Spec PyProof.Rows L2 Pen
section
variable {P : Program} {w : World} {K : PySem.W.Frag} {mg : Str → Option PySem.Value} {base : Heap} {f : Addr} {fd : FuncData}
abbrev nDraw : List Str := ["_law_pen_here", "_law_many", "_law_cell", "_law_digit_here", "_law_blend"]
theorem scDraw : FnScope nDraw ["_law_pen_here", "_law_many"] (defScope sDraw) := ⟨rfl, rfl, rfl, by decide +kernel, rfl, by decide +kernel, by decide +kernel⟩
theorem ok_draw (F : FnP K "_law_draw" sDraw f fd) (T : Txt mg) : FnOk P w K mg base CX0 1 f fd ["_law_pen_here", "_law_many"] spDraw := by
  refine F.ok scDraw (fun vs H Q E h => ?_) (fun cdv A outer s H vs Q E hr h => ?_)
  · obtain ⟨a, _, ns, _, rfl, _⟩ := h
    rfl
  · obtain ⟨p, l, n, m, rfl, ⟨cells, at_, dg, ct, fo, PV, cn⟩, hn, m1, m2, k⟩ := h
    have nd := scDraw.nd
    have hu := hu_of hr
    suffices z : ∃ t, PSs (cxOf CX0 P w K mg base nDraw "_law_draw" (defScope sDraw) f cdv A outer s H E).nox (defBody sDraw) t ∧ t { nx := fun _ H' => Q .non H', rt := Q } (start nDraw [.ref p, .int m]) H by
      obtain ⟨t, h1, h2⟩ := z
      exact ⟨t, h1.nox, h2⟩
    refine ⟨_, pss_cons (ps_dput hu (pv 0) pe_str (pe_op op_add (pe_dget hu (pv 0) pe_str (fun _ _ => rfl)) pe_int) rfl)
      (C8.pss_cut (ps_if (PW.pt (pw_and (pt_cmpR op_eq (pe_dget hu (pv 0) pe_str (fun _ _ => rfl)) pe_int (nomark _))
          (pw_and1 (pt_cmpR op_lt (pe_dget hu (pv 0) pe_str (fun _ _ => rfl)) (pe_callB call_len_seq (by rfl) T.len PySem.boot_len (pa_cons (pe_dget hu (pv 0) pe_str (fun _ _ => rfl)) pa_nil)) (nomark _)))))
        (pss_cons (ps_set (i := 2) nd rfl (.inl rfl) (pe_ix ix_list (pe_dget hu (pv 0) pe_str (fun _ _ => rfl)) (pe_dget hu (pv 0) pe_str (fun _ _ => rfl)) (fun _ _ => rfl)))
        (pss_cons (ps_dput hu (pv 0) pe_str (pe_op op_add (pe_dget hu (pv 0) pe_str (fun _ _ => rfl)) pe_int) rfl)
        (pss_one (ps_if (pt_cmpR op_ge (pv 2) (pe_op op_pow pe_int pe_int) (nomark _))
          (pss_one (ps_dput hu (pv 0) pe_str (pe_op op_sub (pv 2) (pe_op op_pow pe_int pe_int)) rfl))
          (pss_one (ps_dput hu (pv 0) pe_str (pe_op op_mod (pe_callTy call_int1 (by rfl) T.int (by decide +kernel) (pa_cons (pe_op op_add (pe_op op_mul (pe_dget hu (pv 0) pe_str (fun _ _ => rfl)) pe_int) (pv 2)) pa_nil)) pe_int) rfl))))))
        pss_nil)
      (pss_cons (ps_if (pt_cmpR op_gt (pe_dget hu (pv 0) pe_str (fun _ _ => rfl)) pe_int (nomark _))
        (pss_cons (ps_set (i := 3) nd rfl (.inl rfl) (pe_op op_mod (pe_callTy call_int1 (by rfl) T.int (by decide +kernel) (pa_cons (pe_dget hu (pv 0) pe_str (fun _ _ => rfl)) pa_nil)) (pv 1)))
        (pss_cons (ps_dput hu (pv 0) pe_str (pe_op op_fdiv (pe_dget hu (pv 0) pe_str (fun _ _ => rfl)) (pv 1)) rfl)
        (pss_one (ps_ret (pv 3)))))
        pss_nil)
      (pss_cons (ps_set (i := 4) nd rfl (.inl rfl) (pe_op op_add (pe_op op_add (pe_dget hu (pv 0) pe_str (fun _ _ => rfl)) (pe_op op_mul (pe_dget hu (pv 0) pe_str (fun _ _ => rfl)) pe_int)) pe_int))
      (pss_one (ps_ret (pe_op op_mod (pe_op op_fdiv (pe_callTy call_int1 (by rfl) T.int (by decide +kernel) (pa_cons (pe_op op_mod (pe_op op_pow (pv 4) pe_int) pe_int) pa_nil)) pe_int) (pv 1))))))), ?_⟩
    -- count
    refine ⟨_, rfl, p, _, rfl, gCount PV.di, _, _, rfl, rfl, _, rfl, p, _, rfl, pCount PV.di, ?_⟩
    have P1 := PV.set (c' := ct + 1) PV.a0 PV.d0 (by have := PV.c0; omega) PV.f0 PV.f1
    -- behind the draw of a cell
    refine ⟨fun σ H2 => ∃ (v : Option V) (a d f : Int), σ = [some (.ref p), some (.int m), v, none, none] ∧ PenV H2 p l cells a d (ct + 1) f ∧ But p H H2, ?_, ?_⟩
    · refine ⟨_, rfl, p, _, rfl, gDigits P1.di, rfl, _, rfl, ?_⟩
      by_cases hd : dg = 0
      · subst hd
        refine iteT ⟨_, rfl, p, _, rfl, gAt P1.di, _, rfl, p, _, rfl, gCells P1.di, l, _, rfl, .inl (.of P1.li), _, _, rfl, rfl, _, rfl, ?_⟩
        by_cases hlt : at_ < ((cells.map V.int).length : Int)
        · rw [decide_eq_true hlt]
          refine iteT ?_
          have a0 := PV.a0
          have hlt2 : at_.toNat < cells.length := by
            rw [List.length_map] at hlt
            omega
          obtain ⟨z, item⟩ : ∃ z, L2.atI (cells.map V.int) at_ = some (.int z) := by
            obtain ⟨i, rfl⟩ : ∃ i : Nat, at_ = (i : Int) := ⟨at_.toNat, by omega⟩
            exact ⟨cells[i]'hlt2, atI_nat (by rw [List.getElem?_map, List.getElem?_eq_getElem (show i < cells.length from hlt2)] <;> rfl)⟩
          refine ⟨_, rfl, p, _, rfl, gCells P1.di, _, rfl, p, _, rfl, gAt P1.di, l, _, _, _, rfl, rfl, .of P1.li, item, ?_⟩
          refine ⟨_, rfl, p, _, rfl, gAt P1.di, _, _, rfl, rfl, _, rfl, p, _, rfl, pAt P1.di, ?_⟩
          have P2 := P1.set (a' := at_ + 1) (by omega) P1.d0 P1.c0 P1.f0 P1.f1
          refine ⟨_, rfl, _, _, rfl, rfl, ⟨by decide, by decide, by decide⟩, _, _, rfl, rfl, _, rfl, ?_⟩
          refine ite2 (fun hbig => ?_) (fun _ => ?_)
          · refine ⟨_, rfl, _, _, rfl, rfl, ⟨by decide, by decide, by decide⟩, _, _, rfl, rfl, _, rfl, p, _, rfl, pDigits P2.di, ?_⟩
            have big := of_decide_eq_true hbig
            exact ⟨_, _, _, _, rfl, P2.set P2.a0 (by omega) P2.c0 P2.f0 P2.f1, But.refl.upd.upd.upd⟩
          · refine ⟨_, rfl, p, _, rfl, gFold P2.di, _, _, rfl, rfl, .inr ⟨by decide, by decide⟩, _, rfl, _, _, rfl, rfl, .inl ⟨_, rfl, _, _, rfl, rfl, (by show (0 : Int) < 2147483587; decide), _, rfl, p, _, rfl, pFold P2.di, ?_⟩⟩
            exact ⟨_, _, _, _, rfl, P2.set P2.a0 P2.d0 P2.c0 (Int.emod_nonneg _ (by decide)) (by have := Int.emod_lt_of_pos (fo * 69069 + z) (show (0 : Int) < 2147483587 by decide); omega), But.refl.upd.upd.upd⟩
        · rw [decide_eq_false hlt]
          exact iteF ⟨_, _, _, _, rfl, P1, But.refl.upd⟩
      · have e : decide (V.int dg = V.int 0) = false := decide_eq_false (fun z => hd (by injection z))
        rw [e]
        exact iteF ⟨_, _, _, _, rfl, P1, But.refl.upd⟩
    · rintro σ H2 ⟨v, a, d, f, rfl, P2, b2⟩
      refine ⟨_, rfl, p, _, rfl, gDigits P2.di, _, _, rfl, rfl, _, rfl, ?_⟩
      refine ite2 (fun hpos => ?_) (fun _ => ?_)
      · have pos := of_decide_eq_true hpos
        refine ⟨_, rfl, p, _, rfl, gDigits P2.di, .inl ⟨_, rfl, _, rfl, _, _, rfl, rfl, (by omega), ?_⟩⟩
        refine ⟨_, rfl, p, _, rfl, gDigits P2.di, _, rfl, _, _, rfl, rfl, ⟨by omega, m2⟩, _, rfl, p, _, rfl, pDigits P2.di, ?_⟩
        refine ⟨_, rfl, ?_⟩
        refine k _ _ (Int.emod_nonneg _ (by omega)) (Int.emod_lt_of_pos _ (by omega)) ⟨cells, _, _, _, _, P2.set P2.a0 (Int.ediv_nonneg P2.d0 (by omega)) P2.c0 P2.f0 P2.f1, by omega⟩ b2.upd
      · have c0 := P2.c0
        have f0 := P2.f0
        have f1 := P2.f1
        refine ⟨_, rfl, p, _, rfl, gFold P2.di, _, rfl, p, _, rfl, gCount P2.di, _, _, rfl, rfl, .inr ⟨by decide, by decide⟩, _, _, rfl, rfl, _, _, rfl, rfl, ?_⟩
        refine ⟨_, rfl, _, _, rfl, rfl, ⟨by decide, by decide, by omega⟩, _, _, rfl, rfl, (by show (0 : Int) < 2305843009213693951; decide), .inl ⟨_, rfl, _, _, rfl, rfl, ⟨by decide, by decide⟩, _, rfl, _, _, rfl, rfl, (by omega), ?_⟩⟩
        exact k _ _ (Int.emod_nonneg _ (by omega)) (Int.emod_lt_of_pos _ (by omega)) ⟨cells, _, _, _, _, P2, by omega⟩ b2
end
end K23
namespace K23
open PySem PySem.Spec PyProof.Rows L2 Pen
section
variable {P : Program} {w : World} {K : PySem.W.Frag} {mg : Str → Option PySem.Value} {base : Heap} {f fD fP : Addr} {fd fdD fdP : FuncData}
theorem scPick : FnScope ["_law_pen_here", "_law_some"] ["_law_pen_here", "_law_some"] (defScope sPick) := ⟨rfl, rfl, rfl, by decide +kernel, rfl, by decide +kernel, by decide +kernel⟩
theorem ok_pick (F : FnP K "_law_pick" sPick f fd) (T : Txt mg) (FD : FnP K "_law_draw" sDraw fD fdD) (gD : mg "_law_draw" = some (.ref fD)) : FnOk P w K mg base CX0 2 f fd ["_law_pen_here", "_law_some"] (spPick K) := by
  have GD : FnOk P w K mg base CX0 1 fD fdD ["_law_pen_here", "_law_many"] spDraw := ok_draw FD T
  have bD : Binds K fdD ["_law_pen_here", "_law_many"] [] := FD.bindsN fun _ _ _ _ _ _ us hl => match us, hl with | [_, _], _ => rfl
  refine F.ok scPick (fun vs H Q E h => ?_) (fun cdv A outer s H vs Q E hr h => ?_)
  · obtain ⟨_, _, _, _, _, rfl, _⟩ := h
    rfl
  · obtain ⟨p, l, a, n, xs, rfl, PA, hn, hS, ne, many, nap, k⟩ := h
    suffices z : ∃ t, PSs (cxOf CX0 P w K mg base ["_law_pen_here", "_law_some"] "_law_pick" (defScope sPick) f cdv A outer s H E).nox (defBody sPick) t ∧ t { nx := fun _ H' => Q .non H', rt := Q } (start ["_law_pen_here", "_law_some"] [.ref p, .ref a]) H by
      obtain ⟨t, h1, h2⟩ := z
      exact ⟨t, h1.nox, h2⟩
    refine ⟨_, pss_one (ps_ret (pe_ix ix_list (pv 1) (pe_call GD hr (by rfl) gD FD.kp bD .nil pass0 (pa_cons (pv 0) (pa_cons (pe_callB call_len_seq (by rfl) T.len PySem.boot_len (pa_cons (pv 1) pa_nil)) pa_nil))) (fun _ _ => rfl))), ?_⟩
    have pos : 0 < xs.length := List.length_pos_iff.mpr ne
    refine ⟨_, rfl, _, rfl, _, rfl, a, xs, rfl, .inl hS, p, l, n, _, rfl, PA, hn, by omega, by omega, fun r H' r0 r1 PA' but => ?_⟩
    obtain ⟨i, rfl⟩ : ∃ i : Nat, r = (i : Int) := ⟨r.toNat, by omega⟩
    have hi : i < xs.length := by omega
    exact ⟨a, xs, _, _, rfl, rfl, but.seq nap hS, atI_nat (List.getElem?_eq_getElem hi), k i _ H' (List.getElem?_eq_getElem hi) PA' but⟩
end
end K23

set_option Elab.async false
set_option linter.all false
set_option maxRecDepth 100000
set_option maxHeartbeats 4000000
namespace K23
open PySem PySem.Spec PyProof.Rows L2 Pen Tr AK LamX RL
/-! ### lines, words, names -/
def lowS : Str := "abcdefghijklmnopqrstuvwxyz"
def figS : Str := "0123456789"
def signOk (c : Nat) : Bool := decide (c ∈ lowS.cps.toList) || decide (c ∈ figS.cps.toList)
def isNm (x : Str) : Bool := (decide (1 ≤ (x.length : Int)) && decide ((x.length : Int) ≤ 12)) && ((match x.cps[0]? with | some c => decide (c ∈ lowS.cps.toList) | none => false) && x.cps.toList.all signOk)
def lastLine (ls : List Str) : List Str := if ls.getLastD "" = "" then ls.dropLast else ls
def linesT (t : Str) : List Str := lastLine (Txt.split t "\n")
theorem spl_ne : ∀ (l : List Nat) (S : List Nat) (k : Nat) (acc : List Nat), TL.spl S k acc l ≠ []
  | [], S, k, acc => by
    rw [TL.spl_nil]
    exact fun z => nomatch z
  | c :: r, S, 0, acc => by
    unfold TL.spl
    split
    · exact fun z => nomatch z
    · exact spl_ne r S 0 _
  | c :: r, S, k + 1, acc => by
    unfold TL.spl
    exact spl_ne r S k acc
theorem spl_len : ∀ (l : List Nat) (S : List Nat) (k : Nat) (acc : List Nat), ∀ y ∈ TL.spl S k acc l, y.length ≤ acc.length + l.length
  | [], S, k, acc, y, hy => by
    rw [TL.spl_nil] at hy
    rw [List.mem_singleton.mp hy]
    exact Nat.le_refl _
  | c :: r, S, 0, acc, y, hy => by
    unfold TL.spl at hy
    rw [List.length_cons]
    split at hy
    · rcases List.mem_cons.mp hy with rfl | hy
      · omega
      · have := spl_len r S _ [] y hy
        rw [List.length_nil] at this
        omega
    · have := spl_len r S 0 _ y hy
      rw [List.length_append] at this
      have e : [c].length = 1 := rfl
      omega
  | c :: r, S, k + 1, acc, y, hy => by
    unfold TL.spl at hy
    have := spl_len r S k acc y hy
    rw [List.length_cons]
    omega
theorem split_len {z y : Str} (hy : y.cps.toList ≠ []) (hk : y.cps.all (· < 256) = true) : ∀ x ∈ Txt.split z y, x.length ≤ z.length := fun x hx => by
  have h := TL.split_spl z y hy (TL.kind_ok hk)
  have m : TL.tl x ∈ (Txt.split z y).map TL.tl := List.mem_map.mpr ⟨x, hx, rfl⟩
  rw [h] at m
  have l := spl_len _ _ _ _ _ m
  rw [List.length_nil, Nat.zero_add] at l
  exact l
theorem cut_init (xs : List V) (y : V) : cutV (xs ++ [y]) none (some (-1)) = xs := by
  unfold cutV HT.sIx
  simp
  rw [show (-1 + ((xs.length : Int) + 1)).toNat = xs.length by omega, List.take_left]
theorem str_nil {y : Str} : (y.length : Int) = 0 ↔ y = "" := by
  obtain ⟨c⟩ := y
  have e : (Str.ofString "") = ⟨#[]⟩ := by decide +kernel
  show ((c.size : Nat) : Int) = 0 ↔ (⟨c⟩ : Str) = Str.ofString ""
  rw [e]
  constructor
  · intro h
    rw [Array.size_eq_zero_iff.mp (by omega : c.size = 0)]
  · intro h
    injection h with h
    rw [h]
    rfl
theorem str_tru {y : Str} : decide (y ≠ "") = ((y.length : Int) != 0) := by
  rw [Bool.eq_iff_iff]
  simp only [decide_eq_true_eq, bne_iff_ne, ne_eq, str_nil]
theorem split_ne {z y : Str} (hy : y.cps.toList ≠ []) (hk : y.cps.all (· < 256) = true) : Txt.split z y ≠ [] := fun e => by
  have h := TL.split_spl z y hy (TL.kind_ok hk)
  rw [e] at h
  exact spl_ne _ _ _ _ h.symm
section
variable {P : Program} {w : World} {K : PySem.W.Frag} {mg : Str → Option PySem.Value} {base : Heap} {f : Addr} {fd : FuncData} {H H' : Hp}
def spWo : Sp := fun vs H Q _ => ∃ z : Str, vs = [.str z] ∧ z.length ≤ 1000000 ∧ ∀ p H', Same H H' → H p = none → H' p = some (.lst ((Txt.split z " ").map V.str)) → Q (.ref p) H'
theorem scWo : FnScope ["line"] ["line"] (defScope (top 17)) := ⟨rfl, rfl, rfl, by decide +kernel, rfl, by decide +kernel, by decide +kernel⟩
theorem ok_wo (F : FnT K "words_of" 17 f fd) : FnOk P w K mg base CX0 1 f fd ["line"] spWo := by
  refine F.ok scWo (fun vs H Q E h => by obtain ⟨z, rfl, _⟩ := h; rfl) (fun cdv A outer s0 H vs Q E hr h => ?_)
  obtain ⟨z, rfl, hz, q⟩ := h
  suffices z : ∃ t, PSs (cxOf CX0 P w K mg base ["line"] "words_of" (defScope (top 17)) f cdv A outer s0 H E).nox (defBody (top 17)) t ∧ t { nx := fun _ H' => Q .non H', rt := Q } (start ["line"] [.str z]) H by
    obtain ⟨t, h1, h2⟩ := z
    exact ⟨t, h1.nox, h2⟩
  refine ⟨_, pss_one (ps_ret (pe_split (pv 0) pe_str)), ?_⟩
  exact ⟨_, rfl, ⟨_, rfl⟩, z, _, rfl, rfl, rfl, (by rw [sizeLine_eq]; omega), fun p np => q p _ (same_upd np) np upd_same⟩
def spLi : Sp := fun vs H Q _ => ∃ z : Str, vs = [.str z] ∧ z.length ≤ 1000000 ∧ ∀ p H', Same H H' → H' p = some (.lst ((linesT z).map V.str)) → Q (.ref p) H'
theorem scLi : FnScope ["text", "lines"] ["text"] (defScope (top 16)) := ⟨rfl, rfl, rfl, by decide +kernel, rfl, by decide +kernel, by decide +kernel⟩
theorem ok_li (F : FnT K "lines_of" 16 f fd) : FnOk P w K mg base CX0 1 f fd ["text"] spLi := by
  refine F.ok scLi (fun vs H Q E h => by obtain ⟨z, rfl, _⟩ := h; rfl) (fun cdv A outer s0 H vs Q E hr h => ?_)
  obtain ⟨z, rfl, hz, q⟩ := h
  have nd := scLi.nd
  suffices z : ∃ t, PSs (cxOf CX0 P w K mg base ["text", "lines"] "lines_of" (defScope (top 16)) f cdv A outer s0 H E).nox (defBody (top 16)) t ∧ t { nx := fun _ H' => Q .non H', rt := Q } (start ["text", "lines"] [.str z]) H by
    obtain ⟨t, h1, h2⟩ := z
    exact ⟨t, h1.nox, h2⟩
  refine ⟨_, pss_cons (ps_asg (pe_split (pv 0) pe_str) (pg_name (i := 1) nd rfl (.inl rfl)))
    (pss_one (ps_ret (pe_ifExp (pt_truth (pe_ix ix_list (pv 1) (pe_un un_neg pe_int) (fun _ _ => rfl)) (by intro _; rfl)) (pv 1) (pe_slice sl_list (pv 1) po_none (po_some (pe_un un_neg pe_int)))))), ?_⟩
  refine ⟨_, rfl, ⟨_, rfl⟩, z, _, rfl, rfl, rfl, (by rw [sizeLine_eq]; omega), fun p np => ?_⟩
  have s1 := same_upd (o := .lst ((Txt.split z "\n").map V.str)) np
  have hp := upd_same (H := H) (a := p) (o := .lst ((Txt.split z "\n").map V.str))
  generalize upd H p (.lst ((Txt.split z "\n").map V.str)) = H1 at s1 hp ⊢
  have ne : Txt.split z "\n" ≠ [] := split_ne (by decide +kernel) (by decide +kernel)
  have ql := fun p H' s h => q p H' s (show H' p = some (.lst ((lastLine (Txt.split z "\n")).map V.str)) from h)
  clear q np
  have le : ∀ y ∈ Txt.split z "\n", y.length ≤ sizeLine := fun y hy => by
    have h := split_len (z := z) (y := "\n") (by decide +kernel) (by decide +kernel) y hy
    rw [sizeLine_eq]
    omega
  generalize Txt.split z "\n" = ls at hp ne ql le
  have sl : SqL K H1 p (ls.map V.str) := SqL.of hp
  obtain ⟨l0, y, rfl⟩ : ∃ l0 y, ls = l0 ++ [y] := ⟨ls.dropLast, ls.getLast ne, (List.dropLast_concat_getLast ne).symm⟩
  rw [List.map_append, List.map_cons, List.map_nil] at sl hp
  refine ⟨_, rfl, _, rfl, p, _, -1, .str y, rfl, rfl, sl, atI_last _ _, decide (y ≠ ""), ⟨le y (by simp), ?_⟩, ?_⟩
  · exact str_tru
  · have el : lastLine (l0 ++ [y]) = if y = "" then l0 else l0 ++ [y] := by
      unfold lastLine
      simp
    rw [el] at ql
    by_cases c : y = ""
    · rw [decide_eq_false (fun z => z c)]
      rw [if_pos c] at ql
      refine iteF ⟨_, rfl, 1, rfl, -1, rfl, p, _, rfl, sl, fun p2 n2 => ?_⟩
      have s2 := same_upd (o := .lst (cutV (l0.map V.str ++ [V.str y]) none (some (-1)))) n2
      refine ql p2 _ (same_trans s1 s2) ?_
      rw [upd_same, cut_init]
    · rw [decide_eq_true c]
      rw [if_neg c] at ql
      refine iteT ⟨_, rfl, ql p H1 s1 ?_⟩
      rw [List.map_append]
      exact hp
/-- a name, of a text -/
def spNm : Sp := fun vs H Q _ => ∃ x : Str, vs = [.str x] ∧ x.length ≤ 1000000 ∧ ∀ H', Same H H' → Q (.bl (isNm x)) H'
abbrev nNm : List Str := ["value", "sign"]
theorem scNm : FnScope nNm ["value"] (defScope (top 18)) := ⟨rfl, rfl, rfl, by decide +kernel, rfl, by decide +kernel, by decide +kernel⟩
theorem ok_nm (F : FnT K "is_name" 18 f fd) (TX : Txt mg) {tl tf : Tok} (gL : mg "SMALL_LETTERS" = some (.str lowS tl)) (gF : mg "FIGURES" = some (.str figS tf)) : FnOk P w K mg base CX0 1 f fd ["value"] spNm := by
  refine F.ok scNm (fun vs H Q E h => by obtain ⟨x, rfl, _⟩ := h; rfl) (fun cdv A outer s0 H vs Q E hr h => ?_)
  obtain ⟨x, rfl, hx, q⟩ := h
  have nd := scNm.nd
  have hu := hr.units
  suffices z : ∃ t, PSs (cxOf CX0 P w K mg base nNm "is_name" (defScope (top 18)) f cdv A outer s0 H E).nox (defBody (top 18)) t ∧ t { nx := fun _ H' => Q .non H', rt := Q } (start nNm [.str x]) H by
    obtain ⟨t, h1, h2⟩ := z
    exact ⟨t, h1.nox, h2⟩
  refine ⟨_, pss_cons (ps_if (PW.pt (pw_or (pt_not (pt_val (pe_callB call_isi (by rfl) TX.isi (by decide +kernel) (pa_cons (pv 0) (pa_cons (pe_bltn (by rfl) TX.str (by decide +kernel) (v := .ty "str") rfl) pa_nil))))) (pw_or (pt_not (pt_chain op_le op_le pe_int (pe_callB call_len_str (by rfl) TX.len PySem.boot_len (pa_cons (pv 0) pa_nil)) pe_int))
      (pw_or1 (pt_cmpR op_notIn_sign (pe_ix ix_str (pv 0) pe_int (fun _ _ => rfl)) (pe_glob (v := .str lowS) (by rfl) gL ⟨_, rfl⟩) (by rfl)))))) (pss_one (ps_ret pe_bl)) pss_nil)
    (pss_one (ps_ret (pe_callB (cr_all rfl) (by rfl) TX.all (by decide +kernel) (pa_cons (pe_lc (own := [("sign", 1)]) (g := gName 1) (tt := tYes) (te := tOrV (tOp (fun x y H Q => ∃ (c : Nat) (z : Str), x = .str ⟨#[c]⟩ ∧ y = .str z ∧ Q (.bl (decide (c ∈ z.cps.toList))) H) (tVar 1) (tC (.str lowS))) (tOp (fun x y H Q => ∃ (c : Nat) (z : Str), x = .str ⟨#[c]⟩ ∧ y = .str z ∧ Q (.bl (decide (c ∈ z.cps.toList))) H) (tVar 1) (tC (.str figS)))) (by rfl) nd (pi_str (pv 0)) (blkOk_by (own := [("sign", 1)]) (N := nNm) (sc := defScope (top 18)) (by decide +kernel)) (fun _ _ _ _ _ => pg_name (i := 1) nd rfl (Or.inl rfl)) (fun _ _ _ _ _ => pts_nil)
      (fun _ _ _ _ _ => pe_or (pe_cmpR op_in_sign (pv 1) (pe_glob (v := .str lowS) (by rfl) gL ⟨_, rfl⟩) (by rfl)) (pe_one (pe_cmpR op_in_sign (pv 1) (pe_glob (v := .str figS) (by rfl) gF ⟨_, rfl⟩) (by rfl))))) pa_nil)))), ?_⟩
  have hs : x.length ≤ sizeLine := by
    rw [sizeLine_eq]
    omega
  refine ⟨_, rfl, .str x, .ty "str", _, _, true, rfl, .ty _, .base (.str x), kit_ty (show kitB "str" "str" = some true by decide +kernel), true, rfl, iteF ?_⟩
  refine ⟨_, rfl, x, rfl, hs, 1, (x.length : Int), rfl, rfl, decide (1 ≤ (x.length : Int)), rfl, ?_⟩
  have fl : isNm x = false → ∀ H', Same H H' → Q (.bl false) H' := fun e H' s => by
    have := q H' s
    rwa [e] at this
  cases c1 : decide (1 ≤ (x.length : Int)) with
  | false =>
    refine iteF ⟨false, rfl, ?_⟩
    refine iteT (iteT ?_)
    exact fl (by unfold isNm; rw [c1]; rfl) H same_refl
  | true =>
    refine iteT ⟨(x.length : Int), 12, rfl, rfl, decide ((x.length : Int) ≤ 12), rfl, ?_⟩
    cases c2 : decide ((x.length : Int) ≤ 12) with
    | false =>
      refine iteT (iteT ?_)
      exact fl (by unfold isNm; rw [c1, c2]; rfl) H same_refl
    | true =>
      refine iteF ?_
      have l1 : 1 ≤ x.cps.size := by
        have := of_decide_eq_true c1
        have e : x.length = x.cps.size := rfl
        omega
      obtain ⟨c, hc⟩ : ∃ c, x.cps[0]? = some c := ⟨x.cps[0], Array.getElem?_eq_getElem l1⟩
      have at0 : atI x.cps.toList 0 = some c := atI_nat (j := 0) (by rw [Array.getElem?_toList]; exact hc)
      refine ⟨_, rfl, x, 0, c, rfl, rfl, hs, at0, c, lowS, rfl, rfl, _, rfl, ?_⟩
      cases c3 : decide (c ∈ lowS.cps.toList) with
      | false =>
        refine iteT ?_
        exact fl (by unfold isNm; rw [c1, c2, hc]; simp only [c3]; rfl) H same_refl
      | true =>
        refine iteF ?_
        refine ⟨_, rfl, x, rfl, fun D nD => ?_⟩
        refine lc_it (walk_str (z := x)) (fun j H' => Same H H' ∧ H' D = some (.lst (((x.cps.toList.take j).map signOk).map V.bl))) ⟨same_upd nD, upd_same⟩ (fun _ _ _ _ => trivial) ?_ ?_
        · rintro j y H2 H1 hj ⟨s1, hD⟩ ⟨rfl, c4, hc4, rfl⟩
          have nxt : (x.cps.toList.take (j + 1)) = x.cps.toList.take j ++ [c4] := by
            rw [List.take_add_one, show x.cps.toList[j]? = some c4 by rw [Array.getElem?_toList]; exact hc4]
            rfl
          have fin : ∃ acc, H1 D = some (.lst acc) ∧ acc.length < sizeLine ∧ Same H (upd H1 D (.lst (acc ++ [V.bl (signOk c4)]))) ∧ upd H1 D (.lst (acc ++ [V.bl (signOk c4)])) D = some (.lst (((x.cps.toList.take (j + 1)).map signOk).map V.bl)) := by
            refine ⟨_, hD, ?_, fun b o e => ?_, ?_⟩
            · rw [List.length_map, List.length_map, List.length_take, sizeLine_eq]
              have e : x.length = x.cps.size := rfl
              omega
            · rw [upd_ne (ne_of_none e nD)]
              exact s1 _ _ e
            · rw [upd_same, nxt, List.map_append, List.map_append]
              rfl
          refine ⟨rfl, yes_if ⟨_, rfl, c4, lowS, rfl, rfl, _, rfl, ?_⟩⟩
          unfold signOk at fin
          cases c5 : decide (c4 ∈ lowS.cps.toList) with
          | true =>
            rw [c5, Bool.true_or] at fin
            exact iteT fin
          | false =>
            rw [c5, Bool.false_or] at fin
            exact iteF ⟨_, rfl, c4, figS, rfl, rfl, fin⟩
        · rintro H1 ⟨s1, hD⟩
          have e : x.cps.toList.take x.cps.size = x.cps.toList := List.take_of_length_le (by rw [Array.length_toList]; exact Nat.le_refl _)
          rw [e] at hD
          refine ⟨D, x.cps.toList.map signOk, rfl, SqL.of hD, ?_⟩
          have e2 : isNm x = (x.cps.toList.map signOk).all id := by
            unfold isNm
            rw [c1, c2, hc]
            simp only [c3, Bool.true_and, List.all_map]
            rfl
          rw [← e2]
          exact q H1 s1
end
end K23

set_option Elab.async false
set_option linter.all false
set_option maxRecDepth 100000
set_option maxHeartbeats 4000000
namespace K23
open PySem PySem.Spec PyProof.Rows L2 Pen Tr AK LamX RL
/-! ### names of a line -/
/-- rows of words -/
def RowsL (K : PySem.W.Frag) (H : Hp) (rows : List (List Str)) (xs : List V) : Prop := Paired (fun (r : List Str) (v : V) => ∃ q, v = .ref q ∧ SqL K H q (r.map V.str)) rows xs
structure LnAt (K : PySem.W.Frag) (H : Hp) (a : Addr) (rows : List (List Str)) : Prop where
  ex : ∃ xs, SqL K H a xs ∧ RowsL K H rows xs
  ne : ∀ r ∈ rows, r ≠ []
  sh : ∀ r ∈ rows, ∀ x ∈ r, x.length ≤ 1000000
  few : rows.length ≤ 100000 ∧ ∀ r ∈ rows, r.length ≤ 100000
def nmBad (most : Nat) (rest : List Str) (i : Nat) : Bool := decide (i = most) || (!isNm (rest.getD i "") || (rest.take i).contains (rest.getD i ""))
def nmFirst (most : Nat) (rest : List Str) : Option Nat := (List.range rest.length).find? (nmBad most rest)
inductive Got (α : Type) where
  | ok (x : α)
  | bad (l c : Nat)
def namesR (rows : List (List Str)) (number : Nat) (word : Str) (most : Nat) : Got (List Str) := match rows[number - 1]? with
  | none => .bad number 1
  | some r => if r.headD "" ≠ word then .bad number 1 else match nmFirst most r.tail with
    | some i => .bad number (i + 2)
    | none => if r.tail = [] then .bad number 2 else .ok r.tail
def numK (ns : List Str) : List (Key × V) := ns.zipIdx.map fun p => (Sum.inr p.1, V.int (p.2 : Nat))
theorem namesR_at {rows : List (List Str)} {number most : Nat} {word w0 : Str} {rest : List Str} (h : rows[number - 1]? = some (w0 :: rest)) : namesR rows number word most = if w0 ≠ word then .bad number 1 else match nmFirst most rest with
    | some i => .bad number (i + 2)
    | none => if rest = [] then .bad number 2 else .ok rest := by
  unfold namesR
  rw [h]
  rfl
theorem nmFirst_at {most i : Nat} {rest : List Str} (hi : i < rest.length) (ok : ∀ k, k < i → nmBad most rest k = false) (b : nmBad most rest i = true) : nmFirst most rest = some i := by
  unfold nmFirst
  rw [List.find?_range_eq_some]
  exact ⟨b, List.mem_range.mpr hi, fun j hj => by rw [ok j hj]; rfl⟩
theorem nmFirst_no {most : Nat} {rest : List Str} (ok : ∀ k, k < rest.length → nmBad most rest k = false) : nmFirst most rest = none := by
  unfold nmFirst
  rw [List.find?_eq_none]
  intro k hk
  rw [ok k (List.mem_range.mp hk)]
  exact Bool.false_ne_true
theorem pairW {α β : Type} {F : α → β → Prop} : ∀ {l₁ : List α} {l₂ : List β} {j : Nat} {x : β}, Paired F l₁ l₂ → l₂[j]? = some x → ∃ y, l₁[j]? = some y ∧ F y x
  | _, _, _, _, .nil, h => by simp at h
  | _, _, 0, _, .cons h1 _, h => by
    obtain rfl := Option.some.inj h
    exact ⟨_, rfl, h1⟩
  | _, _, j + 1, _, .cons _ h2, h => by
    obtain ⟨y, h3, h4⟩ := pairW (j := j) h2 (by simpa using h)
    exact ⟨y, by simpa using h3, h4⟩
theorem numK_snoc (ns : List Str) (x : Str) : numK (ns ++ [x]) = numK ns ++ [(Sum.inr x, V.int (ns.length : Nat))] := by
  unfold numK
  rw [List.zipIdx_append, List.map_append]
  simp
theorem numK_len (ns : List Str) : (numK ns).length = ns.length := by
  unfold numK
  rw [List.length_map, List.length_zipIdx]
theorem numK_any (ns : List Str) (x : Str) : ((numK ns).any fun kv => decide (kv.1 = (Sum.inr x : Key))) = ns.contains x := by
  unfold numK
  generalize 0 = k
  induction ns generalizing k with
  | nil => rfl
  | cons y ns ih =>
    rw [List.zipIdx_cons, List.map_cons, List.any_cons, ih, List.contains_cons]
    congr 1
    rw [Bool.beq_eq_decide_eq]
    exact decide_eq_decide.mpr ⟨fun h => (Sum.inr.inj h).symm, fun h => by rw [h]⟩
theorem numK_put {ns : List Str} {x : Str} (h : ns.contains x = false) : putK (numK ns) (Sum.inr x) (V.int (ns.length : Nat)) = numK (ns ++ [x]) := by
  unfold putK
  rw [numK_any, h, if_neg Bool.false_ne_true, numK_snoc]
section
variable {P : Program} {w : World} {K : PySem.W.Frag} {mg : Str → Option PySem.Value} {base : Heap} {f CB fN : Addr} {fd fdN : FuncData} {H H' : Hp}
theorem LnAt.same {a : Addr} {rows : List (List Str)} (l : LnAt K H a rows) (s : Same H H') : LnAt K H' a rows := by
  obtain ⟨xs, h1, h2⟩ := l.ex
  exact ⟨⟨xs, Kp.sql (Kp.same s) h1, Paired.mapP h2 fun r v ⟨q, e, h⟩ => ⟨q, e, Kp.sql (Kp.same s) h⟩⟩, l.ne, l.sh, l.few⟩
/-- BadText(l, c) -/
def BadE (CB : Addr) (E : XK) (H : Hp) (l c : Nat) : Prop := ∀ dd H', Same H H' → H' dd = some (.xd [("column", .int (c : Nat)), ("line", .int (l : Nat))]) → E (.ref CB) (some dd) H'
def spNs (K : PySem.W.Frag) (CB : Addr) : Sp := fun vs H Q E => ∃ a rows, ∃ number most : Nat, ∃ word : Str, vs = [.ref a, .int number, .str word, .int most] ∧ LnAt K H a rows ∧ 1 ≤ number ∧ number ≤ 2 ∧ most ≤ 9 ∧
  match namesR rows number word most with
  | .ok ns => ∀ d H', Same H H' → H' d = some (.dK (numK ns)) → Q (.ref d) H'
  | .bad l c => BadE CB E H l c
abbrev nNs : List Str := ["lines", "number", "word", "most", "names", "column", "name"]
theorem scNs : FnScope nNs ["lines", "number", "word", "most"] (defScope (top 24)) := ⟨rfl, rfl, rfl, by decide +kernel, rfl, by decide +kernel, by decide +kernel⟩
theorem ok_ns (F : FnT K "names_of_line" 24 f fd) (TX : Txt mg) (EB : Er P w K mg base "BadText" CB ["line", "column"]) (FN : FnT K "is_name" 18 fN fdN) (gN : mg "is_name" = some (.ref fN)) (GN : FnOk P w K mg base CX0 1 fN fdN ["value"] spNm) : FnOk P w K mg base (L2.CX P w) 3 f fd ["lines", "number", "word", "most"] (spNs K CB) := by
  refine F.ok scNs (fun vs H Q E h => by obtain ⟨a, rows, n, m, wd, rfl, _⟩ := h; rfl) (fun cdv A outer s0 H vs Q E hr h => ?_)
  obtain ⟨a, rows, number, most, word, rfl, ln, n1, n2, m9, q⟩ := h
  have nd := scNs.nd
  have hu := hr.units
  have hu1 := hu_of hr
  have bN : L2.Binds K fdN ["value"] [] := FunD.bindsN FN fun _ _ _ _ _ _ us hl => match us, hl with | [_], _ => rfl
  refine ⟨_, pss_cons (ps_if (PW.pt (pw_or (pt_cmpR op_lt (pe_callB call_len_seq (by rfl) TX.len PySem.boot_len (pa_cons (pv 0) pa_nil)) (pv 1) (nomark _)) (pw_or1 (pt_cmpR op_ne (pe_ix ix_list (pe_ix ix_list (pv 0) (pe_op op_sub (pv 1) pe_int) (fun _ _ => rfl)) pe_int (fun _ _ => rfl)) (pv 2) (nomark _)))))
      (pss_one (ps_raise rfl (takes_of rfl rfl rfl rfl) (pmk_er EB hr (by rfl) (pa_cons (pv 1) (pa_cons pe_int pa_nil))))) pss_nil)
    (pss_cons (ps_asg pe_dnewK (pg_name (i := 4) nd rfl (.inl rfl)))
    (pss_cons (ps_for (passes_of rfl) rfl (pi_enumKL (by rfl) TX.enum (pa_cons (pe_slice sl_list (pe_ix ix_list (pv 0) (pe_op op_sub (pv 1) pe_int) (fun _ _ => rfl)) (po_some pe_int) po_none) pa_nil) pe_int (by decide) (by decide)) (pg_tup (by rfl) (pgs_cons (pg_name (i := 5) nd rfl (.inl rfl)) (pgs_cons (pg_name (i := 6) nd rfl (.inl rfl)) pgs_nil)))
      (pss_cons (ps_if (PW.pt (pw_or (pt_cmpR op_eq (pe_callB call_lenD (by rfl) TX.len PySem.boot_len (pa_cons (pv 4) pa_nil)) (pv 3) (nomark _)) (pw_or (pt_not (pt_val (pe_call GN (hr.mono (by decide)) (by rfl) gN FN.kp bN .nil pass0 (pa_cons (pv 6) pa_nil)))) (pw_or1 (pt_cmp (pc_din hu1 (pv 6) (pv 4)))))))
          (pss_one (ps_raise rfl (takes_of rfl rfl rfl rfl) (pmk_er EB hr (by rfl) (pa_cons (pv 1) (pa_cons (pv 5) pa_nil))))) pss_nil)
      (pss_one (ps_dput hu1 (pv 4) (pv 6) (pe_callB call_lenD (by rfl) TX.len PySem.boot_len (pa_cons (pv 4) pa_nil)) rfl))))
    (pss_cons (ps_if (pt_not (pt_truth (pv 4) (by intro _; rfl))) (pss_one (ps_raise rfl (takes_of rfl rfl rfl rfl) (pmk_er EB hr (by rfl) (pa_cons (pv 1) (pa_cons pe_int pa_nil))))) pss_nil)
    (pss_one (ps_ret (pv 4)))))), ?_⟩
  clear bN
  obtain ⟨xs, hx, hrw⟩ := ln.ex
  have xl := Paired.length hrw
  refine ⟨_, rfl, a, xs, rfl, .inl hx, _, rfl, (xs.length : Int), number, rfl, rfl, decide ((xs.length : Int) < number), rfl, ?_⟩
  cases c1 : decide ((xs.length : Int) < number) with
  | true =>
    have z : rows[number - 1]? = none := List.getElem?_eq_none (by have := of_decide_eq_true c1; omega)
    unfold namesR at q
    rw [z] at q
    exact iteT (iteT ⟨_, rfl, raise_sp rfl (by decide) fun dd hd H2 s2 e2 => q dd H2 s2 e2⟩)
  | false =>
    have few := of_decide_eq_false c1
    obtain ⟨r, hr1⟩ : ∃ r, rows[number - 1]? = some r := ⟨rows[number - 1]'(by omega), List.getElem?_eq_getElem _⟩
    obtain ⟨v, hv⟩ : ∃ v, xs[number - 1]? = some v := ⟨xs[number - 1]'(by omega), List.getElem?_eq_getElem _⟩
    obtain ⟨r2, hr2, qr, rfl, hqr⟩ := pairW hrw hv
    rw [hr1] at hr2
    cases hr2
    have mr := List.mem_of_getElem? hr1
    obtain ⟨w0, rest, rfl⟩ : ∃ w0 rest, r = w0 :: rest := by
      cases r with
      | nil => exact absurd rfl (ln.ne _ mr)
      | cons x l => exact ⟨x, l, rfl⟩
    have at1 : atI xs ((number : Int) - 1) = some (.ref qr) := by
      rw [show (number : Int) - 1 = ((number - 1 : Nat) : Int) by omega]
      exact atI_nat hv
    rw [namesR_at hr1] at q
    refine iteF ⟨_, rfl, _, rfl, number, 1, rfl, rfl, a, xs, _, .ref qr, rfl, rfl, hx, at1, qr, _, 0, .str w0, rfl, rfl, hqr, atI_nat (j := 0) rfl, _, rfl, rfl, !decide (V.str w0 = V.str word), rfl, ?_⟩
    by_cases c2 : w0 = word
    · rw [if_neg (fun z => z c2)] at q
      rw [decide_eq_true (congrArg V.str c2)]
      refine iteF (fun d nd4 => ?_)
      have s1 := same_upd (o := .dK []) nd4
      have hd1 := upd_same (H := H) (a := d) (o := .dK [])
      generalize upd H d (.dK []) = H1 at s1 hd1 ⊢
      refine ⟨_, rfl, _, rfl, number, 1, rfl, rfl, a, xs, _, .ref qr, rfl, rfl, Kp.sql (Kp.same s1) hx, at1, 1, rfl, qr, _, rfl, Kp.sql (Kp.same s1) hqr, fun L nL => ?_⟩
      have ecut : cutV ((w0 :: rest).map V.str) (some 1) none = rest.map V.str := cut_drop (xs := (w0 :: rest).map V.str) (n := 1) (by simp)
      rw [ecut] at *
      have s2 := same_upd (o := .lst (rest.map V.str)) nL
      have hL := upd_same (H := H1) (a := L) (o := .lst (rest.map V.str))
      have hd2 := s2 _ _ hd1
      have s02 := same_trans s1 s2
      generalize upd H1 L (.lst (rest.map V.str)) = H2 at s02 hL hd2 ⊢
      clear s1 s2 nL hd1
      have sh : ∀ x ∈ rest, x.length ≤ 1000000 := fun x hx => ln.sh _ mr x (List.mem_cons_of_mem _ hx)
      have fr : rest.length ≤ 100000 := by
        have := ln.few.2 _ mr
        rw [List.length_cons] at this
        omega
      have ndL : d ≠ L := ne_of hd2 hL fun z => nomatch z
      have ndH : ∀ b o, H b = some o → b ≠ d := fun b o e => ne_of_none e nd4
      refine ⟨L, _, rfl, SqL.of hL, ?_⟩
      refine for_it (walk_enumL (k := 2) (K := K) (a := L) (xs := rest.map V.str)) (fun i σ H' => (∃ o5 o6, σ = [some (.ref a), some (.int number), some (.str word), some (.int most), some (.ref d), o5, o6]) ∧ Same H H' ∧ H' L = some (.lst (rest.map V.str)) ∧ H' d = some (.dK (numK (rest.take i))) ∧ ∀ k, k < i → nmBad most rest k = false)
        ⟨⟨none, none, rfl⟩, s02, hL, hd2, fun _ h => absurd h (Nat.not_lt_zero _)⟩ (fun i σ H' _ p => SqL.of p.2.2.1) ?_ ?_
      · rintro i y σ H5 H4 hi ⟨⟨o5, o6, rfl⟩, s4, hL4, hd4, ok⟩ ⟨Tp, x1, x2, rfl, nT, rfl, ex, ey⟩
        cases ex
        rw [List.length_map] at hi
        have ey : (rest.map V.str)[i]? = some x2 := ey
        rw [List.getElem?_map] at ey
        obtain ⟨nm, hnm, rfl⟩ := Option.map_eq_some_iff.mp ey
        have s5 := same_upd (o := .tup [.int (2 + (i : Nat)), .str nm]) nT
        refine ⟨Tp, _, rfl, SqT.of upd_same, rfl, _, _, rfl, _, _, rfl, rfl, ?_⟩
        have hL5 := s5 _ _ hL4
        have hd5 := s5 _ _ hd4
        have s05 := same_trans s4 s5
        generalize upd H5 Tp (.tup [.int (2 + (i : Nat)), .str nm]) = H6 at hL5 hd5 s05 ⊢
        have tl : (rest.take i).length = i := by rw [List.length_take]; omega
        have gd : rest.getD i "" = nm := by rw [List.getD_eq_getElem?_getD, hnm]; rfl
        have key : ∀ H7, Same H6 H7 → nmBad most rest i = true → BadE CB E H7 number (2 + i) := fun H7 s7 b => by
          rw [nmFirst_at hi ok b] at q
          intro dd H8 s8 e8
          refine q dd H8 (same_trans s05 (same_trans s7 s8)) ?_
          rw [e8, Nat.add_comm]
        refine ⟨_, rfl, d, _, rfl, hd5, _, rfl, rfl, decide (V.int ((numK (rest.take i)).length : Nat) = V.int most), rfl, ?_⟩
        rw [numK_len, tl]
        by_cases c3 : i = most
        · rw [decide_eq_true (by rw [c3])]
          refine iteT (iteT ⟨_, rfl, _, rfl, raise_sp rfl (by decide) fun dd hd H8 s8 e8 => key H6 same_refl (by unfold nmBad; rw [decide_eq_true c3]; rfl) dd H8 s8 e8⟩)
        · rw [decide_eq_false (fun z => c3 (by injection z; omega))]
          refine iteF ⟨_, rfl, nm, rfl, sh nm (List.mem_of_getElem? hnm), fun H7 s7 => ⟨isNm nm, rfl, ?_⟩⟩
          cases c4 : isNm nm with
          | false =>
            refine iteT (iteT ⟨_, rfl, _, rfl, raise_sp rfl (by decide) fun dd hd H8 s8 e8 => key H7 s7 (by unfold nmBad; rw [gd, c4]; simp) dd H8 s8 e8⟩)
          | true =>
            have hd7 := s7 _ _ hd5
            have e5 : (valV (numK (rest.take i)) (Sum.inr nm)).isSome = (rest.take i).contains nm := by rw [← valV_any, numK_any]
            refine iteF ⟨_, rfl, _, rfl, d, valV (numK (rest.take i)) (Sum.inr nm), rfl, .inl ⟨_, .inr nm, .inl hd7, rfl, rfl⟩, _, rfl, ?_⟩
            rw [e5]
            cases c5 : (rest.take i).contains nm with
            | true =>
              refine iteT ⟨_, rfl, _, rfl, raise_sp rfl (by decide) fun dd hd H8 s8 e8 => key H7 s7 (by unfold nmBad; rw [gd, c5]; simp) dd H8 s8 e8⟩
            | false =>
              refine iteF ⟨_, rfl, d, _, rfl, hd7, _, rfl, _, rfl, d, _, rfl, .inl ⟨_, .inr nm, hd7, rfl, ?_, rfl⟩, ?_⟩
              · rw [numK_len, tl, sizeLine_eq]
                omega
              · rw [numK_len, tl]
                have nxt : rest.take (i + 1) = rest.take i ++ [nm] := by
                  rw [List.take_add_one, hnm]
                  rfl
                have pt := numK_put c5
                rw [tl] at pt
                refine ⟨⟨_, _, rfl⟩, fun b o e => ?_, ?_, ?_, fun k hk => ?_⟩
                · rw [upd_ne (ndH b o e)]
                  exact s7 _ _ (s05 _ _ e)
                · rw [upd_ne (Ne.symm ndL)]
                  exact s7 _ _ hL5
                · rw [upd_same, pt, nxt]
                · by_cases e : k = i
                  · subst e
                    unfold nmBad
                    rw [gd, c4, c5, decide_eq_false c3]
                    rfl
                  · exact ok k (by omega)
      · rintro σ H4 ⟨⟨o5, o6, rfl⟩, s4, hL4, hd4, ok⟩
        rw [List.length_map] at ok hd4
        rw [List.take_length] at hd4
        rw [nmFirst_no ok] at q
        refine ⟨_, rfl, !(numK rest).isEmpty, .inr (.inr ⟨_, hd4, rfl⟩), ?_⟩
        cases rest with
        | nil =>
          rw [if_pos rfl] at q
          refine iteT ⟨_, rfl, raise_sp rfl (by decide) fun dd hd H8 s8 e8 => q dd H8 (same_trans s4 s8) e8⟩
        | cons x1 l1 =>
          rw [if_neg (fun z => nomatch z)] at q
          refine iteF ?_
          exact ⟨_, rfl, q d H4 s4 hd4⟩
    · rw [if_pos c2] at q
      rw [decide_eq_false (fun z => c2 (by injection z))]
      exact iteT ⟨_, rfl, raise_sp rfl (by decide) fun dd hd H2 s2 e2 => q dd H2 s2 e2⟩
end
end K23

set_option Elab.async false
set_option linter.all false
set_option maxRecDepth 100000
set_option maxHeartbeats 4000000
namespace K23
open PySem PySem.Spec PyProof.Rows L2 Pen Tr AK LamX RL
/-! ### marks -/
abbrev Mks := List (Str × Nat)
def mkK (ms : Mks) : List (Key × V) := ms.map fun p => (Sum.inr p.1, V.int (p.2 : Nat))
def mkS (st : Mks × Nat) (r : List Str) : Mks × Nat := if r.headD "" ≠ "at" then (st.1, st.2 + 1) else match r.tail with
  | [] => st
  | x :: _ => if isNm x = true then (if (st.1.any fun p => decide (p.1 = x)) = true then st else (st.1 ++ [(x, st.2)], st.2)) else st
def mkF (rows : List (List Str)) : Mks × Nat := rows.foldl mkS ([], 0)
def marksR (rows : List (List Str)) : Mks := (mkF (rows.drop 2)).1
theorem mkF_snoc {rows : List (List Str)} {j : Nat} {r : List Str} (h : rows[j]? = some r) : mkF (rows.take (j + 1)) = mkS (mkF (rows.take j)) r := by
  unfold mkF
  rw [List.take_add_one, h, List.foldl_append]
  rfl
theorem mkS_len (st : Mks × Nat) (r : List Str) : (mkS st r).1.length ≤ st.1.length + 1 ∧ (mkS st r).2 ≤ st.2 + 1 := by
  unfold mkS
  split
  · exact ⟨Nat.le_succ _, Nat.le_refl _⟩
  · split
    · exact ⟨Nat.le_succ _, Nat.le_succ _⟩
    · split
      · split
        · exact ⟨Nat.le_succ _, Nat.le_succ _⟩
        · refine ⟨?_, Nat.le_succ _⟩
          rw [List.length_append]
          exact Nat.le_refl _
      · exact ⟨Nat.le_succ _, Nat.le_succ _⟩
theorem mkF_len (rows : List (List Str)) : ∀ j, (mkF (rows.take j)).1.length ≤ j
  | 0 => Nat.le_refl 0
  | j + 1 => by
    have ih := mkF_len rows j
    cases h : rows[j]? with
    | none =>
      have e : rows.take (j + 1) = rows.take j := by rw [List.take_add_one, h]; simp
      rw [e]
      omega
    | some r =>
      rw [mkF_snoc h]
      have := (mkS_len (mkF (rows.take j)) r).1
      omega
theorem paired_drop {α β : Type} {F : α → β → Prop} : ∀ {l1 : List α} {l2 : List β} (n : Nat), Paired F l1 l2 → Paired F (l1.drop n) (l2.drop n)
  | _, _, 0, h => h
  | _, _, n + 1, .nil => .nil
  | _, _, n + 1, .cons _ t => paired_drop n t
theorem mkK_any (ms : Mks) (x : Str) : ((mkK ms).any fun kv => decide (kv.1 = (Sum.inr x : Key))) = ms.any fun p => decide (p.1 = x) := by
  induction ms with
  | nil => rfl
  | cons y ms ih =>
    show (decide ((Sum.inr y.1 : Key) = Sum.inr x) || (mkK ms).any _) = (decide (y.1 = x) || _)
    rw [ih]
    congr 1
    exact decide_eq_decide.mpr ⟨Sum.inr.inj, fun h => by rw [h]⟩
theorem mkK_put {ms : Mks} {x : Str} {n : Nat} (h : (ms.any fun p => decide (p.1 = x)) = false) : putK (mkK ms) (Sum.inr x) (V.int (n : Nat)) = mkK (ms ++ [(x, n)]) := by
  unfold putK
  rw [mkK_any, h, if_neg Bool.false_ne_true]
  unfold mkK
  rw [List.map_append]
  rfl
section
variable {P : Program} {w : World} {K : PySem.W.Frag} {mg : Str → Option PySem.Value} {base : Heap} {f CB fN : Addr} {fd fdN : FuncData} {H H' : Hp}
def spMks (K : PySem.W.Frag) : Sp := fun vs H Q _ => ∃ a rows, vs = [.ref a] ∧ LnAt K H a rows ∧ 2 ≤ rows.length ∧ ∀ d H', Same H H' → H d = none → H' d = some (.dK (mkK (marksR rows))) → Q (.ref d) H'
abbrev nMks : List Str := ["lines", "marks", "orders", "words"]
theorem scMks : FnScope nMks ["lines"] (defScope (top 25)) := ⟨rfl, rfl, rfl, by decide +kernel, rfl, by decide +kernel, by decide +kernel⟩
theorem ok_mks (F : FnT K "marks_of" 25 f fd) (TX : Txt mg) (FN : FnT K "is_name" 18 fN fdN) (gN : mg "is_name" = some (.ref fN)) (GN : FnOk P w K mg base CX0 1 fN fdN ["value"] spNm) : FnOk P w K mg base CX0 2 f fd ["lines"] (spMks K) := by
  refine F.ok scMks (fun vs H Q E h => by obtain ⟨a, rows, rfl, _⟩ := h; rfl) (fun cdv A outer s0 H vs Q E hr h => ?_)
  obtain ⟨a, rows, rfl, ln, r2, q⟩ := h
  have nd := scMks.nd
  have hu := hr.units
  have hu1 := hu_of hr
  have bN : L2.Binds K fdN ["value"] [] := FunD.bindsN FN fun _ _ _ _ _ _ us hl => match us, hl with | [_], _ => rfl
  suffices z : ∃ t, PSs (cxOf CX0 P w K mg base nMks "marks_of" (defScope (top 25)) f cdv A outer s0 H E).nox (defBody (top 25)) t ∧ t { nx := fun _ H' => Q .non H', rt := Q } (start nMks [.ref a]) H by
    obtain ⟨t, h1, h2⟩ := z
    exact ⟨t, h1.nox, h2⟩
  refine ⟨_, pss_cons (ps_asg pe_dnewK (pg_name (i := 1) nd rfl (.inl rfl)))
    (pss_cons (ps_set (i := 2) nd rfl (.inl rfl) pe_int)
    (pss_cons (ps_for PassesOwn.never rfl (pi_list (pe_slice sl_list (pv 0) (po_some pe_int) po_none)) (pg_name (i := 3) nd rfl (.inl rfl))
      (pss_one (ps_if (pt_cmpR op_ne (pe_ix ix_list (pv 3) pe_int (fun _ _ => rfl)) pe_str (nomark _)) (pss_one (ps_aug (i := 2) nd rfl (.inl rfl) pe_int ip_add))
        (pss_one (ps_if (PW.pt (pw_and (pt_cmpR op_gt (pe_callB call_len_seq (by rfl) TX.len PySem.boot_len (pa_cons (pv 3) pa_nil)) pe_int (nomark _)) (pw_and1 (pt_val (pe_call GN hr (by rfl) gN FN.kp bN .nil pass0 (pa_cons (pe_ix ix_list (pv 3) pe_int (fun _ _ => rfl)) pa_nil))))))
          (pss_one (ps_expr (pe_dsetd (pv 1) (pe_ix ix_list (pv 3) pe_int (fun _ _ => rfl)) (pv 2) ⟨rfl, rfl, rfl, rfl⟩))) pss_nil)))))
    (pss_one (ps_ret (pv 1))))), ?_⟩
  clear bN
  obtain ⟨xs, hx, hrw⟩ := ln.ex
  refine fun d nd1 => ?_
  have s1 := same_upd (o := .dK []) nd1
  have hd1 := upd_same (H := H) (a := d) (o := .dK [])
  generalize upd H d (.dK []) = H1 at s1 hd1 ⊢
  refine ⟨_, rfl, 2, rfl, a, xs, rfl, Kp.sql (Kp.same s1) hx, fun L nL => ?_⟩
  have xl := Paired.length hrw
  have ecut : cutV xs (some 2) none = xs.drop 2 := cut_drop (xs := xs) (n := 2) (by omega)
  have s2 := same_upd (o := .lst (cutV xs (some 2) none)) nL
  have hL := upd_same (H := H1) (a := L) (o := .lst (cutV xs (some 2) none))
  have hd2 := s2 _ _ hd1
  have s02 := same_trans s1 s2
  have ndH : ∀ b o, H b = some o → b ≠ d := fun b o e => ne_of_none e nd1
  generalize upd H1 L (.lst (cutV xs (some 2) none)) = H2 at s02 hL hd2 ⊢
  rw [ecut] at hL
  clear s1 s2 nL hd1 ecut
  have ndL : d ≠ L := ne_of hd2 hL fun z => nomatch z
  have rw2 : RowsL K H (rows.drop 2) (xs.drop 2) := paired_drop 2 hrw
  have xl2 : (xs.drop 2).length = (rows.drop 2).length := (Paired.length rw2).symm
  refine ⟨L, rfl, ⟨_, SqL.of hL⟩, ?_⟩
  refine for_it (walk_list (K := K) (a := L) (xs := xs.drop 2)) (fun j σ H' => ∃ o3, σ = [some (.ref a), some (.ref d), some (.int ((mkF ((rows.drop 2).take j)).2 : Nat)), o3] ∧ Same H H' ∧ H' L = some (.lst (xs.drop 2)) ∧ H' d = some (.dK (mkK (mkF ((rows.drop 2).take j)).1)))
    ⟨none, rfl, s02, hL, hd2⟩ (fun j σ H' _ ⟨_, _, _, h, _⟩ => SqL.of h) ?_ ?_
  · rintro j y σ H5 H4 hj ⟨o3, rfl, s4, hL4, hd4⟩ ⟨rfl, hy⟩
    obtain ⟨r, hr1, qr, rfl, hqr0⟩ := pairW rw2 hy
    have hqr := Kp.sql (Kp.same s4) hqr0
    have mr : r ∈ rows := List.mem_of_mem_drop (List.mem_of_getElem? hr1)
    have nxt := mkF_snoc hr1
    have ml := mkF_len (rows.drop 2) j
    have shr := ln.sh _ mr
    obtain ⟨w0, rest, rfl⟩ : ∃ w0 rest, r = w0 :: rest := by
      cases r with
      | nil => exact absurd rfl (ln.ne _ mr)
      | cons x l => exact ⟨x, l, rfl⟩
    refine ⟨_, rfl, qr, _, 0, .str w0, rfl, rfl, hqr, atI_nat (j := 0) rfl, rfl, !decide (V.str w0 = V.str "at"), rfl, ?_⟩
    by_cases c1 : w0 = "at"
    · rw [decide_eq_true (congrArg V.str c1)]
      refine iteF ⟨_, rfl, qr, _, rfl, .inl hqr, _, 1, rfl, rfl, decide (1 < (((w0 :: rest).map V.str).length : Int)), rfl, ?_⟩
      have fr := ln.few.1
      cases rest with
      | nil =>
        have e : mkS (mkF ((rows.drop 2).take j)) [w0] = mkF ((rows.drop 2).take j) := by
          unfold mkS
          rw [if_neg (fun z => z c1)]
          rfl
        rw [e] at nxt
        refine iteF ⟨some (.ref qr), ?_, s4, hL4, ?_⟩
        · rw [nxt]
          rfl
        · rw [nxt]
          exact hd4
      | cons x1 l1 =>
        have e : mkS (mkF ((rows.drop 2).take j)) (w0 :: x1 :: l1) = if isNm x1 = true then (if ((mkF ((rows.drop 2).take j)).1.any fun p => decide (p.1 = x1)) = true then mkF ((rows.drop 2).take j) else ((mkF ((rows.drop 2).take j)).1 ++ [(x1, (mkF ((rows.drop 2).take j)).2)], (mkF ((rows.drop 2).take j)).2)) else mkF ((rows.drop 2).take j) := by
          unfold mkS
          rw [if_neg (fun z => z c1)]
          rfl
        rw [e] at nxt
        have big : decide (1 < (((w0 :: x1 :: l1).map V.str).length : Int)) = true := decide_eq_true (by simp only [List.map_cons, List.length_cons]; omega)
        rw [big]
        refine iteT ⟨_, rfl, qr, _, 1, .str x1, rfl, rfl, hqr, atI_nat (j := 1) rfl, x1, rfl, shr x1 (by simp), fun H6 s6 => ⟨isNm x1, rfl, ?_⟩⟩
        have s06 := same_trans s4 s6
        have hL6 := s6 _ _ hL4
        have hd6 := s6 _ _ hd4
        cases c2 : isNm x1 with
        | false =>
          rw [c2, if_neg Bool.false_ne_true] at nxt
          refine iteF ⟨some (.ref qr), ?_, s06, hL6, ?_⟩
          · rw [nxt]
            rfl
          · rw [nxt]
            exact hd6
        | true =>
          rw [c2, if_pos rfl] at nxt
          have hqr6 := Kp.sql (Kp.same s6) hqr
          have ev : (valV (mkK (mkF ((rows.drop 2).take j)).1) (Sum.inr x1)).isSome = (mkF ((rows.drop 2).take j)).1.any fun p => decide (p.1 = x1) := by rw [← valV_any, mkK_any]
          refine iteT ⟨_, rfl, d, rfl, .inl ⟨_, .inl hd6⟩, _, rfl, qr, _, 1, .str x1, rfl, rfl, hqr6, atI_nat (j := 1) rfl, _, rfl, _, .inr x1, hd6, rfl, ?_, fun v hv => ?_, fun hv => ?_⟩
          · unfold mkK
            rw [List.length_map, sizeLine_eq]
            have : j < (rows.drop 2).length := by rw [← xl2]; exact hj
            rw [List.length_drop] at this
            omega
          · rw [hv] at ev
            rw [if_pos (show ((mkF ((rows.drop 2).take j)).1.any fun p => decide (p.1 = x1)) = true from ev.symm)] at nxt
            refine ⟨some (.ref qr), ?_, s06, hL6, ?_⟩
            · rw [nxt]
              rfl
            · rw [nxt]
              exact hd6
          · rw [hv] at ev
            rw [if_neg (by rw [← ev]; exact Bool.false_ne_true)] at nxt
            have pt := mkK_put (n := (mkF ((rows.drop 2).take j)).2) ev.symm
            refine ⟨some (.ref qr), ?_, fun b o e => ?_, ?_, ?_⟩
            · rw [nxt]
              rfl
            · rw [upd_ne (ndH b o e)]
              exact s06 _ _ e
            · rw [upd_ne (Ne.symm ndL)]
              exact hL6
            · rw [upd_same, nxt, pt]
    · rw [decide_eq_false (fun z => c1 (by injection z))]
      have e : mkS (mkF ((rows.drop 2).take j)) (w0 :: rest) = ((mkF ((rows.drop 2).take j)).1, (mkF ((rows.drop 2).take j)).2 + 1) := by
        unfold mkS
        rw [if_pos (show (w0 :: rest).headD "" ≠ "at" from c1)]
      rw [e] at nxt
      refine iteT ⟨_, rfl, _, 1, rfl, rfl, some (.ref qr), ?_, s4, hL4, ?_⟩
      · rw [nxt]
        rfl
      · rw [nxt]
        exact hd4
  · rintro σ H4 ⟨o3, rfl, s4, hL4, hd4⟩
    rw [xl2, List.take_length] at hd4
    exact ⟨_, rfl, q d H4 s4 nd1 hd4⟩
end
end K23

set_option Elab.async false
set_option linter.all false
set_option maxRecDepth 100000
set_option maxHeartbeats 4000000
namespace K23
open PySem PySem.Spec PyProof.Rows L2 Pen Tr AK LamX RL
/-! ### a mark's line -/
def bK (ms : List Str) : List (Key × V) := ms.map fun x => (Sum.inr x, V.bl true)
def ckR (ms : List Str) (r : List Str) : Option Nat := match r with
  | [] => some 2
  | [_] => some 2
  | _ :: x :: l => if (!isNm x || ms.contains x) = true then some 2 else if l = [] then none else some 3
theorem bK_any (ms : List Str) (x : Str) : ((bK ms).any fun kv => decide (kv.1 = (Sum.inr x : Key))) = ms.contains x := by
  induction ms with
  | nil => rfl
  | cons y ms ih =>
    rw [List.contains_cons]
    show (decide ((Sum.inr y : Key) = Sum.inr x) || (bK ms).any _) = _
    rw [ih, Bool.beq_eq_decide_eq]
    congr 1
    exact decide_eq_decide.mpr ⟨fun h => (Sum.inr.inj h).symm, fun h => by rw [h]⟩
theorem bK_put {ms : List Str} {x : Str} (h : ms.contains x = false) : putK (bK ms) (Sum.inr x) (V.bl true) = bK (ms ++ [x]) := by
  unfold putK
  rw [bK_any, h, if_neg Bool.false_ne_true]
  unfold bK
  rw [List.map_append]
  rfl
section
variable {P : Program} {w : World} {K : PySem.W.Frag} {mg : Str → Option PySem.Value} {base : Heap} {f CB fN : Addr} {fd fdN : FuncData} {H H' : Hp}
def spCk (K : PySem.W.Frag) (CB : Addr) : Sp := fun vs H Q E => ∃ number : Nat, ∃ qr d, ∃ r ms : List Str, vs = [.int number, .ref qr, .ref d] ∧ SqL K H qr (r.map V.str) ∧ r ≠ [] ∧ (∀ x ∈ r, x.length ≤ 1000000) ∧ H d = some (.dK (bK ms)) ∧
  match ckR ms r with
  | none => ∀ H', Same H H' → Q .non H'
  | some c => BadE CB E H number c
abbrev nCk : List Str := ["number", "words", "marks"]
theorem scCk : FnScope nCk ["number", "words", "marks"] (defScope (top 27)) := ⟨rfl, rfl, rfl, by decide +kernel, rfl, by decide +kernel, by decide +kernel⟩
theorem ok_ck (F : FnT K "check_mark" 27 f fd) (TX : Txt mg) (EB : Er P w K mg base "BadText" CB ["line", "column"]) (FN : FnT K "is_name" 18 fN fdN) (gN : mg "is_name" = some (.ref fN)) (GN : FnOk P w K mg base CX0 1 fN fdN ["value"] spNm) : FnOk P w K mg base (L2.CX P w) 3 f fd ["number", "words", "marks"] (spCk K CB) := by
  refine F.ok scCk (fun vs H Q E h => by obtain ⟨n, qr, d, r, ms, rfl, _⟩ := h; rfl) (fun cdv A outer s0 H vs Q E hr h => ?_)
  obtain ⟨number, qr, d, r, ms, rfl, hqr, rne, sh, hd, q⟩ := h
  have nd := scCk.nd
  have hu := hr.units
  have hu1 := hu_of hr
  have bN : L2.Binds K fdN ["value"] [] := FunD.bindsN FN fun _ _ _ _ _ _ us hl => match us, hl with | [_], _ => rfl
  refine ⟨_, pss_cons (ps_if (PW.pt (pw_or (pt_cmpR op_lt (pe_callB call_len_seq (by rfl) TX.len PySem.boot_len (pa_cons (pv 1) pa_nil)) pe_int (nomark _)) (pw_or (pt_not (pt_val (pe_call GN (hr.mono (by decide)) (by rfl) gN FN.kp bN .nil pass0 (pa_cons (pe_ix ix_list (pv 1) pe_int (fun _ _ => rfl)) pa_nil)))) (pw_or1 (pt_cmp (pc_din hu1 (pe_ix ix_list (pv 1) pe_int (fun _ _ => rfl)) (pv 2)))))))
      (pss_one (ps_raise rfl (takes_of rfl rfl rfl rfl) (pmk_er EB hr (by rfl) (pa_cons (pv 0) (pa_cons pe_int pa_nil))))) pss_nil)
    (pss_one (ps_if (pt_cmpR op_gt (pe_callB call_len_seq (by rfl) TX.len PySem.boot_len (pa_cons (pv 1) pa_nil)) pe_int (nomark _)) (pss_one (ps_raise rfl (takes_of rfl rfl rfl rfl) (pmk_er EB hr (by rfl) (pa_cons (pv 0) (pa_cons pe_int pa_nil))))) pss_nil)), ?_⟩
  clear bN
  refine ⟨_, rfl, qr, _, rfl, .inl hqr, _, 2, rfl, rfl, decide (((r.map V.str).length : Int) < 2), rfl, ?_⟩
  cases r with
  | nil => exact absurd rfl rne
  | cons w0 r1 =>
    cases r1 with
    | nil =>
      have small : decide ((([w0].map V.str).length : Int) < 2) = true := decide_eq_true (by simp only [List.map_cons, List.length_cons, List.map_nil, List.length_nil]; omega)
      rw [small]
      have eR : ckR ms [w0] = some 2 := rfl
      rw [eR] at q
      exact iteT (iteT ⟨_, rfl, raise_sp rfl (by decide) fun dd hd H2 s2 e2 => q dd H2 s2 e2⟩)
    | cons x l =>
      have big : decide ((((w0 :: x :: l).map V.str).length : Int) < 2) = false := decide_eq_false (by simp only [List.map_cons, List.length_cons]; omega)
      rw [big]
      have eR : ckR ms (w0 :: x :: l) = if (!isNm x || ms.contains x) = true then some 2 else if l = [] then none else some 3 := by rw [ckR]
      rw [eR] at q
      have at1 : atI ((w0 :: x :: l).map V.str) 1 = some (V.str x) := atI_nat (j := 1) rfl
      have shx := sh x (by simp)
      have el : ((w0 :: x :: l).map V.str).length = l.length + 2 := by rw [List.length_map]; rfl
      generalize (w0 :: x :: l).map V.str = vs at hqr at1 big el
      clear sh rne
      refine iteF ⟨_, rfl, qr, vs, 1, .str x, rfl, rfl, hqr, at1, x, rfl, shx, fun H1 s1 => ⟨isNm x, rfl, ?_⟩⟩
      cases c1 : isNm x with
      | false =>
        rw [c1, if_pos (show (!false || ms.contains x) = true from rfl)] at q
        exact iteT (iteT ⟨_, rfl, raise_sp rfl (by decide) fun dd hd H2 s2 e2 => q dd H2 (same_trans s1 s2) e2⟩)
      | true =>
        have ev : (valV (bK ms) (Sum.inr x)).isSome = ms.contains x := by rw [← valV_any, bK_any]
        have hq1 := Kp.sql (Kp.same s1) hqr
        have hd1 := s1 _ _ hd
        refine iteF ⟨_, rfl, qr, vs, 1, .str x, rfl, rfl, hq1, at1, _, rfl, d, valV (bK ms) (Sum.inr x), rfl, .inl ⟨_, .inr x, .inl hd1, rfl, rfl⟩, _, rfl, ?_⟩
        rw [ev]
        cases c2 : ms.contains x with
        | true =>
          rw [c1, c2, if_pos (show (!true || true) = true from rfl)] at q
          exact iteT ⟨_, rfl, raise_sp rfl (by decide) fun dd hd H2 s2 e2 => q dd H2 (same_trans s1 s2) e2⟩
        | false =>
          rw [c1, c2, if_neg (show ¬ (!true || false) = true by decide)] at q
          refine iteF ⟨_, rfl, qr, vs, rfl, .inl hq1, _, 2, rfl, rfl, decide (2 < (vs.length : Int)), rfl, ?_⟩
          cases l with
          | nil =>
            rw [if_pos rfl] at q
            rw [decide_eq_false (by rw [el]; decide)]
            exact iteF (q H1 s1)
          | cons y l =>
            rw [if_neg (fun z => nomatch z)] at q
            rw [decide_eq_true (by rw [el, List.length_cons]; omega)]
            exact iteT ⟨_, rfl, raise_sp rfl (by decide) fun dd hd H2 s2 e2 => q dd H2 (same_trans s1 s2) e2⟩
end
end K23

set_option Elab.async false
set_option linter.all false
set_option maxRecDepth 100000
set_option maxHeartbeats 4000000
namespace K23
open PySem PySem.Spec PyProof.Rows L2 Pen Tr AK LamX RL
/-! ### an order's line -/
/-- what is known: registers, colours, marks -/
structure Kn where
  r : List (Key × V)
  c : List (Key × V)
  l : List (Key × V)
def Kn.at_ (kn : Kn) (s : Nat) : List (Key × V) := if s = 82 then kn.r else if s = 67 then kn.c else kn.l
def ordBad (kn : Kn) (r : List Str) (cs : List Nat) (i : Nat) : Bool := decide (r.length < i + 2) || (valV (kn.at_ (cs.getD i 0)) (Sum.inr (r.getD (i + 1) ""))).isNone
def ordFirst (kn : Kn) (r : List Str) (cs : List Nat) : Option Nat := (List.range cs.length).find? (ordBad kn r cs)
def toldV (kn : Kn) (r : List Str) (cs : List Nat) (i : Nat) : V := (valV (kn.at_ (cs.getD i 0)) (Sum.inr (r.getD (i + 1) ""))).getD .non
def toldVs (kn : Kn) (r : List Str) (cs : List Nat) (n : Nat) : List V := .str (r.headD "") :: (List.range n).map (toldV kn r cs)
inductive Ord where
  | ok (vs : List V)
  | bad (c : Nat)
def kindO (z : Str) : Option Str := (ordK.find? fun e => decide (e.1 = z)).map (·.2)
def ordR (kn : Kn) (r : List Str) : Ord := match kindO (r.headD "") with
  | none => .bad 1
  | some k => match ordFirst kn r k.cps.toList with
    | some i => .bad (i + 2)
    | none => if k.cps.toList.length + 1 < r.length then .bad (k.cps.toList.length + 2) else .ok (toldVs kn r k.cps.toList k.cps.toList.length)
def knK (dR dC dL : Addr) : List (Key × V) := [(Sum.inr "R", .ref dR), (Sum.inr "C", .ref dC), (Sum.inr "L", .ref dL)]
structure KnAt (H : Hp) (d : Addr) (kn : Kn) : Prop where
  ex : ∃ dR dC dL, H d = some (.dK (knK dR dC dL)) ∧ H dR = some (.dK kn.r) ∧ H dC = some (.dK kn.c) ∧ H dL = some (.dK kn.l)
/-- the dict of orders, in the written part -/
structure OrdF (K : PySem.W.Frag) (w : World) (d : Addr) : Prop where
  dict : ∃ es n, KDict K w d es n
  has : ∀ z k, kindO z = some k → KDct K w d z (.str k) ∧ ∃ u, PySem.W.nsIn K d z = some (some u)
  no : ∀ z, kindO z = none → PySem.W.nsIn K d z = some none
theorem kind_signs {z k : Str} (h : kindO z = some k) : ∀ c ∈ k.cps.toList, c = 82 ∨ c = 67 ∨ c = 76 := by
  unfold kindO at h
  obtain ⟨e, he, rfl⟩ := Option.map_eq_some_iff.mp h
  have m := List.mem_of_find?_eq_some he
  have all : ∀ e ∈ ordK, ∀ c ∈ e.2.cps.toList, c = 82 ∨ c = 67 ∨ c = 76 := by decide +kernel
  exact all e m
theorem ordFirst_at {kn : Kn} {r : List Str} {cs : List Nat} {i : Nat} (hi : i < cs.length) (ok : ∀ k, k < i → ordBad kn r cs k = false) (b : ordBad kn r cs i = true) : ordFirst kn r cs = some i := by
  unfold ordFirst
  rw [List.find?_range_eq_some]
  exact ⟨b, List.mem_range.mpr hi, fun j hj => by rw [ok j hj]; rfl⟩
theorem ordFirst_no {kn : Kn} {r : List Str} {cs : List Nat} (ok : ∀ k, k < cs.length → ordBad kn r cs k = false) : ordFirst kn r cs = none := by
  unfold ordFirst
  rw [List.find?_eq_none]
  intro k hk
  rw [ok k (List.mem_range.mp hk)]
  exact Bool.false_ne_true
theorem told_snoc (kn : Kn) (r : List Str) (cs : List Nat) (n : Nat) : toldVs kn r cs (n + 1) = toldVs kn r cs n ++ [toldV kn r cs n] := by
  unfold toldVs
  rw [List.range_succ, List.map_append]
  rfl
theorem told_len (kn : Kn) (r : List Str) (cs : List Nat) (n : Nat) : (toldVs kn r cs n).length = n + 1 := by
  unfold toldVs
  rw [List.length_cons, List.length_map, List.length_range]
section
variable {P : Program} {w : World} {K : PySem.W.Frag} {mg : Str → Option PySem.Value} {base : Heap} {f CB aO : Addr} {fd : FuncData} {H H' : Hp}
theorem KnAt.same {d : Addr} {kn : Kn} (h : KnAt H d kn) (s : Same H H') : KnAt H' d kn := by
  obtain ⟨dR, dC, dL, h1, h2, h3, h4⟩ := h.ex
  exact ⟨dR, dC, dL, s _ _ h1, s _ _ h2, s _ _ h3, s _ _ h4⟩
def signsO (k : Str) : Prop := ∀ c ∈ k.cps.toList, c = 82 ∨ c = 67 ∨ c = 76
theorem KnAt.get {d : Addr} {kn : Kn} (h : KnAt H d kn) {c : Nat} (hc : c = 82 ∨ c = 67 ∨ c = 76) : ∃ dx, DGet H d (.str ⟨#[c]⟩) (some (.ref dx)) ∧ H dx = some (.dK (kn.at_ c)) := by
  obtain ⟨dR, dC, dL, h1, h2, h3, h4⟩ := h.ex
  rcases hc with rfl | rfl | rfl
  · exact ⟨dR, .inl ⟨_, .inr ⟨#[82]⟩, .inl h1, rfl, by kernel_rfl⟩, h2⟩
  · exact ⟨dC, .inl ⟨_, .inr ⟨#[67]⟩, .inl h1, rfl, by kernel_rfl⟩, h3⟩
  · exact ⟨dL, .inl ⟨_, .inr ⟨#[76]⟩, .inl h1, rfl, by kernel_rfl⟩, h4⟩
def spOr (K : PySem.W.Frag) (CB : Addr) : Sp := fun vs H Q E => ∃ number : Nat, ∃ qr d, ∃ r : List Str, ∃ kn, vs = [.int number, .ref qr, .ref d] ∧ SqL K H qr (r.map V.str) ∧ r ≠ [] ∧ r.length ≤ 100000 ∧ KnAt H d kn ∧
  match ordR kn r with
  | .ok vs => ∀ p H', Same H H' → SqT K H' p vs → Q (.ref p) H'
  | .bad c => BadE CB E H number c
abbrev nOr : List Str := ["number", "words", "known", "kinds", "told", "column", "kind"]
theorem scOr : FnScope nOr ["number", "words", "known"] (defScope (top 28)) := ⟨rfl, rfl, rfl, by decide +kernel, rfl, by decide +kernel, by decide +kernel⟩
theorem ok_or (F : FnT K "order_of" 28 f fd) (TX : Txt mg) (EB : Er P w K mg base "BadText" CB ["line", "column"]) (gO : mg "ORDERS" = some (.ref aO)) (OF : OrdF K w aO) : FnOk P w K mg base (L2.CX P w) 3 f fd ["number", "words", "known"] (spOr K CB) := by
  refine F.ok scOr (fun vs H Q E h => by obtain ⟨n, qr, d, r, kn, rfl, _⟩ := h; rfl) (fun cdv A outer s0 H vs Q E hr h => ?_)
  obtain ⟨number, qr, d, r, kn, rfl, hqr, rne, few, hk, q⟩ := h
  obtain ⟨es, n, KD⟩ := OF.dict
  have nd := scOr.nd
  have hu := hr.units
  have hu1 := hu_of hr
  refine ⟨_, pss_cons (ps_if (pt_cmpR (op_notIn_kd (X := cxOf (L2.CX P w) P w K mg base nOr "order_of" (defScope (top 28)) f cdv A outer s0 H E) KD) (pe_ix ix_list (pv 1) pe_int (fun _ _ => rfl)) (pe_glob (v := .ref aO) (by rfl) gO rfl) (by rfl)) (pss_one (ps_raise rfl (takes_of rfl rfl rfl rfl) (pmk_er EB hr (by rfl) (pa_cons (pv 0) (pa_cons pe_int pa_nil))))) pss_nil)
    (pss_cons (ps_asg (pe_ix ix_kdict (pe_glob (v := .ref aO) (by rfl) gO rfl) (pe_ix ix_list (pv 1) pe_int (fun _ _ => rfl)) (fun _ _ => rfl)) (pg_name (i := 3) nd rfl (.inl rfl)))
    (pss_cons (ps_asg (pe_lst (pa_cons (pe_ix ix_list (pv 1) pe_int (fun _ _ => rfl)) pa_nil)) (pg_name (i := 4) nd rfl (.inl rfl)))
    (pss_cons (ps_for (passes_of rfl) rfl (pi_enumKS (by rfl) TX.enum (pa_cons (pv 3) pa_nil) pe_int (by decide) (by decide)) (pg_tup (by rfl) (pgs_cons (pg_name (i := 5) nd rfl (.inl rfl)) (pgs_cons (pg_name (i := 6) nd rfl (.inl rfl)) pgs_nil)))
      (pss_cons (ps_if (PW.pt (pw_or (pt_cmpR op_lt (pe_callB call_len_seq (by rfl) TX.len PySem.boot_len (pa_cons (pv 1) pa_nil)) (pv 5) (nomark _)) (pw_or1 (pt_cmp (pc_dnotin hu1 (pe_ix ix_list (pv 1) (pe_op op_sub (pv 5) pe_int) (fun _ _ => rfl)) (pe_dget hu1 (pv 2) (pv 6) (fun _ _ => rfl))) (by rfl)))))
          (pss_one (ps_raise rfl (takes_of rfl rfl rfl rfl) (pmk_er EB hr (by rfl) (pa_cons (pv 0) (pa_cons (pv 5) pa_nil))))) pss_nil)
      (pss_one (ps_expr (pe_bm PySem.F.plainAttrs_list PySem.F.slot_list_append PySem.F.type_list_append mt_append (pv 4) (pa_cons (pe_dget hu1 (pe_dget hu1 (pv 2) (pv 6) (fun _ _ => rfl)) (pe_ix ix_list (pv 1) (pe_op op_sub (pv 5) pe_int) (fun _ _ => rfl)) (fun _ _ => rfl)) pa_nil))))))
    (pss_cons (ps_if (pt_cmpR op_gt (pe_callB call_len_seq (by rfl) TX.len PySem.boot_len (pa_cons (pv 1) pa_nil)) (pe_callB call_len_seq (by rfl) TX.len PySem.boot_len (pa_cons (pv 4) pa_nil)) (nomark _)) (pss_one (ps_raise rfl (takes_of rfl rfl rfl rfl) (pmk_er EB hr (by rfl) (pa_cons (pv 0) (pa_cons (pe_op op_add (pe_callB call_len_seq (by rfl) TX.len PySem.boot_len (pa_cons (pv 4) pa_nil)) pe_int) pa_nil))))) pss_nil)
    (pss_one (ps_ret (pe_callTy call_tupR (by rfl) TX.tuple (by decide +kernel) (pa_cons (pv 4) pa_nil)))))))), ?_⟩
  obtain ⟨w0, rest, er⟩ : ∃ w0 rest, r = w0 :: rest := by
    cases r with
    | nil => exact absurd rfl rne
    | cons x l => exact ⟨x, l, rfl⟩
  have hd0 : r.headD "" = w0 := by rw [er]; rfl
  have at0 : atI (r.map V.str) 0 = some (V.str w0) := atI_nat (j := 0) (by rw [er]; rfl)
  have vl : (r.map V.str).length = r.length := List.length_map _
  have atN : ∀ i x, r[i]? = some x → atI (r.map V.str) ((i : Nat) : Int) = some (V.str x) := fun i x h => atI_nat (by rw [List.getElem?_map, h]; rfl)
  generalize r.map V.str = vs0 at hqr at0 vl atN
  cases ck : kindO w0 with
  | none =>
    have eq : ordR kn r = .bad 1 := by
      unfold ordR
      rw [hd0, ck]
    rw [eq] at q
    refine ⟨_, rfl, qr, vs0, 0, .str w0, rfl, rfl, hqr, at0, w0, none, rfl, rfl, OF.no w0 ck, true, rfl, ?_⟩
    exact iteT ⟨_, rfl, raise_sp rfl (by decide) fun dd hd H2 s2 e2 => q dd H2 s2 e2⟩
  | some k =>
    have eq : ordR kn r = match ordFirst kn r k.cps.toList with
      | some i => .bad (i + 2)
      | none => if k.cps.toList.length + 1 < r.length then .bad (k.cps.toList.length + 2) else .ok (toldVs kn r k.cps.toList k.cps.toList.length) := by
      unfold ordR
      rw [hd0, ck]
    rw [eq] at q
    have sg := kind_signs ck
    obtain ⟨kd, u0, hns⟩ := OF.has w0 k ck
    refine ⟨_, rfl, qr, vs0, 0, .str w0, rfl, rfl, hqr, at0, w0, some u0, rfl, rfl, hns, false, rfl, ?_⟩
    refine iteF ⟨_, rfl, qr, vs0, 0, .str w0, rfl, rfl, hqr, at0, aO, w0, .str k, rfl, rfl, kd, ?_⟩
    refine ⟨_, rfl, qr, vs0, 0, .str w0, rfl, rfl, hqr, at0, (by show 1 ≤ sizeLine; rw [sizeLine_eq]; decide), fun T nT => ?_⟩
    have s1 := same_upd (o := .lst [.str w0]) nT
    have hT1 := upd_same (H := H) (a := T) (o := .lst [.str w0])
    have ndH : ∀ b o, H b = some o → b ≠ T := fun b o e => ne_of_none e nT
    change H T = none at nT
    generalize upd H T (.lst [.str w0]) = H1 at s1 hT1 ⊢
    clear nT kd hns eq
    refine ⟨_, rfl, k, rfl, ?_⟩
    have hl0 : [V.str w0] = toldVs kn r k.cps.toList 0 := by
      unfold toldVs
      rw [hd0]
      rfl
    rw [hl0] at hT1
    refine for_it (walk_enumS (k := 2) (z := k)) (fun i σ H' => (∃ o5 o6, σ = [some (.int number), some (.ref qr), some (.ref d), some (.str k), some (.ref T), o5, o6]) ∧ Same H H' ∧ H' T = some (.lst (toldVs kn r k.cps.toList i)) ∧ ∀ j, j < i → ordBad kn r k.cps.toList j = false)
      ⟨⟨none, none, rfl⟩, s1, hT1, fun _ h => absurd h (Nat.not_lt_zero _)⟩ (fun _ _ _ _ _ => trivial) ?_ ?_
    · rintro i y σ H5 H4 hi ⟨⟨o5, o6, rfl⟩, s4, hT4, ok⟩ ⟨Tp, x1, x2, rfl, nT, rfl, ex, ey⟩
      cases ex
      have hi2 : i < k.cps.toList.length := by rw [Array.length_toList]; exact hi
      obtain ⟨c, hc⟩ : ∃ c, k.cps[i]? = some c := ⟨k.cps[i], Array.getElem?_eq_getElem hi⟩
      have ey : (k.cps[i]?).map (fun c => V.str ⟨#[c]⟩) = some x2 := ey
      rw [hc] at ey
      cases (show some (V.str ⟨#[c]⟩) = some x2 from ey)
      have gd : k.cps.toList.getD i 0 = c := by rw [List.getD_eq_getElem?_getD, Array.getElem?_toList, hc]; rfl
      have hcs := sg c (by rw [← gd, List.getD_eq_getElem?_getD, List.getElem?_eq_getElem hi2]; exact List.getElem_mem hi2)
      have s5 := same_upd (o := .tup [.int (2 + (i : Nat)), .str ⟨#[c]⟩]) nT
      refine ⟨Tp, _, rfl, SqT.of upd_same, rfl, _, _, rfl, _, _, rfl, rfl, ?_⟩
      have hT5 := s5 _ _ hT4
      have s05 := same_trans s4 s5
      generalize upd H5 Tp (.tup [.int (2 + (i : Nat)), .str ⟨#[c]⟩]) = H6 at hT5 s05 ⊢
      clear s4 s5 nT hT4
      have hq6 := Kp.sql (Kp.same s05) hqr
      have key : ordBad kn r k.cps.toList i = true → BadE CB E H6 number (2 + i) := fun b => by
        rw [ordFirst_at hi2 ok b] at q
        intro dd H8 s8 e8
        refine q dd H8 (same_trans s05 s8) ?_
        rw [e8, Nat.add_comm]
      refine ⟨_, rfl, qr, vs0, rfl, .inl hq6, _, rfl, (vs0.length : Int), 2 + (i : Nat), rfl, rfl, decide ((vs0.length : Int) < 2 + (i : Nat)), rfl, ?_⟩
      by_cases c1 : (vs0.length : Int) < 2 + (i : Nat)
      · rw [decide_eq_true c1]
        refine iteT (iteT ⟨_, rfl, _, rfl, raise_sp rfl (by decide) fun dd hd H8 s8 e8 => key (by unfold ordBad; rw [decide_eq_true (by omega)]; rfl) dd H8 s8 e8⟩)
      · rw [decide_eq_false c1]
        obtain ⟨x, hx⟩ : ∃ x, r[i + 1]? = some x := ⟨r[i + 1]'(by omega), List.getElem?_eq_getElem _⟩
        have gx : r.getD (i + 1) "" = x := by rw [List.getD_eq_getElem?_getD, hx]; rfl
        have atx : atI vs0 ((2 + (i : Nat) : Int) - 1) = some (.str x) := by
          rw [show (2 + (i : Nat) : Int) - 1 = ((i + 1 : Nat) : Int) by omega]
          exact atN _ _ hx
        obtain ⟨dx, g1, g2⟩ := (hk.same s05).get hcs
        refine iteF ⟨_, rfl, _, rfl, _, 1, rfl, rfl, qr, vs0, _, .str x, rfl, rfl, hq6, atx, _, rfl, _, rfl, d, .ref dx, rfl, g1, dx, valV (kn.at_ c) (Sum.inr x), rfl, .inl ⟨_, .inr x, .inl g2, rfl, rfl⟩, _, rfl, ?_⟩
        cases cv : valV (kn.at_ c) (Sum.inr x) with
        | none =>
          refine iteT ⟨_, rfl, _, rfl, raise_sp rfl (by decide) fun dd hd H8 s8 e8 => key (by unfold ordBad; rw [gd, gx, cv]; simp) dd H8 s8 e8⟩
        | some v =>
          refine iteF ⟨_, rfl, .inl ⟨rfl, _, SqL.of hT5⟩, _, rfl, _, rfl, d, .ref dx, rfl, g1, _, rfl, _, rfl, _, 1, rfl, rfl, qr, vs0, _, .str x, rfl, rfl, hq6, atx, dx, v, rfl, .inl ⟨_, .inr x, .inl g2, rfl, cv.symm⟩, T, _, v, rfl, rfl, hT5, ?_, ?_⟩
          · rw [told_len, sizeLine_eq]
            omega
          · have tv : toldV kn r k.cps.toList i = v := by
              unfold toldV
              rw [gd, gx, cv]
              rfl
            refine ⟨⟨_, _, rfl⟩, fun b o e => ?_, ?_, fun j hj => ?_⟩
            · rw [upd_ne (ndH b o e)]
              exact s05 _ _ e
            · rw [upd_same, told_snoc, tv]
            · by_cases e : j = i
              · subst e
                unfold ordBad
                rw [gd, gx, cv, decide_eq_false (by omega)]
                rfl
              · exact ok j (by omega)
    · rintro σ H4 ⟨⟨o5, o6, rfl⟩, s4, hT4, ok⟩
      have ok2 : ∀ j, j < k.cps.toList.length → ordBad kn r k.cps.toList j = false := fun j hj => ok j (by rw [Array.length_toList] at hj; exact hj)
      have hT4 : H4 T = some (.lst (toldVs kn r k.cps.toList k.cps.toList.length)) := by
        rw [Array.length_toList]
        exact hT4
      rw [ordFirst_no ok2] at q
      have tl := told_len kn r k.cps.toList k.cps.toList.length
      have hq4 := Kp.sql (Kp.same s4) hqr
      refine ⟨_, rfl, qr, vs0, rfl, .inl hq4, _, rfl, T, _, rfl, .inl (SqL.of hT4), (vs0.length : Int), _, rfl, rfl, decide (((toldVs kn r k.cps.toList k.cps.toList.length).length : Int) < vs0.length), rfl, ?_⟩
      rw [tl]
      by_cases c1 : k.cps.toList.length + 1 < r.length
      · rw [if_pos c1] at q
        rw [decide_eq_true (by omega)]
        refine iteT ⟨_, rfl, _, rfl, T, _, rfl, .inl (SqL.of hT4), _, 1, rfl, rfl, raise_sp rfl (by decide) fun dd hd H8 s8 e8 => q dd H8 (same_trans s4 s8) ?_⟩
        rw [e8, tl]
        rfl
      · rw [if_neg c1] at q
        rw [decide_eq_false (by omega)]
        exact iteF ⟨_, rfl, T, _, rfl, .inl (SqL.of hT4), fun p H8 s8 hp => q p H8 (same_trans s4 s8) hp⟩
end
end K23

set_option Elab.async false
set_option linter.all false
set_option maxRecDepth 100000
set_option maxHeartbeats 4000000
namespace K23
open PySem PySem.Spec PyProof.Rows L2 Pen Tr AK LamX RL
/-! ### all orders -/
abbrev OSt := List Str × List (List V)
def oGo (kn : Kn) : Nat → OSt → List (List Str) → Got OSt
  | _, st, [] => .ok st
  | n, st, r :: rs => if r.headD "" = "at" then (match ckR st.1 r with
      | some c => .bad n c
      | none => oGo kn (n + 1) (st.1 ++ [r.tail.headD ""], st.2) rs)
    else match ordR kn r with
      | .bad c => .bad n c
      | .ok vs => oGo kn (n + 1) (st.1, st.2 ++ [vs]) rs
def OrdsV (K : PySem.W.Frag) (H : Hp) (os : List (List V)) (xs : List V) : Prop := Paired (fun (vs : List V) (v : V) => ∃ q, v = .ref q ∧ SqT K H q vs) os xs
theorem dk0_ntup {H : Hp} {l : Addr} {kvs : List (Key × V)} (e : H l = some (.dK kvs)) : ∀ xs, ¬ Rd H l (.tup xs) := fun xs h => by
  unfold Rd at h
  rw [e] at h
  rcases h with h | ⟨_, h⟩ <;> cases h
theorem same_tups {H H' : Hp} (s : Same H H') : Tups H H' := fun b xs h => same_rd s h
theorem ckR_two {ms r : List Str} (h : ckR ms r = none) : ∃ w0 x l, r = w0 :: x :: l ∧ ms.contains x = false := by
  match r, h with
  | [], h => cases h
  | [_], h => cases h
  | w0 :: x :: l, h =>
    rw [ckR] at h
    split at h
    · cases h
    · rename_i z
      refine ⟨w0, x, l, rfl, ?_⟩
      cases c : ms.contains x with
      | false => rfl
      | true =>
        rw [c, Bool.or_true] at z
        exact absurd rfl z
section
variable {P : Program} {w : World} {K : PySem.W.Frag} {mg : Str → Option PySem.Value} {base : Heap} {f CB fK fO : Addr} {fd fdK fdO : FuncData} {H H' : Hp}
def spOs (K : PySem.W.Frag) (CB : Addr) : Sp := fun vs H Q E => ∃ a kd rows kn, vs = [.ref a, .ref kd] ∧ LnAt K H a rows ∧ 2 ≤ rows.length ∧ KnAt H kd kn ∧
  match oGo kn 3 ([], []) (rows.drop 2) with
  | .ok st => ∀ p H' xs, Same H H' → SqT K H' p xs → OrdsV K H' st.2 xs → Q (.ref p) H'
  | .bad l c => BadE CB E H l c
abbrev nOs : List Str := ["lines", "known", "orders", "marks", "number", "words"]
theorem scOs : FnScope nOs ["lines", "known"] (defScope (top 26)) := ⟨rfl, rfl, rfl, by decide +kernel, rfl, by decide +kernel, by decide +kernel⟩
theorem ok_os (F : FnT K "orders_of" 26 f fd) (TX : Txt mg) (FK : FnT K "check_mark" 27 fK fdK) (gK : mg "check_mark" = some (.ref fK)) (GK : FnOk P w K mg base (L2.CX P w) 3 fK fdK ["number", "words", "marks"] (spCk K CB))
    (FO : FnT K "order_of" 28 fO fdO) (gO : mg "order_of" = some (.ref fO)) (GO : FnOk P w K mg base (L2.CX P w) 3 fO fdO ["number", "words", "known"] (spOr K CB)) : FnOk P w K mg base (L2.CX P w) 4 f fd ["lines", "known"] (spOs K CB) := by
  refine F.ok scOs (fun vs H Q E h => by obtain ⟨a, kd, rows, kn, rfl, _⟩ := h; rfl) (fun cdv A outer s0 H vs Q E hr h => ?_)
  obtain ⟨a, kd, rows, kn, rfl, ln, r2, hk, q⟩ := h
  have nd := scOs.nd
  have hu := hr.units
  have hu1 := hu_of hr
  have bK : L2.Binds K fdK ["number", "words", "marks"] [] := FunD.bindsN FK fun _ _ _ _ _ _ us hl => match us, hl with | [_, _, _], _ => rfl
  have bO : L2.Binds K fdO ["number", "words", "known"] [] := FunD.bindsN FO fun _ _ _ _ _ _ us hl => match us, hl with | [_, _, _], _ => rfl
  refine ⟨_, pss_cons (ps_asg (pe_lst pa_nil) (pg_name (i := 2) nd rfl (.inl rfl)))
    (pss_cons (ps_asg pe_dnewK (pg_name (i := 3) nd rfl (.inl rfl)))
    (pss_cons (ps_for (passes_of rfl) rfl (pi_enumKL (by rfl) TX.enum (pa_cons (pe_slice sl_list (pv 0) (po_some pe_int) po_none) pa_nil) pe_int (by decide) (by decide)) (pg_tup (by rfl) (pgs_cons (pg_name (i := 4) nd rfl (.inl rfl)) (pgs_cons (pg_name (i := 5) nd rfl (.inl rfl)) pgs_nil)))
      (pss_one (ps_if (pt_cmpR op_eq (pe_ix ix_list (pv 5) pe_int (fun _ _ => rfl)) pe_str (nomark _))
        (pss_cons (ps_expr (pe_callS GK hr (by rfl) gK FK.kp bK (fun σ => passAt (takes_of rfl rfl rfl rfl) σ) (pa_cons (pv 4) (pa_cons (pv 5) (pa_cons (pv 3) pa_nil)))))
          (pss_one (ps_dput hu1 (pv 3) (pe_ix ix_list (pv 5) pe_int (fun _ _ => rfl)) pe_bl rfl)))
        (pss_one (ps_expr (pe_bm PySem.F.plainAttrs_list PySem.F.slot_list_append PySem.F.type_list_append mt_append (pv 2) (pa_cons (pe_callS GO hr (by rfl) gO FO.kp bO (fun σ => passAt (takes_of rfl rfl rfl rfl) σ) (pa_cons (pv 4) (pa_cons (pv 5) (pa_cons (pv 1) pa_nil)))) pa_nil)))))))
    (pss_one (ps_ret (pe_callTy call_tupR (by rfl) TX.tuple (by decide +kernel) (pa_cons (pv 2) pa_nil)))))), ?_⟩
  clear bK bO
  obtain ⟨xs, hx, hrw⟩ := ln.ex
  have xl := Paired.length hrw
  refine ⟨(by show 0 ≤ sizeLine; exact Nat.zero_le _), fun T nT => ?_⟩
  have s1 := same_upd (o := .lst ([] : List V)) nT
  have hT1 := upd_same (H := H) (a := T) (o := .lst ([] : List V))
  change H T = none at nT
  generalize upd H T (.lst ([] : List V)) = H1 at s1 hT1 ⊢
  refine fun d nd1 => ?_
  have s2 := same_upd (o := .dK []) nd1
  have hd2 := upd_same (H := H1) (a := d) (o := .dK [])
  have hT2 := s2 _ _ hT1
  have ndH : ∀ b o, H b = some o → b ≠ d := fun b o e => ne_of_none (s1 _ _ e) nd1
  have nTH : ∀ b o, H b = some o → b ≠ T := fun b o e => ne_of_none e nT
  generalize upd H1 d (.dK []) = H2 at s2 hd2 hT2 ⊢
  refine ⟨_, rfl, 2, rfl, a, xs, rfl, Kp.sql (Kp.same (same_trans s1 s2)) hx, fun L nL => ?_⟩
  have ecut : cutV xs (some 2) none = xs.drop 2 := cut_drop (xs := xs) (n := 2) (by omega)
  have s3 := same_upd (o := .lst (cutV xs (some 2) none)) nL
  have hL := upd_same (H := H2) (a := L) (o := .lst (cutV xs (some 2) none))
  have hd3 := s3 _ _ hd2
  have hT3 := s3 _ _ hT2
  have nTL : T ≠ L := ne_of_none hT2 nL
  have s03 := same_trans s1 (same_trans s2 s3)
  generalize upd H2 L (.lst (cutV xs (some 2) none)) = H3 at s03 hL hd3 hT3 ⊢
  rw [ecut] at hL
  clear s1 s2 s3 nL hd2 hT2 hT1 nd1 nT ecut
  have ndL : d ≠ L := ne_of hd3 hL fun z => nomatch z
  have nTd : T ≠ d := ne_of hT3 hd3 fun z => nomatch z
  have rw2 : RowsL K H (rows.drop 2) (xs.drop 2) := paired_drop 2 hrw
  have xl2 : (xs.drop 2).length = (rows.drop 2).length := (Paired.length rw2).symm
  have fr := ln.few.1
  have lr : (rows.drop 2).length ≤ 100000 := by rw [List.length_drop]; omega
  refine ⟨L, _, rfl, SqL.of hL, ?_⟩
  refine for_it (walk_enumL (k := 3) (K := K) (a := L) (xs := xs.drop 2)) (fun i σ H' => (∃ o4 o5, σ = [some (.ref a), some (.ref kd), some (.ref T), some (.ref d), o4, o5]) ∧ Same H H' ∧ H' L = some (.lst (xs.drop 2)) ∧ ∃ st zs, H' T = some (.lst zs) ∧ OrdsV K H' (st : OSt).2 zs ∧ zs.length ≤ i ∧ H' d = some (.dK (bK st.1)) ∧ st.1.length ≤ i ∧ oGo kn 3 ([], []) (rows.drop 2) = oGo kn (3 + i) st ((rows.drop 2).drop i))
    ⟨⟨none, none, rfl⟩, s03, hL, ([], []), [], hT3, .nil, Nat.le_refl _, hd3, Nat.le_refl _, rfl⟩ (fun i σ H' _ p => SqL.of p.2.2.1) ?_ ?_
  · rintro i y σ H5 H4 hi ⟨⟨o4, o5, rfl⟩, s4, hL4, ⟨ms, os⟩, zs, hT4, hos, zl, hd4, ml, eG⟩ ⟨Tp, x1, x2, rfl, nT, rfl, ex, ey⟩
    cases ex
    obtain ⟨r, hr1, qr, rfl, hqr0⟩ := pairW rw2 ey
    have mr : r ∈ rows := List.mem_of_mem_drop (List.mem_of_getElem? hr1)
    have dr : (rows.drop 2).drop i = r :: (rows.drop 2).drop (i + 1) := by
      obtain ⟨hlt, e⟩ := List.getElem?_eq_some_iff.mp hr1
      rw [List.drop_eq_getElem_cons hlt, e]
    rw [dr] at eG
    have s5 := same_upd (o := .tup [.int (3 + (i : Nat)), .ref qr]) nT
    refine ⟨Tp, _, rfl, SqT.of upd_same, rfl, _, _, rfl, _, _, rfl, rfl, ?_⟩
    have hT5 := s5 _ _ hT4
    have hd5 := s5 _ _ hd4
    have hL5 := s5 _ _ hL4
    have s05 := same_trans s4 s5
    have hos5 : OrdsV K (upd H5 Tp (.tup [.int (3 + (i : Nat)), .ref qr])) os zs := Paired.mapP hos fun u v ⟨z, e, h⟩ => ⟨z, e, SqT.tups (same_tups s5) h⟩
    generalize upd H5 Tp (.tup [.int (3 + (i : Nat)), .ref qr]) = H6 at hT5 hd5 hL5 s05 hos5 ⊢
    clear s4 s5 nT hT4 hd4 hL4 hos
    have hq6 := Kp.sql (Kp.same s05) hqr0
    obtain ⟨w0, rest, er⟩ : ∃ w0 rest, r = w0 :: rest := by
      cases r with
      | nil => exact absurd rfl (ln.ne _ mr)
      | cons x l => exact ⟨x, l, rfl⟩
    have hd0 : r.headD "" = w0 := by rw [er]; rfl
    have at0 : atI (r.map V.str) 0 = some (V.str w0) := atI_nat (j := 0) (by rw [er]; rfl)
    refine ⟨_, rfl, qr, _, 0, .str w0, rfl, rfl, hq6, at0, rfl, decide (V.str w0 = V.str "at"), rfl, ?_⟩
    have en : ∀ x y : V, [V.int (3 + (i : Nat)), x, y] = [V.int ((3 + i : Nat) : Int), x, y] := fun x y => by rw [Int.natCast_add]; rfl
    by_cases c1 : w0 = "at"
    · rw [decide_eq_true (congrArg V.str c1)]
      have eg : oGo kn (3 + i) (ms, os) (r :: (rows.drop 2).drop (i + 1)) = match ckR ms r with
          | some c => .bad (3 + i) c
          | none => oGo kn (3 + i + 1) (ms ++ [r.tail.headD ""], os) ((rows.drop 2).drop (i + 1)) := by
        rw [oGo, hd0, if_pos c1]
      rw [eg] at eG
      refine iteT ⟨_, rfl, _, rfl, _, rfl, 3 + i, qr, d, r, ms, en _ _, hq6, ln.ne _ mr, ln.sh _ mr, hd5, ?_⟩
      cases ec : ckR ms r with
      | some c =>
        rw [ec] at eG
        rw [eG] at q
        exact fun dd H8 s8 e8 => q dd H8 (same_trans s05 s8) e8
      | none =>
        rw [ec] at eG
        obtain ⟨w1, x, l, er2, cx⟩ := ckR_two ec
        have at1 : atI (r.map V.str) 1 = some (V.str x) := atI_nat (j := 1) (by rw [er2]; rfl)
        have ht : r.tail.headD "" = x := by rw [er2]; rfl
        rw [ht] at eG
        intro H7 s7
        have hd7 := s7 _ _ hd5
        refine ⟨_, rfl, _, rfl, qr, _, 1, .str x, rfl, rfl, Kp.sql (Kp.same s7) hq6, at1, d, _, rfl, .inl ⟨_, .inr x, hd7, rfl, ?_, rfl⟩, ?_⟩
        · unfold K23.bK
          rw [List.length_map, sizeLine_eq]
          have : i < (rows.drop 2).length := by rw [← xl2]; exact hi
          have ml : ms.length ≤ i := ml
          omega
        · have tu : Tups H7 (upd H7 d (.dK (putK (K23.bK ms) (Sum.inr x) (V.bl true)))) := Tups.upd (dk0_ntup hd7)
          refine ⟨⟨_, _, rfl⟩, fun b o e => ?_, ?_, (ms ++ [x], os), zs, ?_, Paired.mapP hos5 fun u v ⟨z, e, h⟩ => ⟨z, e, SqT.tups tu (SqT.tups (same_tups s7) h)⟩, Nat.le_succ_of_le zl, ?_, ?_, eG⟩
          · rw [upd_ne (ndH b o e)]
            exact s7 _ _ (s05 _ _ e)
          · rw [upd_ne (Ne.symm ndL)]
            exact s7 _ _ hL5
          · rw [upd_ne nTd]
            exact s7 _ _ hT5
          · rw [upd_same, bK_put cx]
          · show (ms ++ [x]).length ≤ i + 1
            rw [List.length_append]
            exact Nat.succ_le_succ ml
    · rw [decide_eq_false (fun z => c1 (by injection z))]
      have eg : oGo kn (3 + i) (ms, os) (r :: (rows.drop 2).drop (i + 1)) = match ordR kn r with
          | .bad c => .bad (3 + i) c
          | .ok vs => oGo kn (3 + i + 1) (ms, os ++ [vs]) ((rows.drop 2).drop (i + 1)) := by
        rw [oGo, hd0, if_neg c1]
      rw [eg] at eG
      refine iteF ⟨_, rfl, .inl ⟨rfl, _, SqL.of hT5⟩, _, rfl, _, rfl, _, rfl, 3 + i, qr, kd, r, kn, en _ _, hq6, ln.ne _ mr, ln.few.2 _ mr, hk.same s05, ?_⟩
      cases ec : ordR kn r with
      | bad c =>
        rw [ec] at eG
        rw [eG] at q
        exact fun dd H8 s8 e8 => q dd H8 (same_trans s05 s8) e8
      | ok vs =>
        rw [ec] at eG
        intro p H7 s7 hp
        have hT7 := s7 _ _ hT5
        refine ⟨T, zs, .ref p, rfl, rfl, hT7, ?_, ?_⟩
        · rw [sizeLine_eq]
          have : i < (rows.drop 2).length := by rw [← xl2]; exact hi
          omega
        · have tu : Tups H7 (upd H7 T (.lst (zs ++ [.ref p]))) := Tups.upd (lst_ntup hT7)
          refine ⟨⟨_, _, rfl⟩, fun b o e => ?_, ?_, (ms, os ++ [vs]), zs ++ [.ref p], upd_same, ?_, ?_, ?_, Nat.le_succ_of_le ml, eG⟩
          · rw [upd_ne (nTH b o e)]
            exact s7 _ _ (s05 _ _ e)
          · rw [upd_ne (Ne.symm nTL)]
            exact s7 _ _ hL5
          · exact Paired.snoc (Paired.mapP hos5 fun u v ⟨z, e, h⟩ => ⟨z, e, SqT.tups tu (SqT.tups (same_tups s7) h)⟩) ⟨p, rfl, SqT.tups tu hp⟩
          · rw [List.length_append]
            exact Nat.succ_le_succ zl
          · rw [upd_ne (Ne.symm nTd)]
            exact s7 _ _ hd5
  · rintro σ H4 ⟨⟨o4, o5, rfl⟩, s4, hL4, st, zs, hT4, hos, zl, hd4, ml, eG⟩
    rw [xl2, List.drop_length] at eG
    rw [show oGo kn (3 + (rows.drop 2).length) st [] = .ok st by rw [oGo]] at eG
    rw [eG] at q
    exact ⟨_, rfl, T, _, rfl, .inl (SqL.of hT4), fun p H8 s8 hp => q p H8 zs (same_trans s4 s8) hp (Paired.mapP hos fun u v ⟨z, e, h⟩ => ⟨z, e, SqT.tups (same_tups s8) h⟩)⟩
end
end K23

set_option Elab.async false
set_option linter.all false
set_option maxRecDepth 100000
set_option maxHeartbeats 4000000
namespace AK
open PySem PySem.Spec PyProof.Rows L2
/-! ### a tuple times 0, times 1 -/
theorem mul_one (l : Addr) (items : Array PySem.Value) (n : Nat) (dd : Option Addr) (sl : Array (Option PySem.Value)) (u : Tok) :
    Meets (Builtin.«tuple.__mul__» ⟨[.ref l, .int 1 u], []⟩) (fun _ R s => s.heap.get? l = some { cls := .type "tuple", dict := dd, data := .seq items n, slots := sl } ∧ R (.ok (.ret (PySem.Value.ref l))) s) :=
  .of_wp fun prog w A R s h => by
    obtain ⟨hp, g, d, tk, os⟩ := s
    obtain ⟨hl, h⟩ := h
    have f1 := AutoSeq1.idx_int
    have c0 : (decide ((1 : Int) < -(2 ^ 63)) || decide ((1 : Int) ≥ 2 ^ 63)) = false := by decide
    have c1 : (items.isEmpty || (1 : Int) == 1) = true := by rw [show ((1 : Int) == 1) = true from rfl, Bool.or_true]
    wp_walk using wpAny_loadPart' hl
    repeat (first
      | (refine wpAny_ite_false (decide_eq_false (by rw [c0]; exact Bool.false_ne_true)) ?_; wp_walk using wpAny_loadPart' hl)
      | (refine wpAny_ite_true (decide_eq_true (by rw [c1])) ?_; wp_walk using wpAny_loadPart' hl))
    exact ⟨_, rfl, h⟩
theorem mul_nil (l : Addr) (items : Array PySem.Value) (n : Nat) (dd : Option Addr) (sl : Array (Option PySem.Value)) (x : Int) (u : Tok) (c0 : (decide (x < -(2 ^ 63)) || decide (x ≥ 2 ^ 63)) = false) (c1 : (items.isEmpty || x == 1) = false) (c2 : (decide (x ≤ 0) || items.isEmpty) = true) :
    Meets (Builtin.«tuple.__mul__» ⟨[.ref l, .int x u], []⟩) (fun _ R s => s.heap.get? l = some { cls := .type "tuple", dict := dd, data := .seq items n, slots := sl } ∧
      R (.ok (.ret (PySem.Value.ref s.heap.objs.size))) { s with heap := s.heap.push { cls := PySem.Value.type "tuple", data := Data.seq #[] }, toks := s.toks }) :=
  .of_wp fun prog w A R s h => by
    obtain ⟨hp, g, d, tk, os⟩ := s
    obtain ⟨hl, h⟩ := h
    have f1 := AutoSeq1.idx_int
    wp_walk using wpAny_loadPart' hl
    repeat (first
      | (refine wpAny_ite_false (decide_eq_false (by rw [c0]; exact Bool.false_ne_true)) ?_; wp_walk using wpAny_loadPart' hl)
      | (refine wpAny_ite_false (decide_eq_false (by rw [c1]; exact Bool.false_ne_true)) ?_; wp_walk using wpAny_loadPart' hl)
      | (refine wpAny_ite_true (decide_eq_true (by rw [c2])) ?_; wp_walk using wpAny_loadPart' hl))
    exact ⟨_, rfl, h⟩
def rRep01 (K : PySem.W.Frag) : R2 := fun x y H Q => ∃ l k xs, x = .ref l ∧ y = .int k ∧ SqT K H l xs ∧ xs ≠ [] ∧ ((k = 1 ∧ Q (.ref l) H) ∨ (-1000 ≤ k ∧ k ≤ 0 ∧ ∀ p, H p = none → Q (.ref p) (upd H p (.tup []))))
theorem op_rep01 {X : Cx} : OpR X (binaryOp .Mult) (rRep01 X.K) := by
  intro pins s σ H x y v u Q I rx ry h
  obtain ⟨l, k, xs, rfl, rfl, hT, hne, q⟩ := h
  cases rx
  obtain ⟨t, rfl⟩ := ry
  obtain ⟨its, r, ⟨⟨cls, dd, data, sl⟩, ho, hc, n, hd⟩, hs⟩ := I.tuple hT
  simp only at hc hd
  subst hc hd
  have hle : its.length = xs.length := r.length.symm
  have hn : its ≠ [] := fun e => hne (by
    rw [e] at hle
    exact List.eq_nil_of_length_eq_zero hle.symm)
  have hi : its.toArray.isEmpty = false := by
    cases its with
    | nil => exact absurd rfl hn
    | cons a b => rfl
  rcases q with ⟨rfl, q⟩ | ⟨k0, k1, q⟩
  · refine wpAny_binaryOp_repeat_ref (T := "tuple") (U := "int") (by decide) ⟨_, ho, rfl⟩ (fun s' => typeIs_int s' 1 t) noFill_tuple_mul F.fills_int_mul F.slot_int_rmul repeat_tuple F.slot_int_index.lookup
      (call_meets F.slot_int_rmul (typeIs_int s 1 t) F.entry_int_rmul (F.args_int_rmul_2 _ _) (int_rmul_tuple 1 t l its.toArray n dd sl)
        ⟨ho, rfl, ⟨_, ho, rfl⟩, call_meets F.slot_tuple_mul ⟨_, ho, rfl⟩ F.entry_tuple_mul (F.args_tuple_mul_2 _ _) (mul_one l its.toArray n dd sl t) ⟨ho, ?_⟩⟩)
    exact ⟨.ref l, H, I, rfl, q⟩
  · have c0 : (decide (k < -(2 ^ 63)) || decide (k ≥ 2 ^ 63)) = false := by
      rw [decide_eq_false (by omega), decide_eq_false (by omega)] <;> rfl
    have c1 : (its.toArray.isEmpty || k == 1) = false := by
      rw [hi, Bool.false_or]
      exact beq_eq_false_iff_ne.mpr (by omega)
    have c2 : (decide (k ≤ 0) || its.toArray.isEmpty) = true := by
      rw [decide_eq_true k1]
      rfl
    refine wpAny_binaryOp_repeat_ref (T := "tuple") (U := "int") (by decide) ⟨_, ho, rfl⟩ (fun s' => typeIs_int s' k t) noFill_tuple_mul F.fills_int_mul F.slot_int_rmul repeat_tuple F.slot_int_index.lookup
      (call_meets F.slot_int_rmul (typeIs_int s k t) F.entry_int_rmul (F.args_int_rmul_2 _ _) (int_rmul_tuple k t l its.toArray n dd sl)
        ⟨ho, rfl, ⟨_, ho, rfl⟩, call_meets F.slot_tuple_mul ⟨_, ho, rfl⟩ F.entry_tuple_mul (F.args_tuple_mul_2 _ _) (mul_nil l its.toArray n dd sl k t c0 c1 c2) ⟨ho, ?_⟩⟩)
    refine ⟨.ref s.heap.objs.size, _, I.laid (t' := s.toks) (o := .tup []) (fun b ob q => Heap.get?_push_of_some _ q) (Nat.le_refl _) ?_, rfl, q _ (I.hok.fresh (Nat.le_refl _))⟩
    exact ⟨Nat.zero_le _, [], .nil, IsTup.new _ _⟩
/-- a tuple times any number from -1000 to 1000 -/
theorem op_repAny {X : Cx} : OpR X (binaryOp .Mult) (fun x y H Q => rRep01 X.K x y H Q ∨ rRepT X.K x y H Q) := by
  intro pins s σ H x y v u Q I rx ry h
  rcases h with h | h
  · exact op_rep01 pins s σ H x y v u Q I rx ry h
  · exact op_repT pins s σ H x y v u Q I rx ry h
end AK

set_option Elab.async false
set_option linter.all false
set_option maxRecDepth 100000
set_option maxHeartbeats 4000000
namespace RU
open PySem PySem.Spec PyProof.Rows L2 Tr AK LamX
/-- t + u, whatever of them is empty -/
def rCatU (K : PySem.W.Frag) : R2 := fun x y H Q => ∃ a b xs ys, x = .ref a ∧ y = .ref b ∧ SqT K H a xs ∧ SqT K H b ys ∧ xs.length + ys.length ≤ sizeLine ∧ ∀ p H', Same H H' → SqT K H' p (xs ++ ys) → Q (.ref p) H'
theorem op_catU {X : Cx} : OpR X (binaryOp .Add) (rCatU X.K) := by
  intro pins s σ H x y v u Q I rx ry h
  obtain ⟨a, b, xs, ys, rfl, rfl, h1, h2, hl, q⟩ := h
  refine op_catA pins s σ H _ _ v u Q I rx ry ⟨a, b, xs, ys, rfl, rfl, h1, h2, hl, fun z => ?_, fun _ z => ?_, fun _ _ p np => ?_⟩
  · refine q b H same_refl ?_
    rw [z]
    exact h2
  · refine q a H same_refl ?_
    rw [z, List.append_nil]
    exact h1
  · exact q p _ (same_upd np) (SqT.of upd_same)
/-- (z,) * k -/
def rRepU (K : PySem.W.Frag) : R2 := fun x y H Q => ∃ l k z, x = .ref l ∧ y = .int k ∧ SqT K H l [z] ∧ -1000 ≤ k ∧ k ≤ 1000 ∧ ∀ p H', Same H H' → SqT K H' p (List.replicate k.toNat z) → Q (.ref p) H'
theorem rep_flat {α : Type} (a : α) : ∀ n, (List.replicate n [a]).flatten = List.replicate n a
  | 0 => rfl
  | n + 1 => by rw [List.replicate_succ, List.flatten_cons, rep_flat a n, List.replicate_succ]; rfl
theorem op_repU {X : Cx} : OpR X (binaryOp .Mult) (rRepU X.K) := by
  intro pins s σ H x y v u Q I rx ry h
  obtain ⟨l, k, z, rfl, rfl, h1, k0, k1, q⟩ := h
  refine op_repAny pins s σ H _ _ v u Q I rx ry ?_
  by_cases c0 : k ≤ 0
  · refine .inl ⟨l, k, [z], rfl, rfl, h1, (fun e => nomatch e), .inr ⟨k0, c0, fun p np => q p _ (same_upd np) ?_⟩⟩
    rw [show k.toNat = 0 by omega]
    exact SqT.of upd_same
  · by_cases c1 : k = 1
    · refine .inl ⟨l, k, [z], rfl, rfl, h1, (fun e => nomatch e), .inl ⟨c1, q l H same_refl ?_⟩⟩
      rw [c1]
      exact h1
    · refine .inr ⟨l, k, [z], rfl, rfl, h1, (fun e => nomatch e), by omega, k1, (by show 1 ≤ 1000; decide), fun p np => q p _ (same_upd np) ?_⟩
      have e : (List.replicate k.toNat [z]).flatten = List.replicate k.toNat z := rep_flat z _
      rw [← e]
      exact SqT.of upd_same
end RU

set_option Elab.async false
set_option linter.all false
set_option maxRecDepth 100000
set_option maxHeartbeats 4000000
/-! tuple(d), d a dict with int and text keys -/
namespace RM
open PySem PySem.Spec PyProof.Rows L2
section
variable {prog : Program} {w : World} {A : Around} {E : Value → Shared → Prop} {s : Shared} {T : String} {r d : Addr} {n : Nat} {P : Nat → Value → Prop} {OK : Heap → Prop}
theorem collect_src {Q : List Value → Shared → Prop} (K : PySem.W.KdlSrc prog w T r d n P OK) (hh : A.handled = none) (hok : OK s.heap) (hn : n ≤ sizeLine)
    (hQ : ∀ (h' : Heap) (tk : Nat) (acc : Array Value), (∀ b o, s.heap.get? b = some o → h'.get? b = some o) → ItemsOf P acc n → Q acc.toList { s with heap := h', toks := tk }) :
    wpAny (model prog w) A (collect (.ref r)) Q E s := by
  unfold collect
  refine wpAny_bind (wpAny_runValue (codeAny_builtin F.entry_proto_collect ?_))
  rw [Around.under_plainId F.plain_proto_collect _]
  show wpAny _ A.in1 (newList [] >>= fun l => again (.builtin "list.__iadd__" ⟨[l, .ref r], []⟩)) _ _ s
  refine wpAny_bind (wpAny_newObj_type ?_)
  refine wpAny_pure ⟨plainId_quiet F.plain_list_iadd _, codeAny_builtin F.entry_list_iadd ?_⟩
  rw [Around.under_plainId F.plain_list_iadd _]
  show wpAny _ A.in1 (Builtin.List.listExtendWith (.ref s.heap.objs.size) (.ref r) (.ref s.heap.objs.size)) _ _ _
  have hS : (s.heap.push { cls := .type "list", data := .seq ([] : List Value).toArray }).get? s.heap.objs.size = some { cls := .type "list", data := .seq #[] 0 } := Heap.get?_push_size _ rfl
  have hlt := K.there _ hok
  have hok2 : OK (s.heap.push { cls := .type "list", data := .seq ([] : List Value).toArray }) := K.keep _ _ hok fun b _ o e => Heap.get?_push_of_some _ e
  refine wpAny_mono (PySem.W.kdl_extend (A := A) (R := fun rr s' => rr = .ok (.ret (.ref s.heap.objs.size)) ∧ ∃ (h' : Heap) (tk : Nat) (acc : Array Value) (c' : Nat), s' = { s with heap := h', toks := tk } ∧
      (∀ b o, s.heap.get? b = some o → h'.get? b = some o) ∧ h'.get? s.heap.objs.size = some { cls := .type "list", dict := none, data := .seq acc c', slots := #[] } ∧ ItemsOf P acc n)
    (s := { s with heap := s.heap.push { cls := .type "list", data := .seq ([] : List Value).toArray } }) K hh hok2 _ (Nat.ne_of_gt hlt.1) (Nat.ne_of_gt hlt.2) _ 0 hS
    (fun h' tk acc c' hk e hi => ⟨rfl, h', tk, acc, c', rfl, fun b o q => hk b o (Nat.ne_of_lt (Heap.lt_size q)) (Heap.get?_push_of_some _ q), e, hi⟩) hn) (fun fin s' h => ?_) (fun e s' h => ?_)
  · cases fin with
    | done f =>
      obtain ⟨e, h', tk, acc, c', rfl, hk, hS', hi⟩ := h
      cases e
      show wpAny _ A (load s.heap.objs.size >>= _) _ _ _
      exact wpAny_bind (wpAny_load hS' (wpAny_pure (hQ h' tk acc hk hi)))
    | again c' =>
      refine ⟨h.1, codeAny_mono h.2 fun rr s'' hr' => ?_⟩
      obtain ⟨rfl, h', tk, acc, c', rfl, hk, hS', hi⟩ := hr'
      show wpAny _ A (load s.heap.objs.size >>= _) _ _ _
      exact wpAny_bind (wpAny_load hS' (wpAny_pure (hQ h' tk acc hk hi)))
  · exact absurd h.1 (by simp)
theorem code_tuple_dict {Q₁ : Value → Shared → Prop} (K : PySem.W.KdlSrc prog w "dict" r d n P OK) (hh : A.handled = none) (hok : OK s.heap) (hn : n ≤ sizeLine)
    (h : ∀ (h' : Heap) (tk : Nat) (acc : Array Value), (∀ b o, s.heap.get? b = some o → h'.get? b = some o) → ItemsOf P acc n →
      Q₁ (.ref h'.objs.size) { s with heap := h'.push { cls := .type "tuple", data := .seq acc }, toks := tk }) :
    codeAny (model prog w) A (.call (.builtin "tuple.__new__") ⟨[.type "tuple", .ref r], []⟩) (wants Q₁ E) s := by
  refine codeAny_of_tree ?_
  show wpAny _ A.in1 (do checkBuiltinCall "tuple.__new__" ⟨[.type "tuple", .ref r], []⟩; again (.builtin "tuple.__new__" ⟨[.type "tuple", .ref r], []⟩)) _ _ s
  refine wpAny_bind (wpAny_of_eq (F.newCall_tuple_1 _) (wpAny_pure ⟨plainId_quiet F.plain_tuple_new _, codeAny_builtin F.entry_tuple_new ?_⟩))
  rw [Around.under_plainId F.plain_tuple_new _]
  have hsub := sub_tuple_self
  have hinit := init_tuple_lookup
  have hmh := madeHere_tuple
  have hTI : s.TypeIs (.ref r) "dict" := K.type s hok
  have hh1 : A.in1.handled = none := hh
  wp_walk using wpAny_typeOf hTI, collect_src (A := A.in1) K hh1 hok hn
  intro h' tk acc hk hacc
  show wpAny _ _ (Builtin.Tuple.tupleExact acc.toList.toArray >>= fun v => ret v) _ _ _
  unfold Builtin.Tuple.tupleExact
  refine wpAny_bind (wpAny_newObj_type ?_ (by show acc.toList.toArray.size ≤ sizeLine; simp only [Array.toArray_toList]; rw [hacc.1]; exact hn))
  refine wpAny_pure ?_
  have e : acc.toList.toArray = acc := by simp
  rw [e]
  exact h h' tk acc hk hacc
theorem call_tuple_dict {Q : Value → Shared → Prop} (K : PySem.W.KdlSrc prog w "dict" r d n P OK) (hh : A.handled = none) (hok : OK s.heap) (hn : n ≤ sizeLine)
    (hQ : ∀ (h' : Heap) (tk : Nat) (acc : Array Value), (∀ b o, s.heap.get? b = some o → h'.get? b = some o) → ItemsOf P acc n →
      Q (.ref h'.objs.size) { s with heap := h'.push { cls := .type "tuple", data := .seq acc }, toks := tk }) :
    wpAny (model prog w) A (call (.type "tuple") [.ref r]) Q E s := by
  refine callType_codes (Q₁ := fun obj s₁ => s₁.TypeIs obj "tuple" ∧ Q obj s₁) F.called_tuple (F.typeCall_tuple_1 _) F.entry_object_init
    (code_tuple_dict (A := A.in1) K hh hok hn fun h' tk acc hk hacc => ⟨⟨_, Heap.get?_push_size _ rfl, rfl⟩, hQ h' tk acc hk hacc⟩) fun obj s₁ h₁ => ?_
  exact ⟨h₁.1, F.args_object_init_2 obj _, object_init_meets F.called_tuple.init.lookup F.called_tuple.made (by decide) prog w A.in1 _ s₁ ⟨h₁.1, rfl, h₁.2⟩⟩
end
def rTupD : List V → Hp → VK → Prop := fun xs H Q => ∃ (a : Addr) (kvs : List (Key × V)), xs = [.ref a] ∧ Rd H a (.dK kvs) ∧ ∀ p, H p = none → Q (.ref p) (upd H p (.tup (kvs.map fun kv => kV kv.1)))
theorem call_tupD {X : Cx} (hcalm : X.calm = true) : CallR X (.type "tuple") rTupD := by
  intro pins s σ H xs us Q I r q
  obtain ⟨a, kvs, ex, hd, q⟩ := q
  subst ex
  obtain ⟨u, eu, rx⟩ := vals1 r
  subst eu
  cases rx
  obtain ⟨z, lo, vs, rel, dd⟩ := dk_rd I.hok hd
  obtain ⟨ep, hat⟩ := dd.dictAt
  have ek : (kvs.map fun kv => kV kv.1) = vs.map fun p => kV p.1 := by
    have e := congrArg (List.map kV) rel.keys
    rw [List.map_map, List.map_map] at e
    exact e
  refine call_tuple_dict (PySem.W.kdl_dict (knd := mixKind X.prog X.w) (kvs := vs) (ep := ep) lo) (I.ok.hd hcalm) hat (by rw [← rel.length]; exact z) fun h' tk acc hk hacc => ?_
  have hv : Vals (vs.map fun p => kV p.1) acc.toList := keys_at (by rw [Array.length_toList]; exact hacc.1) fun j v e => hacc.2 j v (by rw [← Array.getElem?_toList]; exact e)
  have I1 : L2.Inv X pins σ H { s with heap := h', toks := tk } := I.kept (t' := tk) hk
  refine ⟨.ref h'.objs.size, upd H h'.objs.size (.tup (kvs.map fun kv => kV kv.1)), I1.laid (t' := tk) (fun b o e => Heap.get?_push_of_some _ e) (Nat.le_refl _)
    (show ObjOk X.prog X.w _ _ _ (.tup (kvs.map fun kv => kV kv.1)) from ⟨by rw [List.length_map]; exact z, acc.toList, by rw [ek]; exact hv, by have := IsTup.new h' acc; rw [Array.toArray_toList]; exact this⟩), rfl, q _ (I1.hok.fresh (Nat.le_refl _))⟩
end RM
namespace RM
open PySem PySem.Spec PyProof.Rows L2
/-! ### l == [] -/
def rEqE (K : PySem.W.Frag) : R2 := fun x y H Q => ∃ a b xs, x = .ref a ∧ y = .ref b ∧ SqL K H a xs ∧ SqL K H b [] ∧ Q (.bl (decide (xs = []))) H
theorem op_eqE {X : Cx} (hu : X.A.units < cLine) : OpR X (compareOp .Eq) (rEqE X.K) := by
  intro pins s σ H x y v u Q I rx ry h
  obtain ⟨a, b, xs, rfl, rfl, ha, hb, q⟩ := h
  cases rx
  cases ry
  obtain ⟨its, r1, p1, _⟩ := I.list ha
  obtain ⟨its2, r2, p2, _⟩ := I.list hb
  cases r2
  cases r1 with
  | nil => exact SeqAt.RcAt.lists (e := fun _ => true) p1.isList p2.isList rfl hu (fun j h => nomatch h) _ _ _ _ ⟨.bl true, H, I, rfl, q⟩
  | cons h t => exact SeqAt.RcAt.lists_lengths p1.isList p2.isList (by simp) hu _ _ _ _ ⟨.bl false, H, I, rfl, q⟩
end RM
namespace RM
open PySem PySem.Spec PyProof.Rows L2
theorem cut_mid {xs : List V} {m n : Nat} (h1 : m ≤ n) (h : n ≤ xs.length) : cutV xs (some (m : Int)) (some (n : Int)) = (xs.drop m).take (n - m) := by
  unfold cutV
  rw [HT.sIx_nat, HT.sIx_nat, Nat.min_eq_left h, Nat.min_eq_left (Nat.le_trans h1 h)]
end RM
namespace RM
open PySem PySem.Spec PyProof.Rows L2
/-- an expression, with a word behind it: what follows is shown once, from Mid -/
def tCutE (t : TE) : TE := fun σ H Q => ∃ Mid : V → Hp → Prop, t σ H Mid ∧ ∀ v H', Mid v H' → Q v H'
theorem pe_cut {X : Cx} {e : PySem.Expr} {t : TE} (he : PE X e t) : PE X e (tCutE t) := ⟨fun pins s σ H Q I ⟨Mid, h1, h2⟩ => thn (he.run pins s σ H Mid I h1) fun v s1 ⟨x, H1, I1, r, q⟩ => ⟨x, H1, I1, r, h2 x H1 q⟩⟩
end RM
namespace RM
open PySem PySem.Spec PyProof.Rows L2
theorem atI_ex {α : Type} {l : List α} {r : Int} (h0 : 0 ≤ r) (h1 : r < l.length) : ∃ c, atI l r = some c ∧ c ∈ l := by
  obtain ⟨i, rfl⟩ : ∃ i : Nat, r = (i : Int) := ⟨r.toNat, by omega⟩
  have hl : i < l.length := by omega
  exact ⟨l[i], atI_nat (List.getElem?_eq_getElem hl), List.getElem_mem hl⟩
theorem pick_int {ns : List Int} {i : Nat} {v : V} (h : (ns.map V.int)[i]? = some v) : ∃ m, m ∈ ns ∧ v = .int m := by
  rw [List.getElem?_map] at h
  obtain ⟨m, hm, rfl⟩ := Option.map_eq_some_iff.mp h
  exact ⟨m, List.mem_of_getElem? hm, rfl⟩
theorem pick_str {ns : List Str} {i : Nat} {v : V} (h : (ns.map V.str)[i]? = some v) : ∃ m, m ∈ ns ∧ v = .str m := by
  rw [List.getElem?_map] at h
  obtain ⟨m, hm, rfl⟩ := Option.map_eq_some_iff.mp h
  exact ⟨m, List.mem_of_getElem? hm, rfl⟩
end RM
namespace RM
open PySem PySem.Spec PyProof.Rows L2
theorem use_b {b c : Bool} (e : b = c) {F : Bool → Hp → Prop} {H : Hp} (h : F c H) : F b H := e ▸ h
end RM

set_option Elab.async false
set_option linter.all false
set_option maxRecDepth 100000
set_option maxHeartbeats 4000000
namespace K23
open PySem PySem.Spec PyProof.Rows L2 Pen Tr AK LamX RL
/-! ### a program read -/
inductive Red where
  | bad (l c : Nat)
  | ok (rs cs : List Str) (os : List (List V))
def readR (rows : List (List Str)) : Red := match namesR rows 1 "registers" 3 with
  | .bad l c => .bad l c
  | .ok rs => match namesR rows 2 "colours" 4 with
    | .bad l c => .bad l c
    | .ok cs => match oGo ⟨numK rs, numK cs, mkK (marksR rows)⟩ 3 ([], []) (rows.drop 2) with
      | .bad l c => .bad l c
      | .ok st => .ok rs cs st.2
def rowsT (t : Str) : List (List Str) := (linesT t).map fun x => Txt.split x " "
theorem spl_cnt : ∀ (l : List Nat) (S : List Nat) (k : Nat) (acc : List Nat), (TL.spl S k acc l).length ≤ l.length + 1
  | [], S, k, acc => by
    rw [TL.spl_nil]
    simp
  | c :: r, S, 0, acc => by
    unfold TL.spl
    split
    · have := spl_cnt r S (S.length - 1) []
      rw [List.length_cons, List.length_cons]
      omega
    · have := spl_cnt r S 0 (acc ++ [c])
      rw [List.length_cons]
      omega
  | c :: r, S, k + 1, acc => by
    unfold TL.spl
    have := spl_cnt r S k acc
    rw [List.length_cons]
    omega
theorem split_cnt {z y : Str} (hy : y.cps.toList ≠ []) (hk : y.cps.all (· < 256) = true) : (Txt.split z y).length ≤ z.length + 1 := by
  have h := TL.split_spl z y hy (TL.kind_ok hk)
  have l := spl_cnt (TL.tl z) y.cps.toList 0 []
  have e : ((Txt.split z y).map TL.tl).length = (Txt.split z y).length := List.length_map _
  rw [h] at e
  have e2 : (TL.tl z).length = z.length := by
    show z.cps.toList.length = z.cps.size
    exact Array.length_toList
  rw [← e, ← e2]
  exact l
theorem lastLine_sub {ls : List Str} : (∀ x ∈ lastLine ls, x ∈ ls) ∧ (lastLine ls).length ≤ ls.length := by
  unfold lastLine
  split
  · exact ⟨fun x hx => List.dropLast_subset _ hx, by rw [List.length_dropLast]; omega⟩
  · exact ⟨fun x hx => hx, Nat.le_refl _⟩
theorem lines_few {t : Str} : (linesT t).length ≤ t.length + 1 ∧ ∀ x ∈ linesT t, x.length ≤ t.length := by
  have c := split_cnt (z := t) (y := "\n") (by decide +kernel) (by decide +kernel)
  have l := split_len (z := t) (y := "\n") (by decide +kernel) (by decide +kernel)
  have s := lastLine_sub (ls := Txt.split t "\n")
  exact ⟨Nat.le_trans s.2 c, fun x hx => l x (s.1 x hx)⟩
structure RowsOk (rows : List (List Str)) : Prop where
  ne : ∀ r ∈ rows, r ≠ []
  sh : ∀ r ∈ rows, ∀ x ∈ r, x.length ≤ 1000000
  few : rows.length ≤ 100000 ∧ ∀ r ∈ rows, r.length ≤ 100000
theorem rows_ok {t : Str} (ht : t.length ≤ 90000) : RowsOk (rowsT t) := by
  have lf := lines_few (t := t)
  refine ⟨fun r hr => ?_, fun r hr x hx => ?_, ?_, fun r hr => ?_⟩
  · obtain ⟨y, hy, rfl⟩ := List.mem_map.mp hr
    exact split_ne (by decide +kernel) (by decide +kernel)
  · obtain ⟨y, hy, rfl⟩ := List.mem_map.mp hr
    have h1 := lf.2 y hy
    have h2 := split_len (z := y) (y := " ") (by decide +kernel) (by decide +kernel) x hx
    omega
  · unfold rowsT
    rw [List.length_map]
    omega
  · obtain ⟨y, hy, rfl⟩ := List.mem_map.mp hr
    have h1 := lf.2 y hy
    have h2 := split_cnt (z := y) (y := " ") (by decide +kernel) (by decide +kernel)
    omega
theorem numK_kV (ns : List Str) : (numK ns).map (fun kv => kV kv.1) = ns.map V.str := by
  unfold numK
  rw [List.map_map]
  generalize 0 = k
  induction ns generalizing k with
  | nil => rfl
  | cons y ns ih =>
    rw [List.zipIdx_cons, List.map_cons, List.map_cons, ih]
    rfl
theorem namesR_len {rows : List (List Str)} {n m : Nat} {w : Str} {ns : List Str} (h : namesR rows (n + 1) w m = .ok ns) : n + 1 ≤ rows.length := by
  unfold namesR at h
  cases e : rows[n + 1 - 1]? with
  | none =>
    rw [e] at h
    cases h
  | some r =>
    have := (List.getElem?_eq_some_iff.mp e).1
    omega
/-- rows of words that are tracked -/
def LnT (H : Hp) (a : Addr) (rows : List (List Str)) : Prop := ∃ xs, H a = some (.lst xs) ∧ Paired (fun (r : List Str) (v : V) => ∃ q, v = .ref q ∧ H q = some (.lst (r.map V.str))) rows xs
theorem LnT.ln {K : PySem.W.Frag} {H : Hp} {a : Addr} {rows : List (List Str)} (l : LnT H a rows) (o : RowsOk rows) : LnAt K H a rows := by
  obtain ⟨xs, h1, h2⟩ := l
  exact ⟨⟨xs, SqL.of h1, Paired.mapP h2 fun r v ⟨q, e, h⟩ => ⟨q, e, SqL.of h⟩⟩, o.ne, o.sh, o.few⟩
theorem LnT.but {H H' : Hp} {a p : Addr} {o : HO} {rows : List (List Str)} (l : LnT H a rows) (hp : H p = some o) (no : ∀ xs, o ≠ .lst xs) (b : But p H H') : LnT H' a rows := by
  obtain ⟨xs, h1, h2⟩ := l
  have ne : ∀ q ys, H q = some (.lst ys) → q ≠ p := fun q ys e z => by
    subst z
    rw [e] at hp
    exact no _ (Option.some.inj hp).symm
  exact ⟨xs, b _ _ h1 (ne _ _ h1), Paired.mapP h2 fun r v ⟨q, e, h⟩ => ⟨q, e, b _ _ h (ne _ _ h)⟩⟩
theorem LnT.same {H H' : Hp} {a : Addr} {rows : List (List Str)} (l : LnT H a rows) (s : Same H H') : LnT H' a rows := by
  obtain ⟨xs, h1, h2⟩ := l
  exact ⟨xs, s _ _ h1, Paired.mapP h2 fun r v ⟨q, e, h⟩ => ⟨q, e, s _ _ h⟩⟩
structure PrF (K : PySem.W.Frag) (C : Addr) : Prop where
  cl : Cls K C
  te : NoAttr K C "text"
  re : NoAttr K C "registers"
  co : NoAttr K C "colours"
  or : NoAttr K C "orders"
/-- a program, read -/
def PrAt (K : PySem.W.Frag) (CP : Addr) (H : Hp) (a : Addr) (t : Str) (rs cs : List Str) (os : List (List V)) : Prop :=
  ∃ dx pr pc po xs, H a = some (.ins CP dx [("text", .str t), ("registers", .ref pr), ("colours", .ref pc), ("orders", .ref po)]) ∧ SqT K H pr (rs.map V.str) ∧ SqT K H pc (cs.map V.str) ∧ SqT K H po xs ∧ OrdsV K H os xs
section
variable {P : Program} {w : World} {K : PySem.W.Frag} {mg : Str → Option PySem.Value} {base : Heap} {f CB CP fLi fWo fNs fMks fOs : Addr} {fd fdLi fdWo fdNs fdMks fdOs : FuncData} {H H' : Hp}
def spPr (K : PySem.W.Frag) (CP CB : Addr) : Sp := fun vs H Q E => ∃ a dx v d, vs = [.ref a, v] ∧ H a = some (.ins CP dx []) ∧ Dp K H v d ∧
  ((kitB (tyD d) "str" = some false ∧ BadE CB E H 0 0) ∨ ∃ t, v = .str t ∧ d = .str t ∧ t.length ≤ 90000 ∧ match readR (rowsT t) with
    | .bad l c => ∀ dd H', But a H H' → H' dd = some (.xd [("column", .int (c : Nat)), ("line", .int (l : Nat))]) → E (.ref CB) (some dd) H'
    | .ok rs cs os => ∀ H', But a H H' → PrAt K CP H' a t rs cs os → Q .non H')
abbrev nPr : List Str := ["self", "text", "lines", "registers", "colours", "known", "line"]
theorem scPr : FnScope nPr ["self", "text"] (defScope (inClass (top 23) 0)) := ⟨rfl, rfl, rfl, by decide +kernel, rfl, by decide +kernel, by decide +kernel⟩
theorem ok_Pr {t1 t2 : Tok} (F : FnM K "__init__" "Program.__init__" (inClass (top 23) 0) f fd) (TX : Txt mg) (PF : PrF K CP) (EB : Er P w K mg base "BadText" CB ["line", "column"]) (gMR : mg "MOST_REGISTERS" = some (.int 3 t1)) (gMC : mg "MOST_COLOURS" = some (.int 4 t2))
    (FLi : FnT K "lines_of" 16 fLi fdLi) (gLi : mg "lines_of" = some (.ref fLi)) (GLi : FnOk P w K mg base CX0 1 fLi fdLi ["text"] spLi)
    (FWo : FnT K "words_of" 17 fWo fdWo) (gWo : mg "words_of" = some (.ref fWo)) (GWo : FnOk P w K mg base CX0 1 fWo fdWo ["line"] spWo)
    (FNs : FnT K "names_of_line" 24 fNs fdNs) (gNs : mg "names_of_line" = some (.ref fNs)) (GNs : FnOk P w K mg base (L2.CX P w) 3 fNs fdNs ["lines", "number", "word", "most"] (spNs K CB))
    (FMks : FnT K "marks_of" 25 fMks fdMks) (gMks : mg "marks_of" = some (.ref fMks)) (GMks : FnOk P w K mg base CX0 2 fMks fdMks ["lines"] (spMks K))
    (FOs : FnT K "orders_of" 26 fOs fdOs) (gOs : mg "orders_of" = some (.ref fOs)) (GOs : FnOk P w K mg base (L2.CX P w) 4 fOs fdOs ["lines", "known"] (spOs K CB)) : FnOk P w K mg base (L2.CX P w) 5 f fd ["self", "text"] (spPr K CP CB) := by
  refine F.ok scPr (fun vs H Q E h => by obtain ⟨a, dx, v, d, rfl, _⟩ := h; rfl) (fun cdv A outer s0 H vs Q E hr h => ?_)
  obtain ⟨a, dx, v, d, rfl, ha, dp, q⟩ := h
  have nd := scPr.nd
  have hu := hr.units
  have hu1 := hu_of hr
  have bLi : L2.Binds K fdLi ["text"] [] := FunD.bindsN FLi fun _ _ _ _ _ _ us hl => match us, hl with | [_], _ => rfl
  have bWo : L2.Binds K fdWo ["line"] [] := FunD.bindsN FWo fun _ _ _ _ _ _ us hl => match us, hl with | [_], _ => rfl
  have bNs : L2.Binds K fdNs ["lines", "number", "word", "most"] [] := FunD.bindsN FNs fun _ _ _ _ _ _ us hl => match us, hl with | [_, _, _, _], _ => rfl
  have bMks : L2.Binds K fdMks ["lines"] [] := FunD.bindsN FMks fun _ _ _ _ _ _ us hl => match us, hl with | [_], _ => rfl
  have bOs : L2.Binds K fdOs ["lines", "known"] [] := FunD.bindsN FOs fun _ _ _ _ _ _ us hl => match us, hl with | [_, _], _ => rfl
  refine ⟨_, pss_cons (ps_if (pt_not (pt_val (pe_callB call_isD (by rfl) TX.isi (by decide +kernel) (pa_cons (pv 1) (pa_cons (pe_bltn (by rfl) TX.str (by decide +kernel) (v := .ty "str") rfl) pa_nil))))) (pss_one (ps_raise rfl (takes_of rfl rfl rfl rfl) (pmk_er EB (hr.mono (by decide : 1 + 2 ≤ 4)) (by rfl) (pa_cons pe_int (pa_cons pe_int pa_nil))))) pss_nil)
    (pss_cons (ps_setLc (i := 2) (own := [("line", 6)]) (g := gName 6) (tt := tYes) (te := tCall spWo [] E0 (tCons (tVar 6) tNil)) (by rfl) nd rfl (by rfl) (by rfl) (pi_list (pe_call GLi (hr.mono (by decide)) (by rfl) gLi FLi.kp bLi .nil pass0 (pa_cons (pv 1) pa_nil))) (blkOk_by (own := [("line", 6)]) (N := nPr) (sc := defScope (inClass (top 23) 0)) (by decide +kernel)) (fun _ _ _ _ _ => (pg_name (i := 6) nd rfl (.inl rfl))) (fun _ _ _ _ _ => pts_nil) (fun _ _ _ _ _ => (pe_call GWo (hr.mono (by decide)) (by rfl) gWo FWo.kp bWo .nil pass0 (pa_cons (pv 6) pa_nil))))
    (pss_cons (ps_asg (pe_callS GNs (hr.mono (by decide)) (by rfl) gNs FNs.kp bNs (fun σ => passAt (takes_of rfl rfl rfl rfl) σ) (pa_cons (pv 2) (pa_cons pe_int (pa_cons pe_str (pa_cons (pe_glob (by rfl) gMR (v := .int 3) ⟨_, rfl⟩) pa_nil))))) (pg_name (i := 3) nd rfl (.inl rfl)))
    (pss_cons (ps_asg (pe_callS GNs (hr.mono (by decide)) (by rfl) gNs FNs.kp bNs (fun σ => passAt (takes_of rfl rfl rfl rfl) σ) (pa_cons (pv 2) (pa_cons pe_int (pa_cons pe_str (pa_cons (pe_glob (by rfl) gMC (v := .int 4) ⟨_, rfl⟩) pa_nil))))) (pg_name (i := 4) nd rfl (.inl rfl)))
    (pss_cons (ps_asg (pe_disp (pps_cons pe_str (pv 3) (pps_cons pe_str (pv 4) (pps_cons pe_str (pe_call GMks (hr.mono (by decide)) (by rfl) gMks FMks.kp bMks .nil pass0 (pa_cons (pv 2) pa_nil)) pps_nil))) rfl rfl (by intro z; cases z) (by decide)) (pg_name (i := 5) nd rfl (.inl rfl)))
    (pss_cons (ps_fld (pv 0) (pv 1) rfl)
    (pss_cons (ps_fld (pv 0) (pe_callTy (RM.call_tupD rfl) (by rfl) TX.tuple (by decide +kernel) (pa_cons (pv 3) pa_nil)) rfl)
    (pss_cons (ps_fld (pv 0) (pe_callTy (RM.call_tupD rfl) (by rfl) TX.tuple (by decide +kernel) (pa_cons (pv 4) pa_nil)) rfl)
    (pss_one (ps_fld (pv 0) (pe_callS GOs (hr.mono (by decide)) (by rfl) gOs FOs.kp bOs (fun σ => passAt (takes_of rfl rfl rfl rfl) σ) (pa_cons (pv 2) (pa_cons (pv 5) pa_nil))) rfl))))))))), ?_⟩
  clear bLi bWo bNs bMks bOs
  rcases q with ⟨hk, q⟩ | ⟨t, rfl, rfl, ht, q⟩
  · exact ⟨_, rfl, v, "str", d, false, rfl, dp, hk, false, rfl, iteT (raise_sp rfl (by decide) fun dd hd H2 s2 e2 => q dd H2 s2 e2)⟩
  refine ⟨_, rfl, .str t, "str", .str t, true, rfl, dp, (show kitB "str" "str" = some true by decide +kernel), true, rfl, iteF ?_⟩
  refine ⟨_, rfl, t, rfl, by omega, fun L H1 s1 hL => ⟨L, rfl, ⟨_, SqL.of hL⟩, fun D nD => ?_⟩⟩
  have ro := rows_ok ht
  have lf := lines_few (t := t)
  refine lc_it (walk_list (K := K) (a := L) (xs := (linesT t).map V.str)) (fun j H' => Same H1 H' ∧ ∃ ys, H' D = some (.lst ys) ∧ ys.length ≤ j ∧ Paired (fun (r : List Str) (v : V) => ∃ q, v = .ref q ∧ H' q = some (.lst (r.map V.str)) ∧ q ≠ D) ((rowsT t).take j) ys) ⟨same_upd nD, [], upd_same, Nat.le_refl _, .nil⟩ (fun j H' _ p => SqL.of (p.1 _ _ hL)) ?_ ?_
  · rintro j x H3 H2 hj ⟨s2, ys, hD, yl, pr⟩ ⟨rfl, hx⟩
    rw [List.getElem?_map] at hx
    obtain ⟨z, hz, rfl⟩ := Option.map_eq_some_iff.mp hx
    have hzl := lf.2 z (List.mem_of_getElem? hz)
    rw [List.length_map] at hj
    refine ⟨rfl, yes_if ⟨_, rfl, z, rfl, by omega, fun p H4 s4 np hp => ⟨ys, s4 _ _ hD, ?_, fun b o e => ?_, _, upd_same, ?_, ?_⟩⟩⟩
    · rw [sizeLine_eq]
      omega
    · rw [upd_ne (ne_of_none e nD)]
      exact s4 _ _ (s2 _ _ e)
    · rw [List.length_append]
      exact Nat.succ_le_succ yl
    · have e : (rowsT t).take (j + 1) = (rowsT t).take j ++ [Txt.split z " "] := by
        unfold rowsT
        rw [List.take_add_one, List.getElem?_map, hz]
        rfl
      rw [e]
      have pD : p ≠ D := Ne.symm (ne_of_none hD np)
      refine Paired.snoc (Paired.mapP pr fun r v ⟨q, e, h, n⟩ => ⟨q, e, by rw [upd_ne n]; exact s4 _ _ h, n⟩) ⟨p, rfl, by rw [upd_ne pD]; exact hp, pD⟩
  · rintro H2 ⟨s2, ys, hD, yl, pr⟩
    have el : (rowsT t).take ((linesT t).map V.str).length = rowsT t := List.take_of_length_le (by unfold rowsT; rw [List.length_map, List.length_map]; exact Nat.le_refl _)
    rw [el] at pr
    have ln : LnT H2 D (rowsT t) := ⟨ys, hD, Paired.mapP pr fun r v ⟨q, e, h, _⟩ => ⟨q, e, h⟩⟩
    have s02 := same_trans s1 s2
    generalize rowsT t = rows at ln q ro
    clear pr yl hD lf nD hL s1 s2 el
    unfold readR at q
    refine ⟨_, rfl, D, rows, 1, 3, "registers", rfl, ln.ln ro, by decide, by decide, by decide, ?_⟩
    cases e1 : namesR rows 1 "registers" 3 with
    | bad l c =>
      rw [e1] at q
      exact fun dd H' s' e' => q dd H' (But.same (same_trans s02 s')) e'
    | ok rs =>
      rw [e1] at q
      intro dR H3 s3 hR
      refine ⟨_, rfl, D, rows, 2, 4, "colours", rfl, (ln.same s3).ln ro, by decide, by decide, by decide, ?_⟩
      cases e2 : namesR rows 2 "colours" 4 with
      | bad l c =>
        simp only [e2] at q
        exact fun dd H' s' e' => q dd H' (But.same (same_trans s02 (same_trans s3 s'))) e'
      | ok cs =>
        simp only [e2] at q
        intro dC H4 s4 hC
        have r2 : 2 ≤ rows.length := namesR_len e2
        have s04 := same_trans s02 (same_trans s3 s4)
        have ln4 := (ln.same s3).same s4
        have hR4 := s4 _ _ hR
        clear ln s02 s3 s4 hR
        intro dk ndk
        have s5 := same_upd (o := .dK []) ndk
        have hk5 := upd_same (H := H4) (a := dk) (o := .dK [])
        have nkH : ∀ b o, H4 b = some o → b ≠ dk := fun b o e => ne_of_none e ndk
        generalize upd H4 dk (.dK []) = H5 at s5 hk5 ⊢
        refine ⟨_, rfl, _, rfl, _, rfl, D, rows, rfl, (ln4.same s5).ln ro, r2, fun dm H6 s6 nm hm => ?_⟩
        refine ⟨s6 _ _ hk5, knK dR dC dm, rfl, by show 3 ≤ 15; decide, ?_⟩
        have e0 : mergeK [] (knK dR dC dm) = knK dR dC dm := by kernel_rfl
        rw [e0]
        have mk : dm ≠ dk := Ne.symm (ne_of_none hk5 nm)
        have s7 : Same H4 (upd H6 dk (.dK (knK dR dC dm))) := fun b o e => by
          rw [upd_ne (nkH b o e)]
          exact s6 _ _ (s5 _ _ e)
        have hk7 := upd_same (H := H6) (a := dk) (o := .dK (knK dR dC dm))
        have hm7 : upd H6 dk (.dK (knK dR dC dm)) dm = some (.dK (mkK (marksR rows))) := by rw [upd_ne mk]; exact hm
        generalize upd H6 dk (.dK (knK dR dC dm)) = H7 at s7 hk7 hm7 ⊢
        have hR7 := s7 _ _ hR4
        have hC7 := s7 _ _ hC
        have ln7 := ln4.same s7
        have s07 := same_trans s04 s7
        clear ln4 s7 s6 s5 s04 hR4 hC hm hk5 nkH mk nm ndk e0 H6 H5 H4 H3
        have ha7 := s07 _ _ ha
        refine ⟨_, rfl, _, rfl, a, CP, dx, _, rfl, ha7, PF.cl, PF.te, (by show 0 < 1000; decide), ?_⟩
        have b8 : But a H7 (upd H7 a (.ins CP dx (putF "text" (.str t) []))) := But.upd But.refl
        have ha8 := upd_same (H := H7) (a := a) (o := .ins CP dx (putF "text" (.str t) []))
        generalize upd H7 a (.ins CP dx (putF "text" (.str t) [])) = H8 at b8 ha8 ⊢
        have nea : ∀ b kvs, H7 b = some (.dK kvs) → b ≠ a := fun b kvs e => ne_of e ha7 fun z => nomatch z
        refine ⟨_, rfl, dR, numK rs, rfl, .inl (b8 _ _ hR7 (nea _ _ hR7)), fun pr npr => ⟨_, rfl, a, CP, dx, _, rfl, (by rw [upd_ne (ne_of_none ha8 npr)]; exact ha8), PF.cl, PF.re, (by show 1 < 1000; decide), ?_⟩⟩
        rw [numK_kV]
        have npa : pr ≠ a := Ne.symm (ne_of_none ha8 npr)
        have hpr : upd (upd H8 pr (.tup (rs.map V.str))) a (.ins CP dx (putF "registers" (.ref pr) (putF "text" (.str t) []))) pr = some (.tup (rs.map V.str)) := by rw [upd_ne npa, upd_same]
        have b9 : But a H7 (upd (upd H8 pr (.tup (rs.map V.str))) a (.ins CP dx (putF "registers" (.ref pr) (putF "text" (.str t) [])))) := fun b o e n => by
          rw [upd_ne n, upd_ne (ne_of_none (b8 _ _ e n) npr)]
          exact b8 _ _ e n
        have ha9 := upd_same (H := upd H8 pr (.tup (rs.map V.str))) (a := a) (o := .ins CP dx (putF "registers" (.ref pr) (putF "text" (.str t) [])))
        generalize upd (upd H8 pr (.tup (rs.map V.str))) a (.ins CP dx (putF "registers" (.ref pr) (putF "text" (.str t) []))) = H9 at b9 ha9 hpr ⊢
        clear npr b8 ha8 H8
        refine ⟨_, rfl, dC, numK cs, rfl, .inl (b9 _ _ hC7 (nea _ _ hC7)), fun pc npc => ⟨_, rfl, a, CP, dx, _, rfl, (by rw [upd_ne (ne_of_none ha9 npc)]; exact ha9), PF.cl, PF.co, (by show 2 < 1000; decide), ?_⟩⟩
        rw [numK_kV]
        have npb : pc ≠ a := Ne.symm (ne_of_none ha9 npc)
        have npr : pr ≠ pc := ne_of_none hpr npc
        have b12 : But a H7 (upd (upd H9 pc (.tup (cs.map V.str))) a (.ins CP dx (putF "colours" (.ref pc) (putF "registers" (.ref pr) (putF "text" (.str t) []))))) := fun b o e n => by
          rw [upd_ne n, upd_ne (ne_of_none (b9 _ _ e n) npc)]
          exact b9 _ _ e n
        have ha12 := upd_same (H := upd H9 pc (.tup (cs.map V.str))) (a := a) (o := .ins CP dx (putF "colours" (.ref pc) (putF "registers" (.ref pr) (putF "text" (.str t) []))))
        have hpc : upd (upd H9 pc (.tup (cs.map V.str))) a (.ins CP dx (putF "colours" (.ref pc) (putF "registers" (.ref pr) (putF "text" (.str t) [])))) pc = some (.tup (cs.map V.str)) := by rw [upd_ne npb, upd_same]
        have hpr2 : upd (upd H9 pc (.tup (cs.map V.str))) a (.ins CP dx (putF "colours" (.ref pc) (putF "registers" (.ref pr) (putF "text" (.str t) [])))) pr = some (.tup (rs.map V.str)) := by rw [upd_ne npa, upd_ne npr]; exact hpr
        generalize upd (upd H9 pc (.tup (cs.map V.str))) a (.ins CP dx (putF "colours" (.ref pc) (putF "registers" (.ref pr) (putF "text" (.str t) [])))) = H12 at b12 ha12 hpc hpr2 ⊢
        clear npc b9 ha9 hpr npr H9
        have ln12 := ln7.but ha7 (fun _ z => nomatch z) b12
        have kn12 : KnAt H12 dk ⟨numK rs, numK cs, mkK (marksR rows)⟩ := ⟨⟨dR, dC, dm, b12 _ _ hk7 (nea _ _ hk7), b12 _ _ hR7 (nea _ _ hR7), b12 _ _ hC7 (nea _ _ hC7), b12 _ _ hm7 (nea _ _ hm7)⟩⟩
        have b012 : But a H H12 := fun b o e n => b12 _ _ (s07 _ _ e) n
        refine ⟨_, rfl, _, rfl, D, dk, rows, _, rfl, ln12.ln ro, r2, kn12, ?_⟩
        cases e3 : oGo ⟨numK rs, numK cs, mkK (marksR rows)⟩ 3 ([], []) (rows.drop 2) with
        | bad l c =>
          simp only [e3] at q
          exact fun dd H' s' e' => q dd H' (But.trans b012 (But.same s')) e'
        | ok st =>
          simp only [e3] at q
          intro po H13 xs s13 hpo hos
          refine ⟨_, rfl, a, CP, dx, _, rfl, s13 _ _ ha12, PF.cl, PF.or, (by show 3 < 1000; decide), ?_⟩
          have ha13 := s13 _ _ ha12
          have tu : Tups H13 (upd H13 a (.ins CP dx (putF "orders" (.ref po) (putF "colours" (.ref pc) (putF "registers" (.ref pr) (putF "text" (.str t) [])))))) := Tups.upd (ins_ntup ha13)
          refine q _ (But.trans b012 (But.upd (But.same s13))) ⟨dx, pr, pc, po, xs, upd_same, SqT.of (by rw [upd_ne npa]; exact s13 _ _ hpr2), SqT.of (by rw [upd_ne npb]; exact s13 _ _ hpc), SqT.tups tu hpo, Paired.mapP hos fun u v ⟨z, e, h⟩ => ⟨z, e, SqT.tups tu h⟩⟩
end
end K23

set_option Elab.async false
set_option linter.all false
set_option maxRecDepth 100000
set_option maxHeartbeats 4000000
/-! what runs within an except suite: a tuple walked by a comprehension; errors of one's own that are known to have no context -/
namespace Hs
open PySem PySem.Spec PyProof.Rows L2 HotX
section
variable {prog : Program} {w : World} {A : Around} {E : PySem.Value → Shared → Prop} {s : Shared}
/-- the tuple's walk is over -/
theorem tuple_over {it t x1 : Addr} {i : Nat} {xs : Array PySem.Value} {Q : Option PySem.Value → Shared → Prop} (hot : HotAt A x1 s.heap) (apart : x1 ≠ it) (walk : s.heap.IsTupleIter it t i) (ht : s.heap.IsTuple t xs) (out : xs[i]? = none)
    (k : ∀ h', Heap.ExtBut it s.heap h' → Q none { s with heap := h' }) : wpAny (model prog w) A (pyNext (.ref it)) Q E s := by
  obtain ⟨hh, ox, vx, gx, dx, cx⟩ := hot
  obtain ⟨ow, gw, cw, dw⟩ := id walk
  obtain ⟨ot, gt, _, nt, dt⟩ := ht
  unfold pyNext
  refine wpAny_bind (wpAny_attempt (wpAny_callSpecial?_slot (name := Str.ofString "__next__") walk.typeIs F.slot_tuple_iterator_next (wpAny_call_entry F.slot_tuple_iterator_next walk.typeIs F.entry_tuple_iterator_next ?_ (F.args_tuple_iterator_next_1 _))))
  show wpAny _ _ ((field (Value.ref it) 0) >>= _) _ _ s
  refine wpAny_bind (wpAny_field gw dw (x := Value.ref t) rfl ?_)
  show wpAny _ _ (if (Value.ref t == Value.none) = true then _ else _) _ _ _
  have never : ¬ ((Value.ref t == Value.none) = true) := fun z => Bool.false_ne_true z
  rw [if_neg never]
  show wpAny _ _ ((field (Value.ref it) 1) >>= _) _ _ s
  refine wpAny_bind (wpAny_field gw dw (x := Value.int i 0) rfl ?_)
  show wpAny _ _ ((seqItems? (Value.ref t)) >>= _) _ _ s
  refine wpAny_bind (wpAny_seqItems gt dt ?_)
  simp only [Int.toNat_natCast, out]
  refine wpAny_bind (wpAny_rule (wpAny_bind (wpAny_setField gw dw (by simp) ?_)))
  show wpAny _ _ ((newExc (.type "StopIteration") []) >>= _) _ _ _
  refine wpAny_bind ?_
  simp only [newExc, newTuple]
  refine wpAny_bind (wpAny_newObj_type ?_ (by size_fits))
  refine wpAny_bind (m := firstArgMember _ _) (wpAny_of_eq (a := PySem.Value.none) (by first | rfl | (simp only [firstArgMember]; rfl)) ?_)
  refine wpAny_newObj_type ?_ (by size_fits)
  have g1 := (Heap.get?_update_other s.heap (Obj.mapFields (·.setIfInBounds 0 PySem.Value.none)) (Ne.symm apart)).trans gx
  refine raiseNew_hot ⟨hh, ox, vx, Heap.get?_push_of_some _ (Heap.get?_push_of_some _ g1), dx, cx⟩ (Nat.ne_of_lt (Heap.lt_size (Heap.get?_push_of_some _ g1))) (Heap.get?_push_size _ rfl) rfl (by first | (simp; done) | (simp; omega) | (simp only [Array.size_append]; simp; omega)) ?_
  refine wpAny_bind (wpAny_isInstance (T := "StopIteration") (b := true) ⟨_, Heap.get?_update_self _ (Heap.get?_push_size _ rfl) rfl, rfl⟩ isSubtype_stop (wpAny_pure (k _ fun b o nb e => ?_)))
  have g2 := (Heap.get?_update_other s.heap (Obj.mapFields (·.setIfInBounds 0 PySem.Value.none)) (Ne.symm nb)).trans e
  rw [Heap.get?_update_other _ _ (Nat.ne_of_gt (Heap.lt_size (Heap.get?_push_of_some _ g2)))]
  exact Heap.get?_push_of_some _ (Heap.get?_push_of_some _ g2)
end

theorem hot_mark {X : Cx} {a : Addr} {oe : Obj} {cls : PySem.Value} {d : Option Addr} {pn : List (Addr × Obj)} (z : L2N.Zn cls d oe) (hf : ∃ vs, oe.data = .fields vs) : L2H.HotC (X.suite a ((a, oe) :: pn)) := by
  obtain ⟨vs, e⟩ := hf
  exact ⟨(a, oe), ⟨rfl, vs, e, z.2.2 vs e⟩, List.mem_cons_self ..⟩
/-- a comprehension of a tuple, within an except suite -/
theorem pe_lcH {X : Cx} {elt tg src : PySem.Expr} {ifs : List PySem.Expr} {scope : Scope} {own : List (Str × Nat)} {pos : Pos} {tl : TE} {g : TG} {tt : TT} {te : TE} (hot : L2H.HotC X) (nd : X.N.Nodup) (tuple : PE X src tl) (blk : BlkOk X.N X.env.scope scope own)
    (target : ∀ (s : Shared) (H : Hp) (C : Addr) (cl : List (Str × Addr)) (fp : List Addr), PG (X.blk s H scope (compEnvC scope cl C X.env) fp) tg g)
    (tests : ∀ (s : Shared) (H : Hp) (C : Addr) (cl : List (Str × Addr)) (fp : List Addr), PTs (X.blk s H scope (compEnvC scope cl C X.env) fp) ifs tt)
    (elem : ∀ (s : Shared) (H : Hp) (C : Addr) (cl : List (Str × Addr)) (fp : List Addr), PE (X.blk s H scope (compEnvC scope cl C X.env) fp) elt te) (plain : ∀ x, foldedSetIterable src X.env x = pure x := by intro _; rfl) :
    PE X (.ListComp elt [⟨tg, src, ifs, 0⟩] scope pos) (tLc (iTup X.K tl) g tt te (own.map (·.2))) := by
  obtain ⟨px, ⟨hh, vx, dx, cx⟩, hpx⟩ := hot
  refine ⟨fun pins s0 σ H0 Q I0 start => ?_⟩
  rw [eval_ListComp]
  have caught : ∀ y ∈ scope.names, y.2 = .free → ∃ c, X.env.cells.lookup y.1 = some c := fun y hy e => (blk.free y hy e).elim (fun k => I0.ok.has _ (.inl k)) fun k => I0.ok.has _ (.inr k)
  refine wpAny_comprehension_free (use := _) rfl plain (closure_ok caught) blk.kind (fun y hy e => by rw [blk.uniq y hy, e]) (thn (tuple.run pins s0 σ H0 _ I0 start) fun _ sa ha => ?_)
  obtain ⟨x, Ha, Ia, rx, a, rfl, ⟨xs, hxs⟩, more⟩ := ha
  cases rx
  obtain ⟨its, _, pt, _⟩ := Ia.tuple hxs
  refine wpAny_pyIter_tuple (show sa.heap.IsTuple a its.toArray from pt) ?_
  have feetA : FpOk X pins Ha sa.heap.objs.size := Ia.fpOk (Nat.le_refl _) (Ia.hok.fresh (Nat.le_refl _))
  have Ib : L2.Inv X pins σ Ha { sa with heap := sa.heap.push { cls := .type "tuple_iterator", data := .fields #[.ref a, .int 0 0] } } := Ia.kept (t' := sa.toks) fun b o e => Heap.get?_push_of_some _ e
  have atA : (sa.heap.push { cls := .type "tuple_iterator", data := .fields #[.ref a, .int 0 0] }).IsTupleIter sa.heap.objs.size a 0 := ⟨_, Heap.get?_push_size _ rfl, rfl, rfl⟩
  have ltA : sa.heap.objs.size < (sa.heap.push { cls := .type "tuple_iterator", data := .fields #[.ref a, .int 0 0] }).objs.size := by rw [Heap.size_push]; exact Nat.lt_succ_self _
  generalize eB : ({ sa with heap := sa.heap.push { cls := .type "tuple_iterator", data := .fields #[.ref a, .int 0 0] } } : Shared) = sb at Ib
  have hB : sa.heap.push { cls := .type "tuple_iterator", data := .fields #[.ref a, .int 0 0] } = sb.heap := by rw [← eB]
  rw [hB] at atA ltA
  generalize sa.heap.objs.size = it at feetA atA ltA ⊢
  refine wpAny_newObj_type (newEnv_comp ?_) (by show 0 ≤ sizeLine; decide)
  obtain ⟨Left, ⟨mFirst, first⟩, each⟩ := more sb.heap.objs.size (Ib.hok.fresh (Nat.le_refl _))
  have Ic : L2.Inv X pins σ (upd Ha sb.heap.objs.size (.lst [])) { sb with heap := sb.heap.push { cls := .type "list", data := .seq ([] : List PySem.Value).toArray } } :=
    Ib.laid (t' := sb.toks) (fun b o e => Heap.get?_push_of_some _ e) (Nat.le_refl _) ⟨Nat.zero_le _, [], 0, .nil, Heap.get?_push_size _ rfl⟩
  have feet1 : FpOk X pins (upd Ha sb.heap.objs.size (.lst [])) it := ⟨by rw [upd_ne (Nat.ne_of_lt ltA)]; exact feetA.1, feetA.2⟩
  have at1 : (sb.heap.push { cls := .type "list", data := .seq ([] : List PySem.Value).toArray }).IsTupleIter it a 0 := atA.at fun o e => Heap.get?_push_of_some _ e
  have lt1 : it < (sb.heap.push { cls := .type "list", data := .seq ([] : List PySem.Value).toArray }).objs.size := by rw [Heap.size_push]; exact Nat.lt_succ_of_lt ltA
  generalize eC : ({ sb with heap := sb.heap.push { cls := .type "list", data := .seq ([] : List PySem.Value).toArray } } : Shared) = sc at Ic
  have hC : sb.heap.push { cls := .type "list", data := .seq ([] : List PySem.Value).toArray } = sc.heap := by rw [← eC]
  rw [hC] at at1 lt1
  generalize sb.heap.objs.size = d at Ic feet1 first each ⊢
  generalize eH : upd Ha d (.lst []) = HC at Ic feet1 first
  have feetC : ∀ b ∈ [it], FpOk X pins HC b ∧ b < sc.heap.objs.size := fun b hb => by
    obtain rfl := List.mem_singleton.mp hb
    exact ⟨feet1, lt1⟩
  have Id := block_start Ic blk nd feetC
  have ptg := target sc HC sc.heap.objs.size (cellsFrom (sc.heap.objs.size + 1) scope.names (cloFrom X.env.cells scope.names [])) [it]
  have pts := tests sc HC sc.heap.objs.size (cellsFrom (sc.heap.objs.size + 1) scope.names (cloFrom X.env.cells scope.names [])) [it]
  have pel := elem sc HC sc.heap.objs.size (cellsFrom (sc.heap.objs.size + 1) scope.names (cloFrom X.env.cells scope.names [])) [it]
  show codeAny _ _ (.compStart (.ListComp elt [⟨tg, src, ifs, 0⟩] scope pos) 0 (.ref it) (.ref d) (compEnvC scope (cellsFrom (sc.heap.objs.size + 1) scope.names (cloFrom X.env.cells scope.names [])) sc.heap.objs.size X.env)) (compPost (model X.prog X.w) X.A X.xe none (EP X pins σ Q) (.ref d) sc.heap.objs.size) { sc with heap := pushCells (sc.heap.push { cls := .type "dict", data := .dict #[] }) scope.names }
  generalize eEnv : compEnvC scope (cellsFrom (sc.heap.objs.size + 1) scope.names (cloFrom X.env.cells scope.names [])) sc.heap.objs.size X.env = env at Id ptg pts pel ⊢
  have eLoc : env.locals = sc.heap.objs.size := by rw [← eEnv] <;> rfl
  generalize eD : ({ sc with heap := pushCells (sc.heap.push { cls := .type "dict", data := .dict #[] }) scope.names } : Shared) = sd at Id ⊢
  have at2 : sd.heap.IsTupleIter it a 0 := by
    rw [← eD]
    exact at1.at fun o e => pushCells_keeps _ _ _ _ (Heap.get?_push_of_some _ e)
  -- the exception that is handled stays as it is
  obtain ⟨x1, x2, _, x4, _⟩ := Ic.pin px (List.mem_append_left _ hpx)
  have notIt : px.1 ≠ it := feet1.2.2.2.2.2 px (List.mem_append_left _ hpx)
  have notFr : px.1 ∉ frs X.stack := fun m => (List.mem_cons.mp (Ic.stkSub px.1 m)).elim (Ic.pin px (List.mem_append_left _ hpx)).2.2.1 x4
  have warm : ∀ {σ' : L2.St} {H' : Hp} {s' : Shared}, L2.Inv (X.blk sc HC scope env [it]) [] σ' H' s' → HotAt X.A px.1 s'.heap := fun I' =>
    ⟨hh, px.2, vx, I'.base.keep px.1 px.2 x1 x2 notFr (fun m => notIt (List.mem_singleton.mp m)), dx, cx⟩
  have keptApart : ∀ {σ' : L2.St} {H' : Hp} {s' : Shared}, L2.Inv (X.blk sc HC scope env [it]) [] σ' H' s' → H' it = none → FpOk (X.blk sc HC scope env [it]) [] H' it := fun I' no => by
    obtain ⟨y1, y2⟩ := I'.ok.exf it (List.mem_singleton.mpr rfl)
    exact ⟨no, y1, I'.ok.exfs it (List.mem_singleton.mpr rfl), .inl (List.mem_singleton.mpr rfl), fun x c e => y2 x c e, fun p hp => by simp at hp⟩
  have turns : codeAny (model X.prog X.w) X.A (.compLoop (.ListComp elt [⟨tg, src, ifs, 0⟩] scope pos) 0 (.ref it) (.ref d) env) (compPost (model X.prog X.w) X.A X.xe none (EP X pins σ Q) (.ref d) sc.heap.objs.size) sd := by
    refine compLoop_any (fun n s' => ∃ i H', L2.Inv (X.blk sc HC scope env [it]) [] (wipe σ (own.map (·.2))) H' s' ∧ s'.heap.IsTupleIter it a i ∧ H' it = none ∧ Left i n H') ?_ mFirst ⟨0, HC, Id, at2, feet1.1, first⟩
    rintro n s1 ⟨i, H1, I1, p1, no1, left⟩
    obtain ⟨f0, f1, f2, f3, f4, f5⟩ := keptApart I1 no1
    rcases each i n H1 left with ⟨⟨ys, hys, past⟩, here⟩ | ⟨⟨ys, x, hys, hx⟩, Next, down, turn⟩
    · obtain ⟨its1, rv1, pt1, _⟩ := I1.tuple hys
      have same := rv1.length
      refine tuple_over (warm I1) notIt p1 (show s1.heap.IsTuple a its1.toArray from pt1) (by simp; omega) fun h' eb => ?_
      have I2 : L2.Inv (X.blk sc HC scope env [it]) [] (wipe σ (own.map (·.2))) H1 { s1 with heap := h' } := I1.turned (t' := s1.toks) (fun b o hb e => eb b o hb e) f0 f1 f3 f4 f5
      have back : L2.Inv X pins σ H1 { s1 with heap := h' } := Ic.call' (ch := [it]) I2.os I2.base I2.hok I2.bare fun b hb => by
        obtain ⟨⟨_, y1, _, y2, y3, y4⟩, _⟩ := feetC b hb
        exact ⟨y2, y1, y3, y4⟩
      have nLoc : H1 sc.heap.objs.size = none := by
        rw [← eLoc]
        exact I2.free
      obtain ⟨m, hm, _⟩ := I2.loc
      have hm2 : h'.Ns sc.heap.objs.size m := by
        rw [← eLoc]
        exact hm
      refine ⟨m, hm2, fun h'' sb2 => ?_⟩
      obtain ⟨y0, y1, y2, y3, y4, y5⟩ := Ic.fpOk (Nat.le_refl _) nLoc
      exact ⟨.ref d, H1, back.turned (t' := s1.toks) (fun b o hb e => (sb2.2 b hb).trans e) y0 y1 y3 y4 y5, rfl, here⟩
    · obtain ⟨its1, rv1, pt1, _⟩ := I1.tuple hys
      obtain ⟨u, hu, ru⟩ := rv1.get hx
      refine wpAny_pyNext_tuple_item p1 (show s1.heap.IsTuple a its1.toArray from pt1) (x := u) (by simpa using hu) fun h' st' sb2 => ?_
      have I2 : L2.Inv (X.blk sc HC scope env [it]) [] (wipe σ (own.map (·.2))) H1 { s1 with heap := h' } := I1.turned (t' := s1.toks) (fun b o hb e => (sb2.2 b hb).trans e) f0 f1 f3 f4 f5
      obtain ⟨ow, gw, cw, dw⟩ := id st'
      refine go_of (s := { s1 with heap := h' }) gw cw dw (by decide) ?_
      have I2p := I2.pinned (fp := [it]) (fun b hb => by
        obtain rfl := List.mem_singleton.mp hb
        exact keptApart I2 no1) (fun b hb => by
        obtain rfl := List.mem_singleton.mp hb
        exact ⟨ow, gw, fun v z => by rw [dw] at z; cases z⟩)
      refine thnF (ptg.run _ _ _ H1 x u _ I2p ru (turn x H1 ⟨rfl, fun zs hzs => by rw [I1.tuple_inj hzs hys]; exact hx⟩)) fun _ s4 z => ?_
      obtain ⟨σ4, H4, I4, same, q4⟩ := z
      refine thnF (pts.run _ s4 σ4 H4 _ I4 q4) fun good s5 z => ?_
      obtain ⟨H5, I5, q5⟩ := z
      have ends : ∀ {se : Shared} {He : Hp}, L2.Inv (X.blk sc HC scope env [it]) ([] ++ pinsAt [it] h') σ4 He se → Next He → ∃ m, m < n ∧ ∃ i H', L2.Inv (X.blk sc HC scope env [it]) [] (wipe σ (own.map (·.2))) H' se ∧ se.heap.IsTupleIter it a i ∧ H' it = none ∧ Left i m H' := fun {se He} Ie nx => by
        obtain ⟨m', lower, left'⟩ := down He nx
        have z := Ie.pin (it, ow) (List.mem_append_right _ (List.mem_append_right _ (mem_pinsAt (List.mem_singleton.mpr rfl) gw)))
        refine ⟨m', lower, i + 1, He, (Ie.unpinned (pins := [])).weak (by rw [← same, wipe_length]) (fun j v e => ?_), ⟨ow, z.1, cw, dw⟩, z.2.1, left'⟩
        rw [← same] at e
        exact (wipe_some e).1
      cases good with
      | false =>
        simp only [Bool.false_eq_true, if_false] at q5 ⊢
        exact ends I5 q5
      | true =>
        simp only [if_true] at q5 ⊢
        refine thnF (pel.run _ s5 σ4 H5 _ I5 q5) fun yv s6 z => ?_
        obtain ⟨y, H6, I6, ry, acc, e6, few, nx⟩ := z
        exact app_ok (X := X.blk sc HC scope env [it]) I6 e6 few ry fun s7 I7 => ends I7 nx
  exact codeAny_compStart_list turns (wpAny_pyIter_tupleiter at2 turns)
/-! ### defs that run within an except suite -/
section
variable {P : Program} {w : World} {K : PySem.W.Frag} {mg : Str → Option PySem.Value} {base : Heap} {x qual : Str} {params : Arguments} {body : List PySem.Stmt} {scope : Scope} {dvs : List V} {kws : List (Str × V)} {f : Addr} {fd : FuncData}
theorem okH {CX : CXT} {N ps : List Str} {k : Nat} {sp : Sp} (D : FunD K x qual params body scope dvs kws f fd) (S : FnScope N ps scope) (len : ∀ vs H Q E, sp vs H Q E → vs.length = ps.length)
    (walk : ∀ (cdv : PySem.Value) (A : Around) (outer : List Env) (s : Shared) (H : Hp) (vs : List V) (Q : VK) (E : XK) (p : Addr × Obj), L2H.Hot1 A p → L2H.RoomH k (A.deeper (envOfC qual scope s.heap.objs.size f cdv)) → sp vs H Q E →
      ∃ t, PSs (L2H.cxH CX P w K mg base N qual scope f cdv A outer s H E p) body t ∧ t { nx := fun _ H' => Q .non H', rt := Q } (start N vs) H) : L2H.FnH P w K mg base CX (k + 1) f fd ps sp := by
  obtain ⟨_, _, _, _, _, _, _, _, _, _, rfl, found, isCode, _, _⟩ := D.ex
  exact L2H.fn_ofH found isCode S len fun A outer s H vs Q E p hot room h => walk _ A outer s H vs Q E p hot room h
end
/-! ### errors of one's own: nothing stands behind them -/
theorem pmk_erN {X : Cx} {k : Nat} {x : Str} {C : Addr} {fs : List Str} {ta : TA} {e : PySem.Expr} {es : List PySem.Expr} {p pos : Pos} (T : Tr.Er X.prog X.w X.K X.mg X.base x C fs) (room : Room (k + 2) X.A) (glob : Gl X x) (ha : PA X (e :: es) ta)
    (hdb : (x == ("__debug__" : Str)) = false := by decide) (he : starEach (e :: es) X.env = (false, eval e X.env) :: starEach es X.env := by rfl) (hpl : (backTo pos (starEach es X.env)).any (·.1) = false := by rfl) :
    L2N.PMk X (.Call (.Name x p) (e :: es) [] pos) (tMkO C (Tr.spI C fs) [] ta) := by
  obtain ⟨fI, fd, iC, tI, F1, hb⟩ := T.ini
  obtain ⟨nm, q, N, bs, bm, sn, sub, ab, col, dd, k0, k1, k2, k3, k5, hC, hbm⟩ := T.t.o.cls
  intro pins s σ H Q I h
  refine wpAny_Call_Name_kw (ld_glob I glob T.mgx ?_ hdb)
  refine PySem.W.callWith_K (h₀ := X.base) I.ok.mod.kin T.t.o.kC (thn (ha.run pos pins s σ H _ I h) fun us s1 hus => ?_) he hpl
  obtain ⟨vs, H1, I1, r1, hz, q1⟩ := hus
  refine ⟨I1.kIn, ?_⟩
  show wpAny _ _ (call (Value.ref C) us) _ _ _
  obtain ⟨hp, g, dr, tk, os⟩ := s1
  have above : hp.objs.size ≤ hp.objs.size + 1 := Nat.le_succ _
  have hq := q1 (hp.objs.size + 1) (I1.hok.fresh above)
  rw [List.append_nil] at hq
  have keep : ∀ b o, hp.get? b = some o → ((hp.push (PySem.W.kdv_tup us)).push (PySem.HandSPX.excO C hp.objs.size)).get? b = some o := fun b o z => Heap.get?_push_of_some _ (Heap.get?_push_of_some _ z)
  have I2 : L2.Inv X pins σ (upd H1 (hp.objs.size + 1) (exo (hp.objs.size + 1) C none)) ⟨(hp.push (PySem.W.kdv_tup us)).push (PySem.HandSPX.excO C hp.objs.size), g, dr, tk, os⟩ :=
    I1.laid (t' := tk) (a := hp.objs.size + 1) (o := exo (hp.objs.size + 1) C none) (h' := (hp.push (PySem.W.kdv_tup us)).push (PySem.HandSPX.excO C hp.objs.size)) keep above (exo_ok (by heap_get))
  have r2 : Vals (V.ref (hp.objs.size + 1) :: vs) (Value.ref (hp.objs.size + 1) :: us) := .cons rfl r1
  have many : (Value.ref (hp.objs.size + 1) :: us).length = (("self" : Str) :: fs).length := by
    rw [← r2.length]
    exact F1.len _ _ _ _ hq
  have few : us.length ≤ sizeLine := by
    rw [← Paired.length r1, sizeLine_eq]
    omega
  have b2 := hb ⟨(hp.push (PySem.W.kdv_tup us)).push (PySem.HandSPX.excO C hp.objs.size), g, dr, tk, os⟩ (Value.ref (hp.objs.size + 1) :: us) I2.kIn (by rw [List.append_nil]; exact many)
  rw [List.append_nil] at b2
  refine wpAny_call (PySem.HandSPX.call_own F.excBase_ValueError (fun Y => PySem.HandSPX.refsVE_contains Y bm hbm) (I1.kIn _ _ hC) (PySem.W.looks_findIn I1.kIn iC) (fun self => PySem.W.bind_fn I1.kIn self tI) few (codeAny_mono (F1.run _ X.stack _ _ ⟨Value.ref (hp.objs.size + 1) :: us, []⟩ (Value.ref (hp.objs.size + 1) :: us) _ _ (fun _ _ _ => False) ((room.mono (show 1 + 1 ≤ k + 2 by omega)).make C us []) (I2.env0.make C us []) b2 r2 hq) fun r s' z => ?_))
  cases r with
  | error er => exact pass0 pins σ _ _ er s' I2 z
  | ok fl =>
    cases fl with
    | next => exact z.elim
    | brk => exact z.elim
    | cont => exact z.elim
    | ret u =>
      obtain ⟨v, H2, os2, bare2, un2, hok2, rv, rfl, d, gs, ea, ed, hd1, q2⟩ := z
      obtain ⟨h2, g2, d2, t2, os'⟩ := s'
      obtain ⟨t0, G, J, kG, ge, hoe, na⟩ := mk_end0 (d2 := d2) (t2 := t2) I1 above keep un2 hok2 os2 bare2 ea ed hd1
      exact ⟨rv, hp.objs.size + 1, _, _, ⟨G, g2, d2, t2, os'⟩, _, .ref C, some d, rfl, J, kG, ge, hoe, ⟨rfl, rfl, fun vs hv => by cases hv; rfl⟩, rfl, rfl, na, rfl, bare2, raises_own T.t.o.exC T.t.o.tyC, q2⟩
theorem passN {X : Cx} : Passes (L2N.CX X.prog X.w) X E0 := fun _ _ _ _ _ _ _ h => by
  obtain ⟨a, B, H', cls, d, z⟩ := h
  exact z.2.2.2.2.2.2.2.elim
end Hs

set_option Elab.async false
set_option linter.all false
set_option maxRecDepth 100000
set_option maxHeartbeats 4000000
namespace RU
open PySem PySem.Spec PyProof.Rows L2 Tr AK LamX
/-- one walk or another -/
theorem pi_or {X : Cx} {tg it : PySem.Expr} {a b : TI} (ha : PI X tg it a) (hb : PI X tg it b) : PI X tg it (fun σ H R => a σ H R ∨ b σ H R) := ⟨fun pins s σ H R I h => h.elim (ha.run pins s σ H R I) (hb.run pins s σ H R I)⟩
/-- isinstance, of data or by the kind -/
def rIsB (K : PySem.W.Frag) : List V → Hp → VK → Prop := fun xs H Q => rIsD K xs H Q ∨ rIsi K xs H Q
theorem call_isB {X : Cx} : CallR X (.builtin "isinstance") (rIsB X.K) := fun pins s σ H xs us Q I r h => h.elim (call_isD pins s σ H xs us Q I r) (call_isi pins s σ H xs us Q I r)
/-! ### repr of data with an empty dict in it -/
mutual
inductive DpE (K : PySem.W.Frag) (H : Hp) : V → PyData → Prop
  | plain {v : V} {d : PyData} : Dp K H v d → DpE K H v d
  | dict {a : Addr} : H a = some (.dK []) → DpE K H (.ref a) (.dict [])
  | tup {a : Addr} {xs : List V} {ds : List PyData} : SqT K H a xs → DpEs K H xs ds → DpE K H (.ref a) (.tuple ds)
inductive DpEs (K : PySem.W.Frag) (H : Hp) : List V → List PyData → Prop
  | nil : DpEs K H [] []
  | cons {v : V} {d : PyData} {vs : List V} {ds : List PyData} : DpE K H v d → DpEs K H vs ds → DpEs K H (v :: vs) (d :: ds)
end
mutual
theorem dp_has {K : PySem.W.Frag} {H : Hp} : ∀ (d : PyData) (v : V), Dp K H v d → d.hasDict = false
  | .none, _, _ => by simp [PyData.hasDict]
  | .bool _, _, _ => by simp [PyData.hasDict]
  | .int _, _, _ => by simp [PyData.hasDict]
  | .str _, _, _ => by simp [PyData.hasDict]
  | .list ds, _, h => by
    cases h with
    | lst _ ha =>
      simp only [PyData.hasDict]
      exact dps_has ds _ ha
  | .tuple ds, _, h => by
    cases h with
    | tup _ ha =>
      simp only [PyData.hasDict]
      exact dps_has ds _ ha
  | .dict _, _, h => by cases h
theorem dps_has {K : PySem.W.Frag} {H : Hp} : ∀ (ds : List PyData) (vs : List V), DpAll K H vs ds → PyData.hasDictAll ds = false
  | [], _, _ => by simp [PyData.hasDictAll]
  | d :: ds, _, h => by
    cases h with
    | cons h1 h2 =>
      simp only [PyData.hasDictAll, dp_has d _ h1, dps_has ds _ h2, Bool.or_self]
end
section
variable {X : Cx} {pins : List (Addr × Obj)} {σ : L2.St} {H : Hp} {s : Shared}
theorem pairs_nil {prog : Program} {w : World} : ∀ {l : List DictEntry}, Pairs (mixKind prog w) l [] → l = []
  | [], _ => rfl
mutual
theorem dpe_shows (I : L2.Inv X pins σ H s) : ∀ {v : V} {d : PyData} {u : PySem.Value}, DpE X.K H v d → RelV v u → d.showable = true → d.shown.length ≤ sizeLine → (∃ as, Reads s.heap u d as) ∧ ∃ bs, ReadAtMost s.heap d.depth bs ∧ ReprK X.prog X.w bs s.heap d.depth u d.shown
  | _, d, u, .plain h, r, hs, hz => by
    obtain ⟨as, rd⟩ := Dp.reads I d _ u h r
    exact ⟨⟨as, rd⟩, ReprK.of_reads rd hs (PyData.noDict_hsm (dp_has d _ h)) hz⟩
  | _, _, u, .dict (a := a) h, r, hs, hz => by
    cases r
    obtain ⟨_, hm, vs, kv, o, es, ep, h1, h2, h3, _, h4, _⟩ := (show ObjOk X.prog X.w H s.heap a (.dK []) from I.hok a _ h)
    cases kv
    have e0 := pairs_nil h4
    have rd : Reads s.heap (.ref a) (.dict []) (a :: [] ++ []) := .dict h1 h2.1 h3 (by rw [e0]; exact .nil) (by rw [e0]; exact .nil)
    refine ⟨⟨_, rd⟩, [a], ReadAtMost.cons (n := 0) rd (Nat.zero_le _) (fun _ h => nomatch h), ?_⟩
    have k := ReprK.dict (prog := X.prog) (w := X.w) (as := []) (d := PyData.depthKv []) (ps := []) h1 h2.1 h3 hm (fun h => nomatch h) (by rw [e0]; exact .nil)
    simpa only [PyData.depth, PyData.shown, PyData.shownKv] using k
  | _, _, u, .tup (a := a) (ds := ds) h ha, r, hs, hz => by
    cases r
    obtain ⟨its, rv, ⟨o, ho, hc, n, hd⟩, _⟩ := I.tuple h
    have hs' : PyData.showableAll ds = true := by simpa [PyData.showable] using hs
    have hz' : (tupleText (PyData.shownAll ds)).length ≤ sizeLine := by simpa only [PyData.shown] using hz
    obtain ⟨⟨as, rds⟩, bs, hb, hk⟩ := dpes_shows I ha rv hs' fun t ht => Nat.le_trans (tupleText_mem_le ht) hz'
    have rd : Reads s.heap (.ref a) (.tuple ds) as := .tuple ho hc hd rds
    have hna : a ∉ bs := not_mem_of_deeper rd (by simp only [PyData.depth]; omega) hb
    refine ⟨⟨as, rd⟩, a :: bs, ReadAtMost.cons rd (by simp only [PyData.depth]; omega) hb, ?_⟩
    simp only [PyData.depth, PyData.shown]
    exact ReprK.tuple ho hc hd hna hk
theorem dpes_shows (I : L2.Inv X pins σ H s) : ∀ {vs : List V} {ds : List PyData} {us : List PySem.Value}, DpEs X.K H vs ds → Vals vs us → PyData.showableAll ds = true → (∀ t ∈ PyData.shownAll ds, t.length ≤ sizeLine) →
    (∃ as, ReadsAll s.heap us ds as) ∧ ∃ bs, ReadAtMost s.heap (PyData.depthAll ds) bs ∧ ReprAllK X.prog X.w bs s.heap (PyData.depthAll ds) us (PyData.shownAll ds)
  | _, _, us, .nil, r, _, _ => by
    cases r
    refine ⟨⟨_, .nil⟩, [], (fun _ h => nomatch h), ?_⟩
    simp only [PyData.shownAll]
    exact .nil
  | _, _, us, .cons (d := d) (ds := ds) h1 h2, r, hs, hz => by
    cases r with
    | cons r1 r2 =>
      have hs' : d.showable = true ∧ PyData.showableAll ds = true := by simpa [PyData.showableAll] using hs
      obtain ⟨⟨as, q1⟩, b1, m1, k1⟩ := dpe_shows I h1 r1 hs'.1 (hz _ (by simp only [PyData.shownAll]; exact List.mem_cons_self ..))
      obtain ⟨⟨bs, q2⟩, b2, m2, k2⟩ := dpes_shows I h2 r2 hs'.2 fun t ht => hz t (by simp only [PyData.shownAll]; exact List.mem_cons_of_mem _ ht)
      have e : PyData.depthAll (d :: ds) = max d.depth (PyData.depthAll ds) := by simp only [PyData.depthAll]
      refine ⟨⟨_, .cons q1 q2⟩, b1 ++ b2, ?_, ?_⟩
      · rw [e]
        exact (m1.mono (Nat.le_max_left _ _)).append (m2.mono (Nat.le_max_right _ _))
      · rw [e]
        simp only [PyData.shownAll]
        exact .cons ((k1.more fun b hb => List.mem_append_left _ hb).level_le (Nat.le_max_left _ _)) (k2.more_le (fun b hb => List.mem_append_right _ hb) (Nat.le_max_right _ _))
end
end
/-- repr(x): of any data, or of a list of such -/
def rShowE (K : PySem.W.Frag) : List V → Hp → VK → Prop := fun xs H Q => rShowV K xs H Q ∨ ∃ (a : Addr) (x : V) (ys : List V) (ds : List PyData), xs = [.ref a] ∧ SqL K H a (x :: ys) ∧ DpEs K H (x :: ys) ds ∧ (PyData.list ds).showable = true ∧ (PyData.list ds).depth ≤ 60 ∧ (PyData.list ds).shown.length ≤ sizeLine ∧ Q (.str (PyData.list ds).shown) H
theorem call_showE {Y : Cx} (free : Y.A.guards = some []) (hu : Y.A.units + 64 < cLine) : CallR Y (.builtin "repr") (rShowE Y.K) := by
  intro pins s σ H xs us Q I rel h
  rcases h with h | ⟨a, x, ys, ds, rfl, hL, hE, hs, deep, short, q⟩
  · exact call_showV free hu pins s σ H xs us Q I rel h
  obtain ⟨u, rfl, ru⟩ := vals1 rel
  cases ru
  obtain ⟨its, rv, ⟨o, n, ho, hc, _, hd⟩, _⟩ := I.list hL
  have hs' : PyData.showableAll ds = true := by simpa [PyData.showable] using hs
  have hz' : (listText (PyData.shownAll ds)).length ≤ sizeLine := by simpa only [PyData.shown] using short
  obtain ⟨⟨as, rds⟩, bs, hb, hk⟩ := dpes_shows I hE rv hs' fun t ht => Nat.le_trans (listText_mem_le ht) hz'
  have rd : Reads s.heap (.ref a) (.list ds) _ := .list ho hc hd rds
  have hna : a ∉ bs := not_mem_of_deeper rd (by simp only [PyData.depth]; omega) hb
  simp only [PyData.depth] at deep
  refine call_repr_slot (by omega) ⟨o, ho, hc⟩ F.slot_list_repr.toG ?_
  cases rv with
  | @cons _ u0 _ us0 r0 rs0 =>
    refine call_list_reprK ho hc hd hna (by simpa using hk.length_eq) (fun i y e => hk.item i y (by simpa using e)) free (fun b _ => Clear.nil b) (by show Y.A.units + 1 + (PyData.depthAll ds + 1) < cLine; omega) (fun _ _ e => e) (fun h' u tk keep => ?_) hz'
    refine ⟨_, _, rfl, .str (PyData.list ds).shown, H, I.kept (t' := tk) keep, ?_, q⟩
    simp only [PyData.shown]
    exact ⟨_, rfl⟩
end RU
namespace RU
open PySem PySem.Spec PyProof.Rows L2 Tr AK LamX
/-! ### the turns of a list's comprehension with two `for` -/
theorem lc2_in {Jb : It} {n : Nat} {G : Hp → Prop} {Y : Nat → Hp → V → Hp → Prop} {g1 : TG} {tt1 : TT} {te : TE} {us : List Nat} {σ2 : L2.St} {H3 : Hp} {D : Addr} {Next : Hp → Prop} (W : Walk Jb n G Y) (Pv : Nat → Hp → Prop) (h0 : Pv 0 H3) (hG : ∀ j H, j ≤ n → Pv j H → G H)
    (hs : ∀ j x H H', j < n → Pv j H → Y j H x H' → g1 x (wipe σ2 us) H' fun σ3 H5 => wipe σ3 us = wipe σ2 us ∧ tt1 σ3 H5 fun b H6 => if b = true then te σ3 H6 fun y H7 => ∃ acc, H7 D = some (.lst acc) ∧ acc.length < sizeLine ∧ Pv (j + 1) (upd H7 D (.lst (acc ++ [y]))) else Pv (j + 1) H6) (hd : ∀ H, Pv n H → Next H) :
    ∃ W1 : Nat → Nat → Hp → Prop, (∃ m, W1 0 m H3) ∧ ∀ j k H, W1 j k H → (Jb.stop j H ∧ Next H) ∨ (Jb.go j H ∧ ∃ N1 : Hp → Prop, (∀ H', N1 H' → ∃ k', k' < k ∧ W1 (j + 1) k' H') ∧ ∀ x H', Jb.yld j H x H' → g1 x (wipe σ2 us) H' fun σ3 H5 => wipe σ3 us = wipe σ2 us ∧ tt1 σ3 H5 fun b H6 =>
      if b = true then te σ3 H6 fun y H7 => ∃ acc, H7 D = some (.lst acc) ∧ acc.length < sizeLine ∧ N1 (upd H7 D (.lst (acc ++ [y]))) else N1 H6) := by
  refine ⟨fun i m H => m = n - i ∧ i ≤ n ∧ Pv i H, ⟨n, by simp, Nat.zero_le _, h0⟩, ?_⟩
  rintro i m H ⟨rfl, hi, p⟩
  have q := hG i H hi p
  by_cases hlt : i < n
  · exact .inr ⟨W.goes i H hlt q, Pv (i + 1), fun H' p' => ⟨n - (i + 1), by omega, rfl, hlt, p'⟩, fun x H' y => hs i x H H' hlt p (W.yields i H x H' hlt q y)⟩
  · have e : i = n := by omega
    subst e
    exact .inl ⟨W.stops H q, hd H p⟩
theorem lc2_out {J : It} {n : Nat} {G : Hp → Prop} {Y : Nat → Hp → V → Hp → Prop} {g g1 : TG} {tt tt1 : TT} {wj : TI} {te : TE} {vs us : List Nat} {σ : L2.St} {H1 : Hp} {D : Addr} {Qd : Hp → Prop} (W : Walk J n G Y) (Pv : Nat → Hp → Prop) (h0 : Pv 0 (upd H1 D (.lst []))) (hG : ∀ j H, j ≤ n → Pv j H → G H)
    (hs : ∀ i x H H', i < n → Pv i H → Y i H x H' → g x (wipe σ vs) H' fun σ2 H2 => wipe σ2 vs = wipe σ vs ∧ tt σ2 H2 fun b H3 => if b = true then wj σ2 H3 fun J1 H4 => ∃ W1 : Nat → Nat → Hp → Prop, (∃ m, W1 0 m H4) ∧ ∀ j k H, W1 j k H →
      (J1.stop j H ∧ Pv (i + 1) H) ∨ (J1.go j H ∧ ∃ N1 : Hp → Prop, (∀ H', N1 H' → ∃ k', k' < k ∧ W1 (j + 1) k' H') ∧ ∀ x H', J1.yld j H x H' → g1 x (wipe σ2 us) H' fun σ3 H5 => wipe σ3 us = wipe σ2 us ∧ tt1 σ3 H5 fun b H6 =>
        if b = true then te σ3 H6 fun y H7 => ∃ acc, H7 D = some (.lst acc) ∧ acc.length < sizeLine ∧ N1 (upd H7 D (.lst (acc ++ [y]))) else N1 H6)
      else Pv (i + 1) H3) (hd : ∀ H, Pv n H → Qd H) :
    ∃ W0 : Nat → Nat → Hp → Prop, (∃ m, W0 0 m (upd H1 D (.lst []))) ∧ ∀ i m H, W0 i m H → (J.stop i H ∧ Qd H) ∨ (J.go i H ∧ ∃ N0 : Hp → Prop, (∀ H', N0 H' → ∃ m', m' < m ∧ W0 (i + 1) m' H') ∧ ∀ x H', J.yld i H x H' → g x (wipe σ vs) H' fun σ2 H2 => wipe σ2 vs = wipe σ vs ∧ tt σ2 H2 fun b H3 =>
      if b = true then wj σ2 H3 fun J1 H4 => ∃ W1 : Nat → Nat → Hp → Prop, (∃ m, W1 0 m H4) ∧ ∀ j k H, W1 j k H →
        (J1.stop j H ∧ N0 H) ∨ (J1.go j H ∧ ∃ N1 : Hp → Prop, (∀ H', N1 H' → ∃ k', k' < k ∧ W1 (j + 1) k' H') ∧ ∀ x H', J1.yld j H x H' → g1 x (wipe σ2 us) H' fun σ3 H5 => wipe σ3 us = wipe σ2 us ∧ tt1 σ3 H5 fun b H6 =>
          if b = true then te σ3 H6 fun y H7 => ∃ acc, H7 D = some (.lst acc) ∧ acc.length < sizeLine ∧ N1 (upd H7 D (.lst (acc ++ [y]))) else N1 H6)
      else N0 H3) := by
  refine ⟨fun i m H => m = n - i ∧ i ≤ n ∧ Pv i H, ⟨n, by simp, Nat.zero_le _, h0⟩, ?_⟩
  rintro i m H ⟨rfl, hi, p⟩
  have q := hG i H hi p
  by_cases hlt : i < n
  · exact .inr ⟨W.goes i H hlt q, Pv (i + 1), fun H' p' => ⟨n - (i + 1), by omega, rfl, hlt, p'⟩, fun x H' y => hs i x H H' hlt p (W.yields i H x H' hlt q y)⟩
  · have e : i = n := by omega
    subst e
    exact .inl ⟨W.stops H q, hd H p⟩
/-! ### isinstance(x, tuple), isinstance(x, (list, tuple)) -/
def rIsU (K : PySem.W.Frag) : List V → Hp → VK → Prop := fun xs H Q => rIsTu K xs H Q ∨ rIsi K xs H Q
theorem call_isU {X : Cx} : CallR X (.builtin "isinstance") (rIsU X.K) := fun pins s σ H xs us Q I r h => h.elim (call_isTu pins s σ H xs us Q I r) (call_isi pins s σ H xs us Q I r)
def rIsLT (K : PySem.W.Frag) : List V → Hp → VK → Prop := fun xs H Q => ∃ (x : V) (tp : Addr), xs = [x, .ref tp] ∧ H tp = some (.tup [.ty "list", .ty "tuple"]) ∧
  ((∃ a ys, x = .ref a ∧ (SqL K H a ys ∨ SqT K H a ys) ∧ Q (.bl true) H) ∨ ∃ (t : PySem.Value), TyX K H x t ∧ PySem.W.kitAny K t [.type "list", .type "tuple"] = some false ∧ Q (.bl false) H)
theorem kit_LT {K : PySem.W.Frag} : PySem.W.kitAny K (.type "list") [.type "list", .type "tuple"] = some true :=
  kitAny_cons (kit_ty (show kitB "list" "list" = some true by decide +kernel)) (fun z => nomatch z) fun _ => rfl
theorem kit_TT {K : PySem.W.Frag} : PySem.W.kitAny K (.type "tuple") [.type "list", .type "tuple"] = some true :=
  kitAny_cons (kit_ty (show kitB "tuple" "list" = some false by decide +kernel)) (fun _ => kitAny_cons (kit_ty (show kitB "tuple" "tuple" = some true by decide +kernel)) (fun z => nomatch z) fun _ => rfl) fun z => nomatch z
theorem call_isLT {X : Cx} : CallR X (.builtin "isinstance") (rIsLT X.K) := by
  intro pins s σ H xs us Q I r h
  obtain ⟨x, tp, rfl, hT, h⟩ := h
  rcases h with ⟨a, ys, rfl, hs, q⟩ | ⟨t, ty, e, q⟩
  · obtain ⟨u1, u2, rfl, r1, r2⟩ := vals2 r
    cases (show u2 = Value.ref tp from r2)
    cases r1
    obtain ⟨_, its, rv, o, h1, h2, n, h3⟩ := (show ObjOk X.prog X.w H s.heap tp (.tup [.ty "list", .ty "tuple"]) from I.hok tp _ hT)
    have e3 := vals_ty2 rv
    subst e3
    obtain ⟨oc, od, dt, sl⟩ := o
    simp only at h2 h3
    subst h2 h3
    rcases hs with hs | hs
    · obtain ⟨its, rv, ⟨o, n, ho, hc, _⟩, _⟩ := I.list hs
      exact PySem.W.kia_tup PySem.W.kitx_list I.kIn ⟨o, ho, hc⟩ h1 kit_LT (fun z => nomatch z) fun tk => ⟨.bl true, H, I.tok tk, rfl, q⟩
    · obtain ⟨its, rv, ⟨o, ho, hc, _⟩, _⟩ := I.tuple hs
      exact PySem.W.kia_tup PySem.W.kitx_tuple I.kIn ⟨o, ho, hc⟩ h1 kit_TT (fun z => nomatch z) fun tk => ⟨.bl true, H, I.tok tk, rfl, q⟩
  · exact call_isiT pins s σ H _ us Q I r ⟨x, tp, _, t, _, false, rfl, hT, .cons (.ty _) (.cons (.ty _) .nil), ty, e, q⟩
/-- a promise of two kinds -/
theorem fn_or {P : Program} {w : World} {K : PySem.W.Frag} {mg : Str → Option PySem.Value} {base : Heap} {CX : CXT} {k : Nat} {f : Addr} {fd : FuncData} {ps : List Str} {a b : Sp} (ha : FnOk P w K mg base CX k f fd ps a) (hb : FnOk P w K mg base CX k f fd ps b) :
    FnOk P w K mg base CX k f fd ps (fun vs H Q E => a vs H Q E ∨ b vs H Q E) :=
  ⟨fun vs H Q E h => h.elim (ha.len vs H Q E) (hb.len vs H Q E), fun A outer s H args us vs Q E r e bt v h => h.elim (ha.run A outer s H args us vs Q E r e bt v) (hb.run A outer s H args us vs Q E r e bt v)⟩
end RU

set_option Elab.async false
set_option linter.all false
set_option maxRecDepth 100000
set_option maxHeartbeats 4000000
namespace K23
open PySem PySem.Spec PyProof.Rows L2 Pen Tr AK LamX RL
theorem inV_str (x : Str) (l : List Str) : inV (.str x) (l.map V.str) = l.contains x := by
  induction l with
  | nil => rfl
  | cons y l ih =>
    rw [List.map_cons, List.contains_cons, ← ih]
    show (eqV (.str y) (.str x) || inV (.str x) (l.map V.str)) = _
    congr 1
    show (y == x) = (x == y)
    rw [Bool.beq_eq_decide_eq, Bool.beq_eq_decide_eq]
    exact decide_eq_decide.mpr ⟨Eq.symm, Eq.symm⟩
theorem flat_strs (l : List Str) : (l.map V.str).all flatV = true := by
  rw [List.all_map]
  exact List.all_eq_true.mpr fun _ _ => rfl
def hcR (r : List Str) (head : Str) (most : Nat) : Nat := if r.headD "" ≠ head then 1 else if r.tail = [] then 2 else match nmFirst most r.tail with
  | some i => i + 2
  | none => 0
theorem hcR_names {rows : List (List Str)} {r : List Str} {n most : Nat} {head : Str} (h : rows[n]? = some r) : namesR rows (n + 1) head most = if hcR r head most = 0 then .ok r.tail else .bad (n + 1) (hcR r head most) := by
  unfold namesR hcR
  rw [show n + 1 - 1 = n from rfl, h]
  simp only
  by_cases c : r.headD "" ≠ head
  · rw [if_pos c, if_pos c, if_neg (by decide)]
  · rw [if_neg c, if_neg c]
    by_cases t : r.tail = []
    · rw [if_pos t, t]
      rw [show nmFirst most [] = none from rfl]
      simp
    · rw [if_neg t]
      cases nmFirst most r.tail with
      | none => simp [t]
      | some i => simp [t]
/-! ### the law's own reading of an order -/
def menuL (rs cs : List Str) (ps : Mks) (c : Nat) : List Str := if c = 82 then rs else if c = 67 then cs else ps.map (·.1)
def placeOf (ps : Mks) (x : Str) : Nat := ((ps.find? fun p => decide (p.1 = x)).map (·.2)).getD 0
def lawV (rs cs : List Str) (ps : Mks) (c : Nat) (x : Str) : Option Nat := if (menuL rs cs ps c).contains x && isNm x then some (if c = 76 then placeOf ps x else (menuL rs cs ps c).idxOf x) else none
def Agree (rs cs : List Str) (ps : Mks) (kn : Kn) : Prop := ∀ c x, (c = 82 ∨ c = 67 ∨ c = 76) → valV (kn.at_ c) (Sum.inr x) = (lawV rs cs ps c x).map fun n => V.int (n : Nat)
def kindK : List (Key × V) := ordK.map fun e => (Sum.inr e.1, V.str e.2)
theorem kind_val (z : Str) : valV kindK (Sum.inr z) = (kindO z).map V.str := by
  unfold kindO kindK valV
  generalize ordK = l
  induction l with
  | nil => rfl
  | cons e l ih =>
    rw [List.map_cons, List.find?_cons, List.find?_cons]
    by_cases c : e.1 = z
    · simp [c]
    · simp only [c, decide_false]
      rw [show decide ((Sum.inr e.1 : Key) = Sum.inr z) = false from decide_eq_false fun h => c (Sum.inr.inj h)]
      exact ih
theorem place_val {ps : Mks} {x : Str} (h : (ps.map (·.1)).contains x = true) : valV (mkK ps) (Sum.inr x) = some (.int (placeOf ps x : Nat)) := by
  unfold placeOf valV mkK
  induction ps with
  | nil => simp at h
  | cons e l ih =>
    rw [List.map_cons, List.find?_cons, List.find?_cons]
    by_cases c : e.1 = x
    · simp [c]
    · simp only [c, decide_false]
      rw [show decide ((Sum.inr e.1 : Key) = Sum.inr x) = false from decide_eq_false fun h => c (Sum.inr.inj h)]
      rw [List.map_cons, List.contains_cons, show (x == e.1) = false from beq_false_of_ne (Ne.symm c), Bool.false_or] at h
      exact ih h
theorem idx_at {l : List Str} {x : Str} (h : l.contains x = true) : l[l.idxOf x]? = some x ∧ ∀ m z, m < l.idxOf x → l[m]? = some z → z ≠ x := by
  have hx : x ∈ l := List.contains_iff_mem.mp h
  have hl := List.idxOf_lt_length_of_mem hx
  refine ⟨by rw [List.getElem?_eq_getElem hl, List.getElem_idxOf hl], fun m z hm hz e => ?_⟩
  obtain ⟨h1, h2⟩ := List.getElem?_eq_some_iff.mp hz
  have z2 := List.not_of_lt_findIdx (p := fun y => y == x) (xs := l) (i := m) hm
  rw [h2, e] at z2
  simp at z2
def lk (ps : Mks) (x : Str) : Option Nat := (ps.find? fun p => decide (p.1 = x)).map (·.2)
def putM (ps : Mks) (x : Str) (v : Nat) : Mks := if (ps.any fun p => decide (p.1 = x)) = true then ps.map (fun p => if p.1 = x then (p.1, v) else p) else ps ++ [(x, v)]
theorem putM_K (ps : Mks) (x : Str) (v : Nat) : putK (mkK ps) (Sum.inr x) (V.int (v : Nat)) = mkK (putM ps x v) := by
  unfold putK putM
  rw [mkK_any]
  by_cases c : (ps.any fun p => decide (p.1 = x)) = true
  · rw [if_pos c, if_pos c]
    unfold mkK
    rw [List.map_map, List.map_map]
    refine List.map_congr_left fun p _ => ?_
    by_cases e : p.1 = x
    · simp [e]
    · simp [e]
  · rw [if_neg c, if_neg c]
    unfold mkK
    rw [List.map_append]
    rfl
theorem putM_len (ps : Mks) (x : Str) (v : Nat) : (putM ps x v).length ≤ ps.length + 1 := by
  unfold putM
  split
  · rw [List.length_map]
    exact Nat.le_succ _
  · rw [List.length_append]
    exact Nat.le_refl _
theorem mkK_val (ps : Mks) (x : Str) : valV (mkK ps) (Sum.inr x) = (lk ps x).map fun n => V.int (n : Nat) := by
  unfold valV mkK lk
  induction ps with
  | nil => rfl
  | cons e l ih =>
    rw [List.map_cons, List.find?_cons, List.find?_cons]
    by_cases c : e.1 = x
    · simp [c]
    · simp only [c, decide_false]
      rw [show decide ((Sum.inr e.1 : Key) = Sum.inr x) = false from decide_eq_false fun h => c (Sum.inr.inj h)]
      exact ih
theorem lk_any (ps : Mks) (x : Str) : (ps.any fun p => decide (p.1 = x)) = (lk ps x).isSome := by
  unfold lk
  rw [Option.isSome_map]
  induction ps with
  | nil => rfl
  | cons e l ih =>
    rw [List.any_cons, List.find?_cons, ih]
    cases decide (e.1 = x) <;> rfl
theorem lk_snoc (ps : Mks) (x y : Str) (v : Nat) : lk (ps ++ [(x, v)]) y = (lk ps y).or (if x = y then some v else none) := by
  unfold lk
  rw [List.find?_append]
  cases (ps.find? fun p => decide (p.1 = y)) with
  | some z => rfl
  | none =>
    simp only [Option.none_or, Option.map_none]
    by_cases c : x = y
    · simp [c]
    · simp [c]
theorem lk_map (ps : Mks) (x y : Str) (v : Nat) : lk (ps.map fun p => if p.1 = x then (p.1, v) else p) y = if x = y then (lk ps y).map (fun _ => v) else lk ps y := by
  unfold lk
  induction ps with
  | nil => simp
  | cons e l ih =>
    rw [List.map_cons, List.find?_cons, List.find?_cons]
    by_cases c : e.1 = x
    · rw [if_pos c]
      by_cases d : e.1 = y
      · have : x = y := by rw [← c]; exact d
        simp [d, this]
      · simp only [d, decide_false]
        exact ih
    · rw [if_neg c]
      by_cases d : e.1 = y
      · have : ¬ x = y := fun z => c (by rw [d, z])
        simp [d, this]
      · simp only [d, decide_false]
        exact ih
theorem lk_put (ps : Mks) (x y : Str) (v : Nat) : lk (putM ps x v) y = if x = y then some v else lk ps y := by
  unfold putM
  rw [lk_any]
  cases c : lk ps x with
  | none =>
    rw [Option.isSome_none, if_neg Bool.false_ne_true, lk_snoc]
    by_cases e : x = y
    · subst e
      rw [if_pos rfl, if_pos rfl, c]
      rfl
    · rw [if_neg e, if_neg e, Option.or_none]
  | some u =>
    rw [Option.isSome_some, if_pos rfl, lk_map]
    by_cases e : x = y
    · subst e
      rw [if_pos rfl, if_pos rfl, c]
      rfl
    · rw [if_neg e, if_neg e]
def lmP (st : Mks × Nat) (r : List Str) : Mks := if r.headD "" = "at" ∧ 1 < r.length then putM st.1 (r.tail.headD "") ((lk st.1 (r.tail.headD "")).getD st.2) else st.1
def lmS (st : Mks × Nat) (r : List Str) : Mks × Nat := (lmP st r, if r.headD "" = "at" then st.2 else st.2 + 1)
def lmF (rows : List (List Str)) : Mks × Nat := rows.foldl lmS ([], 0)
theorem lmF_snoc {rows : List (List Str)} {j : Nat} {r : List Str} (h : rows[j]? = some r) : lmF (rows.take (j + 1)) = lmS (lmF (rows.take j)) r := by
  unfold lmF
  rw [List.take_add_one, h, List.foldl_append]
  rfl
theorem lmP_len (st : Mks × Nat) (r : List Str) : (lmP st r).length ≤ st.1.length + 1 := by
  unfold lmP
  split
  · exact putM_len _ _ _
  · exact Nat.le_succ _
theorem lmF_len (rows : List (List Str)) : ∀ j, (lmF (rows.take j)).1.length ≤ j ∧ (lmF (rows.take j)).2 ≤ j
  | 0 => ⟨Nat.le_refl 0, Nat.le_refl 0⟩
  | j + 1 => by
    obtain ⟨i1, i2⟩ := lmF_len rows j
    cases h : rows[j]? with
    | none =>
      have e : rows.take (j + 1) = rows.take j := by rw [List.take_add_one, h]; simp
      rw [e]
      omega
    | some r =>
      rw [lmF_snoc h]
      have := lmP_len (lmF (rows.take j)) r
      refine ⟨by show (lmP _ _).length ≤ _; omega, ?_⟩
      show (if r.headD "" = "at" then (lmF (rows.take j)).2 else (lmF (rows.take j)).2 + 1) ≤ j + 1
      split <;> omega
structure MkSame (a b : Mks × Nat) : Prop where
  n : a.2 = b.2
  yes : ∀ x, isNm x = true → lk a.1 x = lk b.1 x
  no : ∀ x, isNm x = false → lk a.1 x = none
theorem mk_same_step {a b : Mks × Nat} (h : MkSame a b) (r : List Str) : MkSame (mkS a r) (lmS b r) := by
  unfold mkS lmS lmP
  by_cases c : r.headD "" = "at"
  · rw [if_neg (fun z => z c), if_pos c]
    cases r with
    | nil => exact absurd c (by decide +kernel)
    | cons w0 l =>
      cases l with
      | nil =>
        rw [if_neg (fun z => absurd z.2 (Nat.lt_irrefl 1))]
        exact h
      | cons x l =>
        rw [if_pos ⟨c, by simp⟩]
        show MkSame (if isNm x = true then (if (a.1.any fun p => decide (p.1 = x)) = true then a else (a.1 ++ [(x, a.2)], a.2)) else a) (putM b.1 x ((lk b.1 x).getD b.2), b.2)
        rw [lk_any]
        cases c2 : isNm x with
        | false =>
          rw [if_neg Bool.false_ne_true]
          refine ⟨h.n, fun y hy => ?_, h.no⟩
          rw [lk_put, if_neg (fun z => by subst z; rw [c2] at hy; cases hy)]
          exact h.yes y hy
        | true =>
          rw [if_pos rfl]
          have e := h.yes x c2
          cases c3 : lk a.1 x with
          | some u =>
            rw [Option.isSome_some, if_pos rfl]
            refine ⟨h.n, fun y hy => ?_, h.no⟩
            rw [lk_put, ← e, c3]
            by_cases d : x = y
            · subst d
              rw [if_pos rfl, c3]
              rfl
            · rw [if_neg d]
              exact h.yes y hy
          | none =>
            rw [Option.isSome_none, if_neg Bool.false_ne_true]
            refine ⟨h.n, fun y hy => ?_, fun y hy => ?_⟩
            · show lk (a.1 ++ [(x, a.2)]) y = _
              rw [lk_put, lk_snoc, ← e, c3]
              by_cases d : x = y
              · subst d
                rw [if_pos rfl, if_pos rfl, c3, h.n]
                rfl
              · rw [if_neg d, if_neg d, Option.or_none]
                exact h.yes y hy
            · show lk (a.1 ++ [(x, a.2)]) y = _
              rw [lk_snoc, if_neg (fun z => by subst z; rw [c2] at hy; cases hy), Option.or_none]
              exact h.no y hy
  · rw [if_pos c, if_neg c, if_neg (fun z => c z.1)]
    exact ⟨by show a.2 + 1 = b.2 + 1; rw [h.n], h.yes, h.no⟩
theorem mk_same (rows : List (List Str)) : MkSame (mkF rows) (lmF rows) := by
  unfold mkF lmF
  suffices z : ∀ (l : List (List Str)) a b, MkSame a b → MkSame (l.foldl mkS a) (l.foldl lmS b) from z rows _ _ ⟨rfl, fun _ _ => rfl, fun _ _ => rfl⟩
  intro l
  induction l with
  | nil => exact fun a b h => h
  | cons r l ih => exact fun a b h => ih _ _ (mk_same_step h r)
theorem numK_val (ns : List Str) (x : Str) : valV (numK ns) (Sum.inr x) = if ns.contains x = true then some (V.int (ns.idxOf x : Nat)) else none := by
  suffices z : ∀ (l : List Str) (k : Nat), valV ((l.zipIdx k).map fun p => ((Sum.inr p.1 : Key), V.int (p.2 : Nat))) (Sum.inr x) = if l.contains x = true then some (V.int ((l.idxOf x + k : Nat) : Int)) else none from z ns 0
  intro l
  induction l with
  | nil => exact fun _ => rfl
  | cons y l ih =>
    intro k
    unfold valV at ih ⊢
    rw [List.zipIdx_cons, List.map_cons, List.find?_cons]
    by_cases c : y = x
    · subst c
      simp
    · rw [show decide (((Sum.inr y : Key), V.int (k : Nat)).1 = Sum.inr x) = false from decide_eq_false fun h => c (Sum.inr.inj h)]
      simp only
      rw [ih (k + 1), List.contains_cons, show (x == y) = false from beq_false_of_ne (Ne.symm c), Bool.false_or, List.idxOf_cons, show (y == x) = false from beq_false_of_ne c]
      simp only [cond_false]
      rw [show l.idxOf x + (k + 1) = l.idxOf x + 1 + k by omega]
theorem first_all {m : Nat} {l : List Str} (hf : nmFirst m l = none) : ∀ x ∈ l, isNm x = true := by
  intro x hx
  obtain ⟨i, hi, rfl⟩ := List.getElem_of_mem hx
  unfold nmFirst at hf
  have z := List.find?_eq_none.mp hf i (List.mem_range.mpr hi)
  have gd : l.getD i "" = l[i] := by rw [List.getD_eq_getElem?_getD, List.getElem?_eq_getElem hi]; rfl
  unfold nmBad at z
  rw [gd] at z
  cases c : isNm l[i] with
  | true => rfl
  | false =>
    rw [c] at z
    simp at z
theorem names_all {rows : List (List Str)} {n m : Nat} {w : Str} {ns : List Str} (h : namesR rows n w m = .ok ns) : ∀ x ∈ ns, isNm x = true := by
  unfold namesR at h
  cases e : rows[n - 1]? with
  | none =>
    rw [e] at h
    cases h
  | some r =>
    rw [e] at h
    simp only at h
    generalize r.tail = l at h
    split at h
    · cases h
    · cases hf : nmFirst m l with
      | some i =>
        rw [hf] at h
        cases h
      | none =>
        rw [hf] at h
        simp only at h
        split at h
        · cases h
        · injection h with h
          rw [← h]
          exact first_all hf
theorem names_few {rows : List (List Str)} {n m : Nat} {w : Str} {r : List Str} (h : namesR rows (n + 1) w m = .ok r.tail) (hr : rows[n]? = some r) : r.length ≤ m + 1 := by
  unfold namesR at h
  rw [show n + 1 - 1 = n from rfl, hr] at h
  simp only at h
  split at h
  · cases h
  · cases hf : nmFirst m r.tail with
    | some i =>
      rw [hf] at h
      cases h
    | none =>
      unfold nmFirst at hf
      by_cases c : m < r.tail.length
      · have z := List.find?_eq_none.mp hf m (List.mem_range.mpr c)
        unfold nmBad at z
        rw [decide_eq_true rfl] at z
        simp at z
      · rw [List.length_tail] at c
        omega
theorem namesR_few {rows : List (List Str)} {n m : Nat} {w : Str} {ns : List Str} (h : namesR rows n w m = .ok ns) : ns.length ≤ m := by
  unfold namesR at h
  cases e : rows[n - 1]? with
  | none =>
    rw [e] at h
    cases h
  | some r =>
    rw [e] at h
    simp only at h
    generalize r.tail = l at h
    split at h
    · cases h
    · cases hf : nmFirst m l with
      | some i =>
        rw [hf] at h
        cases h
      | none =>
        rw [hf] at h
        simp only at h
        split at h
        · cases h
        · injection h with h
          rw [← h]
          unfold nmFirst at hf
          by_cases c : m < l.length
          · have z := List.find?_eq_none.mp hf m (List.mem_range.mpr c)
            unfold nmBad at z
            rw [decide_eq_true rfl] at z
            simp at z
          · omega
theorem agree_of {rows : List (List Str)} {rs cs : List Str} (h1 : ∀ x ∈ rs, isNm x = true) (h2 : ∀ x ∈ cs, isNm x = true) : Agree rs cs (lmF (rows.drop 2)).1 ⟨numK rs, numK cs, mkK (marksR rows)⟩ := by
  have nm : ∀ (ns : List Str), (∀ x ∈ ns, isNm x = true) → ∀ x, (ns.contains x && isNm x) = ns.contains x := fun ns h x => by
    cases c : ns.contains x with
    | false => rfl
    | true => exact h x (List.contains_iff_mem.mp c)
  intro c x hc
  rcases hc with rfl | rfl | rfl
  · show valV (numK rs) _ = (if (rs.contains x && isNm x) = true then some (rs.idxOf x) else none).map _
    rw [nm rs h1, numK_val]
    cases rs.contains x <;> rfl
  · show valV (numK cs) _ = (if (cs.contains x && isNm x) = true then some (cs.idxOf x) else none).map _
    rw [nm cs h2, numK_val]
    cases cs.contains x <;> rfl
  · have ms := mk_same (rows.drop 2)
    show valV (mkK (marksR rows)) _ = (if (((lmF (rows.drop 2)).1.map (·.1)).contains x && isNm x) = true then some (placeOf (lmF (rows.drop 2)).1 x) else none).map _
    rw [mkK_val]
    have e1 : ((lmF (rows.drop 2)).1.map (·.1)).contains x = (lk (lmF (rows.drop 2)).1 x).isSome := by
      rw [← lk_any, Bool.eq_iff_iff, List.contains_iff_mem, List.any_eq_true, List.mem_map]
      exact ⟨fun ⟨p, h, e⟩ => ⟨p, h, decide_eq_true e⟩, fun ⟨p, h, e⟩ => ⟨p, h, of_decide_eq_true e⟩⟩
    rw [e1]
    unfold marksR
    cases c : isNm x with
    | false =>
      rw [ms.no x c, Bool.and_false]
      rfl
    | true =>
      rw [ms.yes x c, Bool.and_true]
      show _ = (if _ then some (((lk (lmF (rows.drop 2)).1 x)).getD 0) else none).map _
      cases lk (lmF (rows.drop 2)).1 x <;> rfl
end K23

set_option Elab.async false
set_option linter.all false
set_option maxRecDepth 100000
set_option maxHeartbeats 4000000
namespace K23
open PySem PySem.Spec PyProof.Rows L2 Pen Tr AK LamX RL
/-! ### names drawn -/
/-- no more of them than in the list -/
theorem sub_len {α : Type} [DecidableEq α] : ∀ {l r : List α}, l.Nodup → (∀ x ∈ l, x ∈ r) → l.length ≤ r.length
  | [], r, _, _ => Nat.zero_le _
  | a :: l, r, nd, h => by
    have nd2 : a ∉ l ∧ l.Nodup := List.nodup_cons.mp nd
    have ha := h a (List.mem_cons_self ..)
    have e : (r.erase a).length = r.length - 1 := List.length_erase_of_mem ha
    have z : l.length ≤ (r.erase a).length := sub_len nd2.2 fun x hx => by
      have ne : x ≠ a := fun q => nd2.1 (q ▸ hx)
      exact (List.mem_erase_of_ne ne).mpr (h x (List.mem_cons_of_mem _ hx))
    have : 0 < r.length := List.length_pos_iff.mpr (List.ne_nil_of_mem ha)
    rw [List.length_cons]
    omega
abbrev tl (x : Str) : List Nat := x.cps.toList
theorem tl_len (x : Str) : x.length = (tl x).length := (Array.length_toList).symm
theorem tl_app (x y : Str) : tl (x ++ y) = tl x ++ tl y := by
  show (x.cps ++ y.cps).toList = _
  exact Array.toList_append
structure NmL (l : List Nat) (n : Nat) : Prop where
  ex : ∃ c r, l = c :: r ∧ c ∈ lowS.cps.toList
  all : ∀ c ∈ l, signOk c = true
  few : l.length ≤ n
theorem NmL.nm {x : Str} {n : Nat} (h : NmL (tl x) n) (hn : n ≤ 12) : isNm x = true := by
  obtain ⟨c, r, e, hc⟩ := h.ex
  have l := tl_len x
  have f := h.few
  have l1 : 1 ≤ (tl x).length := by rw [e, List.length_cons]; omega
  have h0 : x.cps[0]? = some c := by
    rw [← Array.getElem?_toList, show x.cps.toList = c :: r from e]
    rfl
  unfold isNm
  rw [decide_eq_true (by omega), decide_eq_true (by omega), h0]
  simp only [decide_eq_true hc, Bool.true_and, Bool.and_self]
  exact List.all_eq_true.mpr h.all
theorem NmL.of {x : Str} (h : isNm x = true) : NmL (tl x) 12 := by
  unfold isNm at h
  obtain ⟨h1, h2⟩ := Bool.and_eq_true_iff.mp h
  obtain ⟨h3, h4⟩ := Bool.and_eq_true_iff.mp h1
  obtain ⟨h5, h6⟩ := Bool.and_eq_true_iff.mp h2
  have l := tl_len x
  have h3 := of_decide_eq_true h3
  have h4 := of_decide_eq_true h4
  refine ⟨?_, List.all_eq_true.mp h6, by omega⟩
  cases e : tl x with
  | nil =>
    rw [e] at l
    simp only [List.length_nil] at l
    omega
  | cons c r =>
    refine ⟨c, r, rfl, ?_⟩
    have h0 : x.cps[0]? = some c := by
      rw [← Array.getElem?_toList, show x.cps.toList = c :: r from e]
      rfl
    rw [h0] at h5
    exact of_decide_eq_true h5
theorem NmL.app {l m : List Nat} {n k : Nat} (h : NmL l n) (hm : ∀ c ∈ m, signOk c = true) (hk : m.length ≤ k) : NmL (l ++ m) (n + k) := by
  obtain ⟨c, r, e, hc⟩ := h.ex
  refine ⟨⟨c, r ++ m, by rw [e]; rfl, hc⟩, fun d hd => ?_, ?_⟩
  · rcases List.mem_append.mp hd with hd | hd
    · exact h.all d hd
    · exact hm d hd
  · rw [List.length_append]
    have := h.few
    omega
theorem NmL.take {l : List Nat} {n : Nat} (h : NmL l n) (k : Nat) (hk : 0 < k) : NmL (l.take k) k := by
  obtain ⟨c, r, e, hc⟩ := h.ex
  refine ⟨⟨c, r.take (k - 1), ?_, hc⟩, fun d hd => h.all d (List.mem_of_mem_take hd), by rw [List.length_take]; omega⟩
  rw [e]
  obtain ⟨k, rfl⟩ : ∃ j, k = j + 1 := ⟨k - 1, by omega⟩
  rfl
def sgS : Str := "abcdefghijklmnopqrstuvwxyz0123456789"
def frS : Str := "acdefghijklmnopqrtuvwxyz"
theorem sg_ok : ∀ c ∈ tl sgS, signOk c = true := by decide +kernel
theorem fr_ok : ∀ c ∈ tl frS, c ∈ lowS.cps.toList := by decide +kernel
theorem low_sign {c : Nat} (h : c ∈ lowS.cps.toList) : signOk c = true := by
  unfold signOk
  rw [decide_eq_true h]
  rfl
theorem cut8 (x : Str) : tl (cutS x none (some 8)) = (tl x).take 8 := by
  unfold cutS
  show (((x.cps.toList.drop (HT.sIx x.length 0 none)).take (HT.sIx x.length x.length (some 8) - HT.sIx x.length 0 none)).toArray).toList = _
  rw [List.toList_toArray, HT.sIx_none, List.drop_zero, Nat.sub_zero, show (some (8 : Int)) = some ((8 : Nat) : Int) from rfl, HT.sIx_nat, tl_len]
  rw [List.take_eq_take_iff]
  show min (min 8 (tl x).length) (tl x).length = min 8 (tl x).length
  omega
def hunS (k : Nat) : Str := Str.ofString (toString ((100 : Int) + (k : Nat)))
theorem hun_tl : ∀ k, k < 3 → tl (hunS k) = [49, 48, 48 + k]
  | 0, _ => by decide +kernel
  | 1, _ => by decide +kernel
  | 2, _ => by decide +kernel
  | k + 3, h => by omega
/-- the next name that is tried -/
def nxtN (x : Str) (k : Nat) : Str := cutS x none (some 8) ++ hunS k
theorem nxt_tl {x : Str} {k : Nat} (h : k < 3) : tl (nxtN x k) = (tl x).take 8 ++ [49, 48, 48 + k] := by
  unfold nxtN
  rw [tl_app, cut8, hun_tl k h]
/-- what is known while names are tried: x0 the first, x the next one, sn those that were there -/
structure Try (x0 : Str) (i : Nat) (x : Str) (sn : List Str) : Prop where
  f0 : NmL (tl x0) 8
  nm : NmL (tl x) 11
  le : (tl x0).length ≤ (tl x).length
  zero : i = 0 → x = x0 ∧ sn = []
  suc : 0 < i → (tl x).getLast? = some (48 + (i - 1)) ∧ (tl x0).length < (tl x).length
  nd : sn.Nodup
  len : sn.length = i
  old : ∀ y ∈ sn, y = x0 ∨ ∃ c, c < 48 + (i - 1) ∧ (tl y).getLast? = some c
theorem Try.fresh {x0 x : Str} {i : Nat} {sn : List Str} (t : Try x0 i x sn) : x ∉ sn := by
  intro h
  by_cases hi : i = 0
  · rw [(t.zero hi).2] at h
    cases h
  · obtain ⟨s1, s2⟩ := t.suc (by omega)
    rcases t.old x h with e | ⟨c, hc, e⟩
    · rw [e] at s2
      omega
    · rw [s1] at e
      injection e with e
      omega
theorem Try.next {x0 x : Str} {i : Nat} {sn : List Str} (t : Try x0 i x sn) (hi : i < 3) : Try x0 (i + 1) (nxtN x i) (sn ++ [x]) := by
  have fr := t.fresh
  have et := nxt_tl (x := x) hi
  have f0 := t.f0.few
  have le := t.le
  have ln : ((tl x).take 8).length = min 8 (tl x).length := List.length_take
  refine ⟨t.f0, ?_, ?_, fun z => absurd z (Nat.succ_ne_zero i), fun _ => ⟨?_, ?_⟩, ?_, ?_, fun y hy => ?_⟩
  · rw [et]
    refine NmL.app (k := 3) (t.nm.take 8 (by decide)) (fun c hc => ?_) (Nat.le_refl 3)
    match i, hi with
    | 0, _ => revert hc; revert c; decide +kernel
    | 1, _ => revert hc; revert c; decide +kernel
    | 2, _ => revert hc; revert c; decide +kernel
  · rw [et, List.length_append, ln]
    show _ ≤ _ + 3
    omega
  · rw [et, List.getLast?_append]
    rfl
  · rw [et, List.length_append, ln]
    show _ < _ + 3
    omega
  · exact List.nodup_append.mpr ⟨t.nd, List.nodup_cons.mpr ⟨List.not_mem_nil, List.nodup_nil⟩, fun a ha b hb e => by
      rw [List.mem_singleton.mp hb] at e
      exact fr (e ▸ ha)⟩
  · rw [List.length_append, t.len]
    rfl
  · rcases List.mem_append.mp hy with hy | hy
    · rcases t.old y hy with e | ⟨c, hc, e⟩
      · exact .inl e
      · exact .inr ⟨c, by omega, e⟩
    · rw [List.mem_singleton.mp hy]
      by_cases h0 : i = 0
      · exact .inl (t.zero h0).1
      · exact .inr ⟨_, by omega, (t.suc (by omega)).1⟩
section
variable {P : Program} {w : World} {K : PySem.W.Frag} {mg : Str → Option PySem.Value} {base : Heap} {f fD fP : Addr} {fd fdD fdP : FuncData} {H H' : Hp}
def spNa (K : PySem.W.Frag) : Sp := fun vs H Q _ => ∃ p pl n u us, vs = [.ref p, .ref u] ∧ PenAt H p pl n ∧ n ≤ 900000 ∧ H u = some (.lst ((us : List Str).map V.str)) ∧ u ≠ p ∧ u ≠ pl ∧ us.length ≤ 2 ∧
  ∀ x H', isNm x = true → x ∉ us → PenAt H' p pl (n + 20) → H' u = some (.lst ((us ++ [x]).map V.str)) → (∀ b o, H b = some o → b ≠ p → b ≠ u → H' b = some o) → Q (.str x) H'
abbrev nNa : List Str := ["_law_pen_here", "_law_used", "_law_signs", "_law_name_here", "_law_k"]
theorem scNa : FnScope nNa ["_law_pen_here", "_law_used"] (defScope (top 60)) := ⟨rfl, rfl, rfl, by decide +kernel, rfl, by decide +kernel, by decide +kernel⟩
theorem ok_Na (F : FnT K "_law_name" 60 f fd) (TX : Txt mg)
    (FD : FnT K "_law_draw" 58 fD fdD) (gD : mg "_law_draw" = some (.ref fD)) (GD : FnOk P w K mg base CX0 1 fD fdD ["_law_pen_here", "_law_many"] spDraw)
    (FP : FnT K "_law_pick" 59 fP fdP) (gP : mg "_law_pick" = some (.ref fP)) (GP : FnOk P w K mg base CX0 2 fP fdP ["_law_pen_here", "_law_some"] (spPick K)) : FnOk P w K mg base CX0 3 f fd ["_law_pen_here", "_law_used"] (spNa K) := by
  refine F.ok scNa (fun vs H Q E h => by obtain ⟨p, pl, n, u, us, rfl, _⟩ := h; rfl) (fun cdv A outer s0 H vs Q E hr h => ?_)
  obtain ⟨p, pl, n, u, us, rfl, PA, hn, hus, up, upl, few, q⟩ := h
  have nd := scNa.nd
  have hu := hr.units
  have hu1 := hu_of hr
  have bD : L2.Binds K fdD ["_law_pen_here", "_law_many"] [] := FunD.bindsN FD fun _ _ _ _ _ _ us hl => match us, hl with | [_, _], _ => rfl
  have bP : L2.Binds K fdP ["_law_pen_here", "_law_some"] [] := FunD.bindsN FP fun _ _ _ _ _ _ us hl => match us, hl with | [_, _], _ => rfl
  suffices z : ∃ tt, PSs (cxOf CX0 P w K mg base nNa "_law_name" (defScope (top 60)) f cdv A outer s0 H E).nox (defBody (top 60)) tt ∧ tt { nx := fun _ H' => Q .non H', rt := Q } (start nNa [.ref p, .ref u]) H by
    obtain ⟨tt, h1, h2⟩ := z
    exact ⟨tt, h1.nox, h2⟩
  refine ⟨_, pss_cons (ps_asg pe_str (pg_name (i := 2) nd rfl (.inl rfl)))
    (pss_cons (ps_asg (pe_ix ix_str pe_str (pe_call GD (hr.mono (by decide)) (by rfl) gD FD.kp bD .nil pass0 (pa_cons (pv 0) (pa_cons pe_int pa_nil))) (fun _ _ => rfl)) (pg_name (i := 3) nd rfl (.inl rfl)))
    (C8.pss_cut (ps_for PassesOwn.never rfl (pi_range1 (by rfl) TX.range (pa_cons (pe_call GP (hr.mono (by decide)) (by rfl) gP FP.kp bP .nil pass0 (pa_cons (pv 0) (pa_cons (pe_lst (pa_cons pe_int (pa_cons pe_int (pa_cons pe_int (pa_cons pe_int (pa_cons pe_int (pa_cons pe_int pa_nil))))))) pa_nil))) pa_nil)) (pg_name (i := 4) nd rfl (.inl rfl))
    (pss_one (ps_asg (pe_op op_add_str (pv 3) (pe_ix ix_str (pv 2) (pe_call GD (hr.mono (by decide)) (by rfl) gD FD.kp bD .nil pass0 (pa_cons (pv 0) (pa_cons pe_int pa_nil))) (fun _ _ => rfl))) (pg_name (i := 3) nd rfl (.inl rfl)))))
    (C8.pss_cut (ps_for PassesOwn.never rfl (pi_range1 (by rfl) TX.range (pa_cons (pe_op op_add (pe_callB call_len_seq (by rfl) TX.len PySem.boot_len (pa_cons (pv 1) pa_nil)) pe_int) pa_nil)) (pg_name (i := 4) nd rfl (.inl rfl))
    (pss_cons (ps_if (pt_cmpR op_notIn_seq (pv 3) (pv 1) (by rfl)) (pss_one ps_break) pss_nil)
    (pss_one (ps_asg (pe_op op_add_str (pe_slice sl_str (pv 3) po_none (po_some pe_int)) (pe_callTy call_str_int (by rfl) TX.str (by decide +kernel) (pa_cons (pe_op op_add pe_int (pv 4)) pa_nil))) (pg_name (i := 3) nd rfl (.inl rfl))))))
    (pss_cons (ps_expr (pe_bm PySem.F.plainAttrs_list PySem.F.slot_list_append PySem.F.type_list_append mt_append (pv 1) (pa_cons (pv 3) pa_nil)))
    (pss_one (ps_ret (pv 3))))))), ?_⟩
  clear bD bP
  refine ⟨_, rfl, p, pl, n, 24, rfl, PA, by omega, by decide, by decide, fun r H1 r0 r1 PA1 b1 => ?_⟩
  obtain ⟨c0, hc0, mc0⟩ := RM.atI_ex (l := frS.cps.toList) r0 (by show r < 24; exact r1)
  refine ⟨frS, r, c0, rfl, rfl, by decide +kernel, hc0, ?_⟩
  have nm0 : NmL (tl ⟨#[c0]⟩) 1 := ⟨⟨c0, [], rfl, fr_ok c0 mc0⟩, fun c hc => by rw [List.mem_singleton.mp hc]; exact low_sign (fr_ok c0 mc0), Nat.le_refl 1⟩
  refine ⟨fun σ H' => ∃ x o4, σ = [some (.ref p), some (.ref u), some (.str sgS), some (.str x), o4] ∧ NmL (tl x) 8 ∧ PenAt H' p pl (n + 12) ∧ But p H H', ?_, ?_⟩
  · refine ⟨_, rfl, (by show 6 ≤ sizeLine; decide), fun l nl => ?_⟩
    have s2 := same_upd (o := .lst [.int 0, .int 0, .int 1, .int 2, .int 4, .int 7]) nl
    have lp : l ≠ p := by
      obtain ⟨kvs, hp⟩ := PA1.is
      exact Ne.symm (ne_of_none hp nl)
    refine ⟨p, pl, l, n + 1, _, rfl, PA1.keep s2, by omega, SqL.of upd_same, (fun z => nomatch z), (by show 6 < 1073741824; decide), lp, fun i v H2 hv PA2 b2 => ?_⟩
    obtain ⟨m, mm, rfl⟩ := RM.pick_int (ns := [0, 0, 1, 2, 4, 7]) hv
    obtain ⟨k, rfl, hk⟩ : ∃ k : Nat, m = (k : Int) ∧ k ≤ 7 := by
      simp only [List.mem_cons, List.not_mem_nil, or_false] at mm
      exact ⟨m.toNat, by omega, by omega⟩
    refine ⟨(k : Int), rfl, by omega, by omega, ?_⟩
    refine for_it (walk_range (lo := 0) (n := k)) (fun j σ H' => ∃ x o4, σ = [some (.ref p), some (.ref u), some (.str sgS), some (.str x), o4] ∧ NmL (tl x) (1 + j) ∧ PenAt H' p pl (n + 2 + j) ∧ But p H H')
      ⟨_, _, rfl, nm0, PA2, But.trans b1 (but_of_same s2 b2)⟩ (fun _ _ _ _ _ => trivial) ?_ ?_
    · rintro j y σ H5 H4 hj ⟨x, o4, rfl, nm, PA4, b4⟩ ⟨rfl, rfl⟩
      refine ⟨_, rfl, _, rfl, _, rfl, p, pl, n + 2 + j, 36, rfl, PA4, by omega, by decide, by decide, fun r H6 r0 r1 PA6 b6 => ?_⟩
      obtain ⟨c, hc, mc⟩ := RM.atI_ex (l := sgS.cps.toList) r0 (by show r < 36; exact r1)
      have nx : NmL (tl (x ++ ⟨#[c]⟩)) (1 + j + 1) := by
        rw [tl_app]
        exact nm.app (fun d hd => by rw [List.mem_singleton.mp hd]; exact sg_ok c mc) (Nat.le_refl 1)
      have fx := nm.few
      refine ⟨sgS, r, c, rfl, rfl, by decide +kernel, hc, x, ⟨#[c]⟩, rfl, rfl, ?_, _, _, rfl, nx, PA6, But.trans b4 b6⟩
      rw [tl_len, sizeLine_eq]
      show _ + 1 ≤ _
      omega
    · rintro σ H4 ⟨x, o4, rfl, nm, PA4, b4⟩
      exact ⟨x, o4, rfl, ⟨nm.ex, nm.all, by have := nm.few; omega⟩, PA4.mono (by omega), b4⟩
  · rintro σ H2 ⟨x0, o4, rfl, nm, PA2, b2⟩
    have hu2 := b2 _ _ hus up
    refine ⟨fun σ H' => ∃ x o4, σ = [some (.ref p), some (.ref u), some (.str sgS), some (.str x), o4] ∧ isNm x = true ∧ x ∉ us ∧ PenAt H' p pl (n + 12) ∧ But p H H', ?_, ?_⟩
    · refine ⟨_, rfl, u, _, rfl, .inl (SqL.of hu2), _, 1, rfl, rfl, ((us.length + 1 : Nat) : Int), (by rw [List.length_map]; rfl), by omega, by omega, ?_⟩
      refine for_it (walk_range (lo := 0) (n := us.length + 1)) (fun i σ H' => ∃ x sn o4, σ = [some (.ref p), some (.ref u), some (.str sgS), some (.str x), o4] ∧ Try x0 i x sn ∧ (∀ y ∈ sn, y ∈ us) ∧ H' = H2)
        ⟨x0, [], o4, rfl, ⟨nm, ⟨nm.ex, nm.all, by have := nm.few; omega⟩, Nat.le_refl _, fun _ => ⟨rfl, rfl⟩, fun z => absurd z (Nat.lt_irrefl 0), List.nodup_nil, rfl, fun y hy => absurd hy List.not_mem_nil⟩, fun y hy => absurd hy List.not_mem_nil, rfl⟩ (fun _ _ _ _ _ => trivial) ?_ ?_
      · rintro i y σ H5 H4 hi ⟨x, sn, o4, rfl, tr, sub, rfl⟩ ⟨rfl, rfl⟩
        refine ⟨_, rfl, _, rfl, u, _, rfl, .inl (SqL.of hu2), rfl, flat_strs _, _, rfl, ?_⟩
        rw [if_pos rfl, inV_str]
        cases c : us.contains x with
        | false =>
          refine iteT ⟨x, _, rfl, tr.nm.nm (by decide), fun z => ?_, PA2, b2⟩
          rw [List.contains_iff_mem.mpr z] at c
          cases c
        | true =>
          have i3 : i < 3 := by omega
          have fx := tr.nm.few
          have lx : x.length ≤ sizeLine := by rw [tl_len, sizeLine_eq]; omega
          refine iteF ⟨_, rfl, 8, rfl, x, rfl, lx, _, rfl, 100, _, rfl, rfl, (100 : Int) + (0 + (i : Nat)), rfl, ?_, _, _, rfl, rfl, ?_, ?_⟩
          · match i, i3 with
            | 0, _ => decide +kernel
            | 1, _ => decide +kernel
            | 2, _ => decide +kernel
          · rw [Int.zero_add]
            show (cutS x none (some 8)).length + (hunS i).length ≤ _
            rw [tl_len, tl_len, cut8, hun_tl i i3, List.length_take, sizeLine_eq]
            show _ + 3 ≤ _
            omega
          · rw [Int.zero_add]
            exact ⟨nxtN x i, sn ++ [x], _, rfl, tr.next i3, fun y hy => by
              rcases List.mem_append.mp hy with hy | hy
              · exact sub y hy
              · rw [List.mem_singleton.mp hy]
                exact List.contains_iff_mem.mp c, rfl⟩
      · rintro σ H4 ⟨x, sn, o4, rfl, tr, sub, rfl⟩
        have := sub_len tr.nd sub
        rw [tr.len] at this
        omega
    · rintro σ H4 ⟨x, o4, rfl, nx, nin, PA4, b4⟩
      have hu4 := b4 _ _ hus up
      refine ⟨_, rfl, .inl ⟨rfl, _, SqL.of hu4⟩, _, rfl, u, _, .str x, rfl, rfl, hu4, ?_, _, rfl, ?_⟩
      · rw [List.length_map, sizeLine_eq]
        omega
      · refine q x _ nx nin ((PA4.other up upl).mono (by omega)) ?_ (fun b o e n1 n2 => ?_)
        · rw [upd_same, List.map_append]
          rfl
        · rw [upd_ne n2]
          exact b4 _ _ e n1
end
end K23

set_option Elab.async false
set_option linter.all false
set_option maxRecDepth 100000
set_option maxHeartbeats 4000000
namespace K23
open PySem PySem.Spec PyProof.Rows L2 Pen Tr AK LamX RL
section
variable {P : Program} {w : World} {K : PySem.W.Frag} {mg : Str → Option PySem.Value} {base : Heap} {f fNa : Addr} {fd fdNa : FuncData} {H H' : Hp}
/-- names drawn -/
structure NmsOk (xs : List Str) : Prop where
  nm : ∀ x ∈ xs, isNm x = true
  nd : xs.Nodup
def spNas (K : PySem.W.Frag) : Sp := fun vs H Q _ => ∃ p pl n, ∃ m : Nat, vs = [.ref p, .int m] ∧ PenAt H p pl n ∧ n ≤ 800000 ∧ m ≤ 3 ∧
  ∀ a H' xs, (xs : List Str).length = m → NmsOk xs → PenAt H' p pl (n + 60) → But p H H' → H a = none → H' a = some (.lst (xs.map V.str)) → Q (.ref a) H'
abbrev nNas : List Str := ["_law_pen_here", "_law_many", "_law_used", "_law_k"]
theorem scNas : FnScope nNas ["_law_pen_here", "_law_many"] (defScope (top 61)) := ⟨rfl, rfl, rfl, by decide +kernel, rfl, by decide +kernel, by decide +kernel⟩
theorem ok_Nas (F : FnT K "_law_names" 61 f fd) (TX : Txt mg)
    (FNa : FnT K "_law_name" 60 fNa fdNa) (gNa : mg "_law_name" = some (.ref fNa)) (GNa : FnOk P w K mg base CX0 3 fNa fdNa ["_law_pen_here", "_law_used"] (spNa K)) : FnOk P w K mg base CX0 4 f fd ["_law_pen_here", "_law_many"] (spNas K) := by
  refine F.ok scNas (fun vs H Q E h => by obtain ⟨p, pl, n, m, rfl, _⟩ := h; rfl) (fun cdv A outer s0 H vs Q E hr h => ?_)
  obtain ⟨p, pl, n, m, rfl, PA, hn, hm, q⟩ := h
  have nd := scNas.nd
  have hu := hr.units
  have hu1 := hu_of hr
  have bNa : L2.Binds K fdNa ["_law_pen_here", "_law_used"] [] := FunD.bindsN FNa fun _ _ _ _ _ _ us hl => match us, hl with | [_, _], _ => rfl
  suffices z : ∃ tt, PSs (cxOf CX0 P w K mg base nNas "_law_names" (defScope (top 61)) f cdv A outer s0 H E).nox (defBody (top 61)) tt ∧ tt { nx := fun _ H' => Q .non H', rt := Q } (start nNas [.ref p, .int m]) H by
    obtain ⟨tt, h1, h2⟩ := z
    exact ⟨tt, h1.nox, h2⟩
  refine ⟨_, pss_cons (ps_asg (pe_lst pa_nil) (pg_name (i := 2) nd rfl (.inr rfl)))
    (pss_one (ps_ret (pe_lc (own := [("_law_k", 3)]) (g := gName 3) (tt := tYes) (te := tCall (spNa K) [] E0 (tCons (tVar 0) (tCons (tVar 2) tNil))) (by rfl) nd (pi_range1 (by rfl) TX.range (pa_cons (pv 1) pa_nil)) (blkOk_by (own := [("_law_k", 3)]) (N := nNas) (sc := defScope (top 61)) (by decide +kernel)) (fun _ _ _ _ _ => (pg_name (i := 3) nd rfl (.inl rfl))) (fun _ _ _ _ _ => pts_nil) (fun _ _ _ _ _ => (pe_call GNa (hr.mono (by decide)) (by rfl) gNa FNa.kp bNa .nil pass0 (pa_cons (pv 0) (pa_cons (pv 2) pa_nil))))))), ?_⟩
  clear bNa
  obtain ⟨kvs, hp⟩ := PA.is
  obtain ⟨cl, hpl⟩ := PA.lis
  refine ⟨(by show 0 ≤ sizeLine; exact Nat.zero_le _), fun u nu => ?_⟩
  change H u = none at nu
  have s1 := same_upd (o := .lst ([] : List V)) nu
  have hu1 := upd_same (H := H) (a := u) (o := .lst ([] : List V))
  have up : u ≠ p := Ne.symm (ne_of_none hp nu)
  have upl : u ≠ pl := Ne.symm (ne_of_none hpl nu)
  have nuH : ∀ b o, H b = some o → b ≠ u := fun b o e => ne_of_none e nu
  generalize upd H u (.lst ([] : List V)) = H1 at s1 hu1 ⊢
  refine ⟨_, rfl, m, rfl, by omega, by omega, fun D nD => ?_⟩
  have Dp : D ≠ p := Ne.symm (ne_of_none (s1 _ _ hp) nD)
  have Dpl : D ≠ pl := Ne.symm (ne_of_none (s1 _ _ hpl) nD)
  have Du : D ≠ u := Ne.symm (ne_of_none hu1 nD)
  have nDH : H D = none := by
    cases e : H D with
    | none => rfl
    | some o => exact absurd (s1 _ _ e) (by rw [nD]; exact fun z => nomatch z)
  have s2 := same_upd (o := .lst ([] : List V)) nD
  refine lc_it (walk_range (lo := 0) (n := m)) (fun j H' => ∃ xs : List Str, xs.length = j ∧ NmsOk xs ∧ PenAt H' p pl (n + 20 * j) ∧ (∀ b o, H b = some o → b ≠ p → H' b = some o) ∧ H' u = some (.lst (xs.map V.str)) ∧ H' D = some (.lst (xs.map V.str)))
    ⟨[], rfl, ⟨fun _ h => absurd h List.not_mem_nil, List.nodup_nil⟩, (PA.keep s1).keep s2, fun b o e _ => s2 _ _ (s1 _ _ e), s2 _ _ hu1, upd_same⟩ (fun _ _ _ _ => trivial) ?_ ?_
  · rintro j x H3 H2 hj ⟨xs, xl, ok, PA3, b3, hu3, hD3⟩ ⟨rfl, rfl⟩
    refine ⟨rfl, yes_if ⟨_, rfl, _, rfl, p, pl, n + 20 * j, u, xs, rfl, PA3, by omega, hu3, up, upl, by omega, fun y H4 nm nin PA4 hu4 b4 => ?_⟩⟩
    have hD4 := b4 _ _ hD3 Dp Du
    refine ⟨_, hD4, by rw [List.length_map, sizeLine_eq]; omega, xs ++ [y], by rw [List.length_append, xl]; rfl, ⟨fun z hz => ?_, ?_⟩, (PA4.other Dp Dpl).mono (by omega), fun b o e n1 => ?_, ?_, ?_⟩
    · rcases List.mem_append.mp hz with hz | hz
      · exact ok.nm z hz
      · rw [List.mem_singleton.mp hz]
        exact nm
    · exact List.nodup_append.mpr ⟨ok.nd, List.nodup_cons.mpr ⟨List.not_mem_nil, List.nodup_nil⟩, fun a ha b hb e => by
        rw [List.mem_singleton.mp hb] at e
        exact nin (e ▸ ha)⟩
    · have nb : b ≠ D := fun z => by rw [z, nDH] at e; cases e
      rw [upd_ne nb]
      exact b4 _ _ (b3 _ _ e n1) n1 (nuH _ _ e)
    · rw [upd_ne (Ne.symm Du)]
      exact hu4
    · rw [upd_same, List.map_append]
      rfl
  · rintro H3 ⟨xs, xl, ok, PA3, b3, hu3, hD3⟩
    exact q D H3 xs xl ok (PA3.mono (by omega)) b3 nDH hD3
end
end K23

set_option Elab.async false
set_option linter.all false
set_option maxRecDepth 100000
set_option maxHeartbeats 4000000
namespace K23
open PySem PySem.Spec PyProof.Rows L2 Pen Tr AK LamX RL
/-! ### programs drawn -/
/-- an order: its word, what it asks, what it has -/
def OrdG (nr nc no : Nat) (o : List V) : Prop := ∃ (w k : Str) (as : List Nat), kindO w = some k ∧ o = V.str w :: as.map (fun n : Nat => V.int (n : Nat)) ∧ as.length = k.cps.toList.length ∧
  ∀ (i c a : Nat), k.cps.toList[i]? = some c → as[i]? = some a → (c = 82 → a < nr) ∧ (c = 67 → a < nc) ∧ (c = 76 → a ≤ no)
structure Dr where
  regs : List Str
  cols : List Str
  ords : List (List V)
structure DrOk (d : Dr) : Prop where
  r : NmsOk d.regs
  c : NmsOk d.cols
  r1 : 1 ≤ d.regs.length
  r3 : d.regs.length ≤ 3
  c1 : 1 ≤ d.cols.length
  c3 : d.cols.length ≤ 3
  few : d.ords.length ≤ 10
  ord : ∀ o ∈ d.ords, OrdG d.regs.length d.cols.length d.ords.length o
def drK (a b c : Addr) : List (Key × V) := [(Sum.inr "registers", .ref a), (Sum.inr "colours", .ref b), (Sum.inr "orders", .ref c)]
def DrAt (K : PySem.W.Frag) (H : Hp) (d : Addr) (x : Dr) : Prop := ∃ a b c zs, H d = some (.dK (drK a b c)) ∧ H a = some (.lst (x.regs.map V.str)) ∧ H b = some (.lst (x.cols.map V.str)) ∧ H c = some (.lst zs) ∧ OrdsV K H x.ords zs
theorem OrdsV.tups {K : PySem.W.Frag} {H H' : Hp} {os : List (List V)} {xs : List V} (h : OrdsV K H os xs) (t : Tups H H') : OrdsV K H' os xs := Paired.mapP h fun u v ⟨z, e, h⟩ => ⟨z, e, SqT.tups t h⟩
theorem DrAt.but {K : PySem.W.Frag} {H H' : Hp} {d p pl : Addr} {n : Nat} {x : Dr} (h : DrAt K H d x) (PA : PenAt H p pl n) (b : But p H H') (dp : d ≠ p) : DrAt K H' d x := by
  obtain ⟨a1, b1, c1, zs, h1, h2, h3, h4, h5⟩ := h
  obtain ⟨kvs, hp⟩ := PA.is
  have ne : ∀ q ys, H q = some (.lst ys) → q ≠ p := fun q ys e => ne_of e hp fun z => nomatch z
  exact ⟨a1, b1, c1, zs, b _ _ h1 dp, b _ _ h2 (ne _ _ h2), b _ _ h3 (ne _ _ h3), b _ _ h4 (ne _ _ h4), h5.tups (pen_tups PA b)⟩
theorem DrAt.same {K : PySem.W.Frag} {H H' : Hp} {d : Addr} {x : Dr} (h : DrAt K H d x) (s : Same H H') : DrAt K H' d x := by
  obtain ⟨a1, b1, c1, zs, h1, h2, h3, h4, h5⟩ := h
  exact ⟨a1, b1, c1, zs, s _ _ h1, s _ _ h2, s _ _ h3, s _ _ h4, h5.tups (same_tups s)⟩
def wordsO : List Str := ["inc", "add", "dec", "clear", "copy", "jump", "ifzero", "ifsame", "paint", "end"]
/-- what follows the word -/
def argsW (w : Str) (one two place c : Nat) : List Nat := if w = "add" ∨ w = "copy" then [one, two] else if w = "jump" then [place] else if w = "ifzero" then [one, place] else if w = "ifsame" then [one, two, place] else if w = "paint" then [c] else if w = "end" then [] else [one]
theorem args_ok {w : Str} (hw : w ∈ wordsO) {one two place c nr nc no : Nat} (h1 : one < nr) (h2 : two < nr) (h3 : place ≤ no) (h4 : c < nc) : OrdG nr nc no (V.str w :: (argsW w one two place c).map fun n : Nat => V.int (n : Nat)) := by
  have key : ∀ (k : Str) (as : List Nat), kindO w = some k → argsW w one two place c = as → (∃ cs, k.cps.toList = cs ∧ as.length = cs.length ∧ ∀ (i s a : Nat), cs[i]? = some s → as[i]? = some a → (s = 82 → a < nr) ∧ (s = 67 → a < nc) ∧ (s = 76 → a ≤ no)) → OrdG nr nc no (V.str w :: (argsW w one two place c).map fun n : Nat => V.int (n : Nat)) := by
    rintro k as hk ha ⟨cs, hc, hl, h⟩
    exact ⟨w, k, argsW w one two place c, hk, rfl, by rw [ha, hc]; exact hl, by rw [ha, hc]; exact h⟩
  have R : ∀ a, a < nr → ∀ s, s = 82 → (s = 82 → a < nr) ∧ (s = 67 → a < nc) ∧ (s = 76 → a ≤ no) := fun a h s e => by
    subst e
    exact ⟨fun _ => h, fun z => absurd z (by decide), fun z => absurd z (by decide)⟩
  have C : ∀ a, a < nc → ∀ s, s = 67 → (s = 82 → a < nr) ∧ (s = 67 → a < nc) ∧ (s = 76 → a ≤ no) := fun a h s e => by
    subst e
    exact ⟨fun z => absurd z (by decide), fun _ => h, fun z => absurd z (by decide)⟩
  have L : ∀ a, a ≤ no → ∀ s, s = 76 → (s = 82 → a < nr) ∧ (s = 67 → a < nc) ∧ (s = 76 → a ≤ no) := fun a h s e => by
    subst e
    exact ⟨fun z => absurd z (by decide), fun z => absurd z (by decide), fun _ => h⟩
  have three : ∀ {x y z : Nat} {as : List Nat} {i s a : Nat}, [x, y, z][i]? = some s → as[i]? = some a → (i = 0 ∧ s = x ∧ as[0]? = some a) ∨ (i = 1 ∧ s = y ∧ as[1]? = some a) ∨ (i = 2 ∧ s = z ∧ as[2]? = some a) := fun {x y z as i s a} h1 h2 => by
    match i with
    | 0 => cases h1; exact .inl ⟨rfl, rfl, h2⟩
    | 1 => cases h1; exact .inr (.inl ⟨rfl, rfl, h2⟩)
    | 2 => cases h1; exact .inr (.inr ⟨rfl, rfl, h2⟩)
    | i + 3 => cases h1
  have two' : ∀ {x y : Nat} {as : List Nat} {i s a : Nat}, [x, y][i]? = some s → as[i]? = some a → (i = 0 ∧ s = x ∧ as[0]? = some a) ∨ (i = 1 ∧ s = y ∧ as[1]? = some a) := fun {x y as i s a} h1 h2 => by
    match i with
    | 0 => cases h1; exact .inl ⟨rfl, rfl, h2⟩
    | 1 => cases h1; exact .inr ⟨rfl, rfl, h2⟩
    | i + 2 => cases h1
  have one' : ∀ {x : Nat} {as : List Nat} {i s a : Nat}, [x][i]? = some s → as[i]? = some a → (i = 0 ∧ s = x ∧ as[0]? = some a) := fun {x as i s a} h1 h2 => by
    match i with
    | 0 => cases h1; exact ⟨rfl, rfl, h2⟩
    | i + 1 => cases h1
  simp only [wordsO, List.mem_cons, List.not_mem_nil, or_false] at hw
  rcases hw with rfl | rfl | rfl | rfl | rfl | rfl | rfl | rfl | rfl | rfl
  · exact key "R" [one] (by decide +kernel) (by kernel_rfl) ⟨[82], by decide +kernel, rfl, fun i s a hs ha => by obtain ⟨_, e, h⟩ := one' hs ha; cases h; exact R _ h1 s e⟩
  · exact key "RR" [one, two] (by decide +kernel) (by kernel_rfl) ⟨[82, 82], by decide +kernel, rfl, fun i s a hs ha => by
      rcases two' hs ha with ⟨_, e, h⟩ | ⟨_, e, h⟩
      · cases h; exact R _ h1 s e
      · cases h; exact R _ h2 s e⟩
  · exact key "R" [one] (by decide +kernel) (by kernel_rfl) ⟨[82], by decide +kernel, rfl, fun i s a hs ha => by obtain ⟨_, e, h⟩ := one' hs ha; cases h; exact R _ h1 s e⟩
  · exact key "R" [one] (by decide +kernel) (by kernel_rfl) ⟨[82], by decide +kernel, rfl, fun i s a hs ha => by obtain ⟨_, e, h⟩ := one' hs ha; cases h; exact R _ h1 s e⟩
  · exact key "RR" [one, two] (by decide +kernel) (by kernel_rfl) ⟨[82, 82], by decide +kernel, rfl, fun i s a hs ha => by
      rcases two' hs ha with ⟨_, e, h⟩ | ⟨_, e, h⟩
      · cases h; exact R _ h1 s e
      · cases h; exact R _ h2 s e⟩
  · exact key "L" [place] (by decide +kernel) (by kernel_rfl) ⟨[76], by decide +kernel, rfl, fun i s a hs ha => by obtain ⟨_, e, h⟩ := one' hs ha; cases h; exact L _ h3 s e⟩
  · exact key "RL" [one, place] (by decide +kernel) (by kernel_rfl) ⟨[82, 76], by decide +kernel, rfl, fun i s a hs ha => by
      rcases two' hs ha with ⟨_, e, h⟩ | ⟨_, e, h⟩
      · cases h; exact R _ h1 s e
      · cases h; exact L _ h3 s e⟩
  · exact key "RRL" [one, two, place] (by decide +kernel) (by kernel_rfl) ⟨[82, 82, 76], by decide +kernel, rfl, fun i s a hs ha => by
      rcases three hs ha with ⟨_, e, h⟩ | ⟨_, e, h⟩ | ⟨_, e, h⟩
      · cases h; exact R _ h1 s e
      · cases h; exact R _ h2 s e
      · cases h; exact L _ h3 s e⟩
  · exact key "C" [c] (by decide +kernel) (by kernel_rfl) ⟨[67], by decide +kernel, rfl, fun i s a hs ha => by obtain ⟨_, e, h⟩ := one' hs ha; cases h; exact C _ h4 s e⟩
  · exact key "" [] (by decide +kernel) (by kernel_rfl) ⟨[], by decide +kernel, rfl, fun i s a hs _ => by simp at hs⟩
def more4 (t1 t2 t3 t4 : Addr) : List (Key × V) := [(Sum.inr "add", .ref t1), (Sum.inr "copy", .ref t2), (Sum.inr "jump", .ref t3), (Sum.inr "ifzero", .ref t4)]
def moreK (t1 t2 t3 t4 t5 t6 t7 : Addr) : List (Key × V) := more4 t1 t2 t3 t4 ++ ([(Sum.inr "ifsame", V.ref t5), (Sum.inr "paint", V.ref t6), (Sum.inr "end", V.ref t7)] : List (Key × V))
theorem more_get {K : PySem.W.Frag} {H : Hp} {w : Str} (hw : w ∈ wordsO) {t1 t2 t3 t4 t5 t6 t7 t9 : Addr} {one two place c : Nat} (h1 : SqT K H t1 [.int one, .int two]) (h2 : SqT K H t2 [.int one, .int two]) (h3 : SqT K H t3 [.int place]) (h4 : SqT K H t4 [.int one, .int place])
    (h5 : SqT K H t5 [.int one, .int two, .int place]) (h6 : SqT K H t6 [.int c]) (h7 : SqT K H t7 []) (h9 : SqT K H t9 [.int one]) :
    ∃ t, (valV (moreK t1 t2 t3 t4 t5 t6 t7) (Sum.inr w)).getD (.ref t9) = .ref t ∧ SqT K H t ((argsW w one two place c).map fun n : Nat => V.int (n : Nat)) ∧ (argsW w one two place c).length ≤ 3 := by
  simp only [wordsO, List.mem_cons, List.not_mem_nil, or_false] at hw
  rcases hw with rfl | rfl | rfl | rfl | rfl | rfl | rfl | rfl | rfl | rfl
  · exact ⟨t9, by kernel_rfl, by rw [show argsW "inc" one two place c = [one] by kernel_rfl]; exact ⟨h9, by show 1 ≤ 3; decide⟩⟩
  · exact ⟨t1, by kernel_rfl, by rw [show argsW "add" one two place c = [one, two] by kernel_rfl]; exact ⟨h1, Nat.le_succ 2⟩⟩
  · exact ⟨t9, by kernel_rfl, by rw [show argsW "dec" one two place c = [one] by kernel_rfl]; exact ⟨h9, by show 1 ≤ 3; decide⟩⟩
  · exact ⟨t9, by kernel_rfl, by rw [show argsW "clear" one two place c = [one] by kernel_rfl]; exact ⟨h9, by show 1 ≤ 3; decide⟩⟩
  · exact ⟨t2, by kernel_rfl, by rw [show argsW "copy" one two place c = [one, two] by kernel_rfl]; exact ⟨h2, Nat.le_succ 2⟩⟩
  · exact ⟨t3, by kernel_rfl, by rw [show argsW "jump" one two place c = [place] by kernel_rfl]; exact ⟨h3, by show 1 ≤ 3; decide⟩⟩
  · exact ⟨t4, by kernel_rfl, by rw [show argsW "ifzero" one two place c = [one, place] by kernel_rfl]; exact ⟨h4, Nat.le_succ 2⟩⟩
  · exact ⟨t5, by kernel_rfl, by rw [show argsW "ifsame" one two place c = [one, two, place] by kernel_rfl]; exact ⟨h5, Nat.le_refl 3⟩⟩
  · exact ⟨t6, by kernel_rfl, by rw [show argsW "paint" one two place c = [c] by kernel_rfl]; exact ⟨h6, by show 1 ≤ 3; decide⟩⟩
  · exact ⟨t7, by kernel_rfl, by rw [show argsW "end" one two place c = [] by kernel_rfl]; exact ⟨h7, by show 0 ≤ 3; decide⟩⟩
section
variable {P : Program} {w : World} {K : PySem.W.Frag} {mg : Str → Option PySem.Value} {base : Heap} {f fD fP fNas : Addr} {fd fdD fdP fdNas : FuncData} {H H' : Hp}
def PgQ (K : PySem.W.Frag) (H : Hp) (p pl : Addr) (n : Nat) (Q : VK) : Prop := ∀ d x H', DrOk x → DrAt K H' d x → PenAt H' p pl (n + 1000) → But p H H' → H d = none → Q (.ref d) H'
def spPg (K : PySem.W.Frag) : Sp := fun vs H Q _ => ∃ p pl n, vs = [.ref p, .int 4] ∧ PenAt H p pl n ∧ n ≤ 700000 ∧ PgQ K H p pl n Q
abbrev nPg : List Str := ["_law_pen_here", "_law_most", "_law_registers", "_law_colours", "_law_many", "_law_orders", "_law_lap", "_law_words", "_law_word", "_law_one", "_law_two", "_law_place", "_law_more"]
theorem scPg : FnScope nPg ["_law_pen_here", "_law_most"] (defScope (top 62)) := ⟨rfl, rfl, rfl, by decide +kernel, rfl, by decide +kernel, by decide +kernel⟩
theorem ok_Pg (F : FnT K "_law_program" 62 f fd) (TX : Txt mg)
    (FNas : FnT K "_law_names" 61 fNas fdNas) (gNas : mg "_law_names" = some (.ref fNas)) (GNas : FnOk P w K mg base CX0 4 fNas fdNas ["_law_pen_here", "_law_many"] (spNas K))
    (FD : FnT K "_law_draw" 58 fD fdD) (gD : mg "_law_draw" = some (.ref fD)) (GD : FnOk P w K mg base CX0 1 fD fdD ["_law_pen_here", "_law_many"] spDraw)
    (FP : FnT K "_law_pick" 59 fP fdP) (gP : mg "_law_pick" = some (.ref fP)) (GP : FnOk P w K mg base CX0 2 fP fdP ["_law_pen_here", "_law_some"] (spPick K)) : FnOk P w K mg base CX0 5 f fd ["_law_pen_here", "_law_most"] (spPg K) := by
  refine F.ok scPg (fun vs H Q E h => by obtain ⟨p, pl, n, rfl, _⟩ := h; rfl) (fun cdv A outer s0 H vs Q E hr h => ?_)
  obtain ⟨p, pl, n, rfl, PA, hn, q⟩ := h
  have nd := scPg.nd
  have hu := hr.units
  have hu1 := hu_of hr
  have bNas : L2.Binds K fdNas ["_law_pen_here", "_law_many"] [] := FunD.bindsN FNas fun _ _ _ _ _ _ us hl => match us, hl with | [_, _], _ => rfl
  have bD : L2.Binds K fdD ["_law_pen_here", "_law_many"] [] := FunD.bindsN FD fun _ _ _ _ _ _ us hl => match us, hl with | [_, _], _ => rfl
  have bP : L2.Binds K fdP ["_law_pen_here", "_law_some"] [] := FunD.bindsN FP fun _ _ _ _ _ _ us hl => match us, hl with | [_, _], _ => rfl
  suffices z : ∃ tt, PSs (cxOf CX0 P w K mg base nPg "_law_program" (defScope (top 62)) f cdv A outer s0 H E).nox (defBody (top 62)) tt ∧ tt { nx := fun _ H' => Q .non H', rt := Q } (start nPg [.ref p, .int 4]) H by
    obtain ⟨tt, h1, h2⟩ := z
    exact ⟨tt, h1.nox, h2⟩
  refine ⟨_, pss_cons (ps_asg (pe_call GNas (hr.mono (by decide)) (by rfl) gNas FNas.kp bNas .nil pass0 (pa_cons (pv 0) (pa_cons (pe_op op_add pe_int (pe_call GD (hr.mono (by decide)) (by rfl) gD FD.kp bD .nil pass0 (pa_cons (pv 0) (pa_cons pe_int pa_nil)))) pa_nil))) (pg_name (i := 2) nd rfl (.inl rfl)))
    (pss_cons (ps_par (i := 3) (j := 4) (by rfl) nd rfl rfl (by decide) rfl rfl (pa_cons (pe_call GNas (hr.mono (by decide)) (by rfl) gNas FNas.kp bNas .nil pass0 (pa_cons (pv 0) (pa_cons (pe_op op_add pe_int (pe_call GD (hr.mono (by decide)) (by rfl) gD FD.kp bD .nil pass0 (pa_cons (pv 0) (pa_cons pe_int pa_nil)))) pa_nil))) (pa_cons (pe_call GD (hr.mono (by decide)) (by rfl) gD FD.kp bD .nil pass0 (pa_cons (pv 0) (pa_cons (pe_op op_add (pv 1) pe_int) pa_nil))) pa_nil)) (by rfl))
    (pss_cons (ps_asg (pe_lst pa_nil) (pg_name (i := 5) nd rfl (.inl rfl)))
    (pss_cons (ps_for PassesOwn.never rfl (pi_range1 (by rfl) TX.range (pa_cons (pv 4) pa_nil)) (pg_name (i := 6) nd rfl (.inl rfl))
    (pss_cons (ps_asg (pe_lst (pa_cons pe_str (pa_cons pe_str (pa_cons pe_str (pa_cons pe_str (pa_cons pe_str (pa_cons pe_str (pa_cons pe_str (pa_cons pe_str (pa_cons pe_str (pa_cons pe_str pa_nil))))))))))) (pg_name (i := 7) nd rfl (.inl rfl)))
    (pss_cons (ps_asg (pe_call GP (hr.mono (by decide)) (by rfl) gP FP.kp bP .nil pass0 (pa_cons (pv 0) (pa_cons (pe_op op_cat (pv 7) (pe_lst (pa_cons pe_str (pa_cons pe_str pa_nil)))) pa_nil))) (pg_name (i := 8) nd rfl (.inl rfl)))
    (pss_cons (ps_par (i := 9) (j := 10) (by rfl) nd rfl rfl (by decide) rfl rfl (pa_cons (pe_call GD (hr.mono (by decide)) (by rfl) gD FD.kp bD .nil pass0 (pa_cons (pv 0) (pa_cons (pe_callB call_len_seq (by rfl) TX.len PySem.boot_len (pa_cons (pv 2) pa_nil)) pa_nil))) (pa_cons (pe_call GD (hr.mono (by decide)) (by rfl) gD FD.kp bD .nil pass0 (pa_cons (pv 0) (pa_cons (pe_callB call_len_seq (by rfl) TX.len PySem.boot_len (pa_cons (pv 2) pa_nil)) pa_nil))) pa_nil)) (by rfl))
    (pss_cons (ps_asg (pe_call GP (hr.mono (by decide)) (by rfl) gP FP.kp bP .nil pass0 (pa_cons (pv 0) (pa_cons (pe_lst (pa_cons (pe_op op_add (pe_callB call_len_seq (by rfl) TX.len PySem.boot_len (pa_cons (pv 5) pa_nil)) pe_int) (pa_cons (pv 4) (pa_cons (pe_call GD (hr.mono (by decide)) (by rfl) gD FD.kp bD .nil pass0 (pa_cons (pv 0) (pa_cons (pe_op op_add (pv 4) pe_int) pa_nil))) pa_nil)))) pa_nil))) (pg_name (i := 11) nd rfl (.inl rfl)))
    (pss_cons (ps_asg (pe_disp (pps_cons pe_str (pe_tup (pa_cons (pv 9) (pa_cons (pv 10) pa_nil))) (pps_cons pe_str (pe_tup (pa_cons (pv 9) (pa_cons (pv 10) pa_nil))) (pps_cons pe_str (pe_tup (pa_cons (pv 11) pa_nil)) (pps_cons pe_str (pe_tup (pa_cons (pv 9) (pa_cons (pv 11) pa_nil))) pps_nil)))) rfl rfl (by intro z; cases z) (by decide)) (pg_name (i := 12) nd rfl (.inl rfl)))
    (pss_cons (ps_asg (pe_tup (pa_cons (pe_tup (pa_cons (pv 9) (pa_cons (pv 10) (pa_cons (pv 11) pa_nil)))) (pa_cons (pe_tup (pa_cons (pe_call GD (hr.mono (by decide)) (by rfl) gD FD.kp bD .nil pass0 (pa_cons (pv 0) (pa_cons (pe_callB call_len_seq (by rfl) TX.len PySem.boot_len (pa_cons (pv 3) pa_nil)) pa_nil))) pa_nil)) (pa_cons (pe_tup pa_nil) pa_nil)))) (pg_tup (by rfl) (pgs_cons (pg_sub (pv 12) pe_str (set_dict hu1)) (pgs_cons (pg_sub (pv 12) pe_str (set_dict hu1)) (pgs_cons (pg_sub (pv 12) pe_str (set_dict hu1)) pgs_nil)))))
    (pss_one (ps_expr (pe_bm PySem.F.plainAttrs_list PySem.F.slot_list_append PySem.F.type_list_append mt_append (pv 5) (pa_cons (pe_op RU.op_catU (pe_tup (pa_cons (pv 8) pa_nil)) (pe_dget2 hu1 (pv 12) (pv 8) (pe_tup (pa_cons (pv 9) pa_nil)) ⟨rfl, rfl, rfl, rfl⟩)) pa_nil)))))))))))
    (pss_one (ps_ret (pe_disp (pps_cons pe_str (pv 2) (pps_cons pe_str (pv 3) (pps_cons pe_str (pv 5) pps_nil))) rfl rfl (by intro z; cases z) (by decide))))))), ?_⟩
  clear bNas bD bP
  refine ⟨_, rfl, _, rfl, p, pl, n, 3, rfl, PA, by omega, by decide, by decide, fun r H1 r0 r1 PA1 b1 => ?_⟩
  obtain ⟨i, rfl⟩ : ∃ i : Nat, r = (i : Int) := ⟨r.toNat, by omega⟩
  refine ⟨1, _, rfl, rfl, p, pl, n + 1, 1 + i, congrArg (fun j : Int => [V.ref p, V.int j]) (by omega), PA1, by omega, by omega, fun ar H2 rs hrl rok PA2 b2 nar har => ?_⟩
  refine ⟨_, rfl, _, rfl, p, pl, _, 3, rfl, PA2, by omega, by decide, by decide, fun r H3 r0' r1' PA3 b3 => ?_⟩
  obtain ⟨i2, rfl⟩ : ∃ i : Nat, r = (i : Int) := ⟨r.toNat, by omega⟩
  refine ⟨1, _, rfl, rfl, p, pl, _, 1 + i2, congrArg (fun j : Int => [V.ref p, V.int j]) (by omega), PA3, by omega, by omega, fun ac H4 cs hcl cok PA4 b4 nac hac => ?_⟩
  refine ⟨_, rfl, _, rfl, 4, 1, rfl, rfl, p, pl, _, 4 + 1, rfl, PA4, by omega, by decide, by decide, fun r H5 r0'' r1'' PA5 b5 => ?_⟩
  obtain ⟨many, rfl⟩ : ∃ i : Nat, r = (i : Int) := ⟨r.toNat, by omega⟩
  refine ⟨_, _, rfl, ?_⟩
  refine ⟨(by show 0 ≤ sizeLine; exact Nat.zero_le _), fun ao nao => ?_⟩
  change H5 ao = none at nao
  have hp0 := PA.is
  have nap : ∀ {Hx : Hp} {m : Nat} {q : Addr}, PenAt Hx p pl m → Hx q = none → q ≠ p := fun PA h => by
    obtain ⟨kvs, hp⟩ := PA.is
    exact Ne.symm (ne_of_none hp h)
  have arp : ar ≠ p := nap PA1 nar
  have acp : ac ≠ p := nap PA3 nac
  have aop : ao ≠ p := nap PA5 nao
  have aopl : ao ≠ pl := by
    obtain ⟨cl, hpl⟩ := PA5.lis
    exact Ne.symm (ne_of_none hpl nao)
  have har5 := b5 _ _ (b4 _ _ (b3 _ _ har arp) arp) arp
  have hac5 := b5 _ _ hac acp
  have aoar : ao ≠ ar := Ne.symm (ne_of_none har5 nao)
  have aoac : ao ≠ ac := Ne.symm (ne_of_none hac5 nao)
  have b05 : But p H H5 := But.trans b1 (But.trans b2 (But.trans b3 (But.trans b4 b5)))
  have naoH : ∀ b o, H b = some o → b ≠ p → b ≠ ao := fun b o e n => ne_of_none (b05 _ _ e n) nao
  have s6 := same_upd (o := .lst ([] : List V)) nao
  have hao6 := upd_same (H := H5) (a := ao) (o := .lst ([] : List V))
  have b06 : But p H (upd H5 ao (.lst ([] : List V))) := But.trans b05 (But.same s6)
  have PA6 := PA5.keep s6
  have har6 := s6 _ _ har5
  have hac6 := s6 _ _ hac5
  generalize upd H5 ao (.lst ([] : List V)) = H6 at hao6 b06 PA6 har6 hac6 ⊢
  clear b1 b2 b3 b4 b5 PA1 PA2 PA3 PA4 PA5 har hac har5 hac5 nar nac nao s6 b05 H1 H2 H3 H4 H5
  have PA6 := PA6.mono (show _ ≤ n + 200 by omega)
  refine ⟨_, rfl, many, rfl, by omega, by omega, ?_⟩
  refine for_it (walk_range (lo := 0) (n := many)) (fun j σ H' => (∃ o6 o7 o8 o9 o10 o11 o12, σ = [some (.ref p), some (.int 4), some (.ref ar), some (.ref ac), some (.int many), some (.ref ao), o6, o7, o8, o9, o10, o11, o12]) ∧ PenAt H' p pl (n + 200 + 20 * j) ∧ (∀ b o, H6 b = some o → b ≠ p → b ≠ ao → H' b = some o) ∧
      ∃ zs ords, H' ao = some (.lst zs) ∧ OrdsV K H' ords zs ∧ ords.length = j ∧ ∀ o ∈ ords, OrdG rs.length cs.length many o)
    ⟨⟨none, none, none, none, none, none, none, rfl⟩, PA6, fun b o e _ _ => e, [], [], hao6, .nil, rfl, fun _ h => absurd h List.not_mem_nil⟩ (fun _ _ _ _ _ => trivial) ?_ ?_
  · rintro j y σ H8 H7 hj ⟨⟨o6, o7, o8, o9, o10, o11, o12, rfl⟩, PA7, b67, zs, ords, hao7, hos, ol, og⟩ ⟨rfl, rfl⟩
    have zl : zs.length = ords.length := (Paired.length hos).symm
    have har7 := b67 _ _ har6 arp (Ne.symm aoar)
    have hac7 := b67 _ _ hac6 acp (Ne.symm aoac)
    refine ⟨(by show 10 ≤ sizeLine; decide), fun lw nlw => ?_⟩
    have s8 := same_upd (o := .lst [.str "inc", .str "add", .str "dec", .str "clear", .str "copy", .str "jump", .str "ifzero", .str "ifsame", .str "paint", .str "end"]) nlw
    have hlw := upd_same (H := H7) (a := lw) (o := .lst [.str "inc", .str "add", .str "dec", .str "clear", .str "copy", .str "jump", .str "ifzero", .str "ifsame", .str "paint", .str "end"])
    generalize upd H7 lw (.lst [.str "inc", .str "add", .str "dec", .str "clear", .str "copy", .str "jump", .str "ifzero", .str "ifsame", .str "paint", .str "end"]) = H8 at s8 hlw ⊢
    refine ⟨_, rfl, _, rfl, (by show 2 ≤ sizeLine; decide), fun l2 nl2 => ?_⟩
    have s9 := same_upd (o := .lst [.str "inc", .str "add"]) nl2
    refine ⟨lw, l2, _, _, rfl, rfl, s9 _ _ hlw, upd_same, (by show 12 ≤ sizeLine; decide), fun l3 nl3 => ?_⟩
    have s10 := same_upd (o := .lst ([.str "inc", .str "add", .str "dec", .str "clear", .str "copy", .str "jump", .str "ifzero", .str "ifsame", .str "paint", .str "end"] ++ [.str "inc", .str "add"])) nl3
    have s7 := same_trans s8 (same_trans s9 s10)
    refine ⟨p, pl, l3, _, _, rfl, PA7.keep s7, by omega, SqL.of upd_same, (fun z => nomatch z), (by show 12 < 1073741824; decide), nap ((PA7.keep s8).keep s9) nl3, fun iw v H11 hv PA11 b11 => ?_⟩
    obtain ⟨wd, hwd, rfl⟩ := RM.pick_str (ns := wordsO ++ (["inc", "add"] : List Str)) hv
    have hwd : wd ∈ wordsO := by
      rcases List.mem_append.mp hwd with h | h
      · exact h
      · simp only [List.mem_cons, List.not_mem_nil, or_false] at h
        rcases h with rfl | rfl <;> decide +kernel
    have b11 : But p H7 H11 := but_of_same s7 b11
    clear s7 s8 s9 s10 nl2 nl3 nlw hlw hv
    refine ⟨_, rfl, _, rfl, ar, _, rfl, .inl (SqL.of (b11 _ _ har7 arp)), p, pl, _, _, rfl, PA11, by omega, by rw [List.length_map]; omega, by rw [List.length_map]; omega, fun r H12 r0 r1 PA12 b12 => ?_⟩
    obtain ⟨one, rfl⟩ : ∃ i : Nat, r = (i : Int) := ⟨r.toNat, by omega⟩
    have h1 : one < rs.length := by rw [List.length_map] at r1; omega
    have b12 := But.trans b11 b12
    refine ⟨_, rfl, _, rfl, ar, _, rfl, .inl (SqL.of (b12 _ _ har7 arp)), p, pl, _, _, rfl, PA12, by omega, by rw [List.length_map]; omega, by rw [List.length_map]; omega, fun r H13 r0 r1 PA13 b13 => ?_⟩
    obtain ⟨two, rfl⟩ : ∃ i : Nat, r = (i : Int) := ⟨r.toNat, by omega⟩
    have h2 : two < rs.length := by rw [List.length_map] at r1; omega
    have b13 := But.trans b12 b13
    refine ⟨_, _, rfl, ?_⟩
    refine ⟨_, rfl, _, rfl, ao, _, rfl, .inl (SqL.of (b13 _ _ hao7 aop)), _, 1, rfl, rfl, _, rfl, _, rfl, _, rfl, _, 1, rfl, rfl, p, pl, _, _, rfl, PA13, by omega, by omega, by omega, fun r H14 r0 r1 PA14 b14 => ?_⟩
    obtain ⟨pc, rfl⟩ : ∃ i : Nat, r = (i : Int) := ⟨r.toNat, by omega⟩
    have b14 := But.trans b13 b14
    refine ⟨(by show 3 ≤ sizeLine; decide), fun l nl => ?_⟩
    have s15 := same_upd (o := .lst [.int ((zs.length : Nat) + 1), .int many, .int pc]) nl
    refine ⟨p, pl, l, _, _, rfl, PA14.keep s15, by omega, SqL.of upd_same, (fun z => nomatch z), (by show 3 < 1073741824; decide), nap PA14 nl, fun ip v H15 hv PA15 b15 => ?_⟩
    obtain ⟨pm, hpm, rfl⟩ := RM.pick_int (ns := [((zs.length : Nat) : Int) + 1, (many : Nat), (pc : Nat)]) hv
    obtain ⟨place, rfl, h3⟩ : ∃ k : Nat, pm = (k : Int) ∧ k ≤ many := by
      simp only [List.mem_cons, List.not_mem_nil, or_false] at hpm
      exact ⟨pm.toNat, by omega, by omega⟩
    have b15 := But.trans b14 (but_of_same s15 b15)
    clear s15 nl hv hpm b11 b12 b13 b14
    have har15 := b15 _ _ har7 arp
    have hac15 := b15 _ _ hac7 acp
    intro dm ndm
    have dmp : dm ≠ p := nap PA15 ndm
    have ndm7 : ∀ b o, H7 b = some o → b ≠ p → b ≠ dm := fun b o e n => ne_of_none (b15 _ _ e n) ndm
    have s16 := same_upd (o := .dK []) ndm
    have hdm := upd_same (H := H15) (a := dm) (o := .dK [])
    have dmpl : dm ≠ pl := by
      obtain ⟨cl, hpl⟩ := PA15.lis
      exact Ne.symm (ne_of_none hpl ndm)
    generalize upd H15 dm (.dK []) = H16 at s16 hdm ⊢
    refine ⟨_, rfl, _, rfl, (by show 2 ≤ sizeLine; decide), fun t1 nt1 => ?_⟩
    have s17 := same_upd (o := .tup [.int one, .int two]) nt1
    have ht1 : SqT K (upd H16 t1 (.tup [.int one, .int two])) t1 [.int one, .int two] := SqT.of upd_same
    replace hdm := s17 _ _ hdm
    replace s16 := same_trans s16 s17
    generalize upd H16 t1 (.tup [.int one, .int two]) = H17 at s16 hdm ht1 ⊢
    refine ⟨_, rfl, _, rfl, (by show 2 ≤ sizeLine; decide), fun t2 nt2 => ?_⟩
    have s18 := same_upd (o := .tup [.int one, .int two]) nt2
    have ht2 : SqT K (upd H17 t2 (.tup [.int one, .int two])) t2 [.int one, .int two] := SqT.of upd_same
    replace ht1 := SqT.tups (same_tups s18) ht1
    replace hdm := s18 _ _ hdm
    replace s16 := same_trans s16 s18
    generalize upd H17 t2 (.tup [.int one, .int two]) = H18 at s16 hdm ht1 ht2 ⊢
    refine ⟨_, rfl, (by show 1 ≤ sizeLine; decide), fun t3 nt3 => ?_⟩
    have s19 := same_upd (o := .tup [.int place]) nt3
    have ht3 : SqT K (upd H18 t3 (.tup [.int place])) t3 [.int place] := SqT.of upd_same
    replace ht1 := SqT.tups (same_tups s19) ht1
    replace ht2 := SqT.tups (same_tups s19) ht2
    replace hdm := s19 _ _ hdm
    replace s16 := same_trans s16 s19
    generalize upd H18 t3 (.tup [.int place]) = H19 at s16 hdm ht1 ht2 ht3 ⊢
    refine ⟨_, rfl, _, rfl, (by show 2 ≤ sizeLine; decide), fun t4 nt4 => ?_⟩
    have s20 := same_upd (o := .tup [.int one, .int place]) nt4
    have ht4 : SqT K (upd H19 t4 (.tup [.int one, .int place])) t4 [.int one, .int place] := SqT.of upd_same
    replace ht1 := SqT.tups (same_tups s20) ht1
    replace ht2 := SqT.tups (same_tups s20) ht2
    replace ht3 := SqT.tups (same_tups s20) ht3
    replace hdm := s20 _ _ hdm
    replace s16 := same_trans s16 s20
    generalize upd H19 t4 (.tup [.int one, .int place]) = H20 at s16 hdm ht1 ht2 ht3 ht4 ⊢
    clear s17 s18 s19 s20 nt1 nt2 nt3 nt4 ndm
    refine ⟨hdm, more4 t1 t2 t3 t4, rfl, (by show 4 ≤ 15; decide), ?_⟩
    rw [show mergeK [] (more4 t1 t2 t3 t4) = more4 t1 t2 t3 t4 by kernel_rfl]
    have tu := Tups.upd (o := .dK (more4 t1 t2 t3 t4)) (dk0_ntup hdm)
    have b21 : But p H7 (upd H20 dm (.dK (more4 t1 t2 t3 t4))) := fun b o e n => by
      rw [upd_ne (ndm7 b o e n)]
      exact s16 _ _ (b15 _ _ e n)
    have PA21 : PenAt (upd H20 dm (.dK (more4 t1 t2 t3 t4))) p pl _ := (PA15.keep s16).other dmp dmpl
    have hdm21 := upd_same (H := H20) (a := dm) (o := .dK (more4 t1 t2 t3 t4))
    replace ht1 := SqT.tups tu ht1
    replace ht2 := SqT.tups tu ht2
    replace ht3 := SqT.tups tu ht3
    replace ht4 := SqT.tups tu ht4
    generalize upd H20 dm (.dK (more4 t1 t2 t3 t4)) = H21 at b21 PA21 hdm21 ht1 ht2 ht3 ht4 ⊢
    clear tu s16 hdm b15 PA15
    -- three more
    refine ⟨_, rfl, _, rfl, _, rfl, (by show 3 ≤ sizeLine; decide), fun t5 nt5 => ?_⟩
    have s22 := same_upd (o := .tup [.int one, .int two, .int place]) nt5
    have ht5 : SqT K (upd H21 t5 (.tup [.int one, .int two, .int place])) t5 [.int one, .int two, .int place] := SqT.of upd_same
    replace ht1 := SqT.tups (same_tups s22) ht1
    replace ht2 := SqT.tups (same_tups s22) ht2
    replace ht3 := SqT.tups (same_tups s22) ht3
    replace ht4 := SqT.tups (same_tups s22) ht4
    have hdm22 := s22 _ _ hdm21
    have PA22 := PA21.keep s22
    have b22 := But.trans b21 (But.same s22)
    generalize upd H21 t5 (.tup [.int one, .int two, .int place]) = H22 at PA22 b22 hdm22 ht1 ht2 ht3 ht4 ht5 ⊢
    refine ⟨_, rfl, _, rfl, ac, _, rfl, .inl (SqL.of (b22 _ _ hac7 acp)), p, pl, _, _, rfl, PA22, by omega, by rw [List.length_map]; omega, by rw [List.length_map]; omega, fun r H23 r0 r1 PA23 b23 => ?_⟩
    obtain ⟨cc, rfl⟩ : ∃ i : Nat, r = (i : Int) := ⟨r.toNat, by omega⟩
    have h4 : cc < cs.length := by rw [List.length_map] at r1; omega
    have tp := pen_tups PA22 b23
    have hdm23 := b23 _ _ hdm22 dmp
    have b23 := But.trans b22 b23
    refine ⟨(by show 1 ≤ sizeLine; decide), fun t6 nt6 => ?_⟩
    have s24 := same_upd (o := .tup [.int cc]) nt6
    have ht6 : SqT K (upd H23 t6 (.tup [.int cc])) t6 [.int cc] := SqT.of upd_same
    replace tp := Tups.trans tp (same_tups s24)
    replace ht1 := SqT.tups tp ht1
    replace ht2 := SqT.tups tp ht2
    replace ht3 := SqT.tups tp ht3
    replace ht4 := SqT.tups tp ht4
    replace ht5 := SqT.tups tp ht5
    have hdm24 := s24 _ _ hdm23
    have b24 := But.trans b23 (But.same s24)
    have PA24 := PA23.keep s24
    generalize upd H23 t6 (.tup [.int cc]) = H24 at PA24 b24 hdm24 ht1 ht2 ht3 ht4 ht5 ht6 ⊢
    refine ⟨(by show 0 ≤ sizeLine; exact Nat.zero_le _), fun t7 nt7 => ?_⟩
    have s25 := same_upd (o := .tup ([] : List V)) nt7
    have ht7 : SqT K (upd H24 t7 (.tup ([] : List V))) t7 [] := SqT.of upd_same
    change H24 t7 = none at nt7
    generalize upd H24 t7 (.tup ([] : List V)) = H25 at s25 ht7 ⊢
    refine ⟨(by show 3 ≤ sizeLine; decide), fun tb ntb => ?_⟩
    have s26 := same_upd (o := .tup [.ref t5, .ref t6, .ref t7]) ntb
    have htb : SqT K (upd H25 tb (.tup [.ref t5, .ref t6, .ref t7])) tb [.ref t5, .ref t6, .ref t7] := SqT.of upd_same
    replace ht7 := SqT.tups (same_tups s26) ht7
    replace s25 := same_trans s25 s26
    generalize upd H25 tb (.tup [.ref t5, .ref t6, .ref t7]) = H26 at s25 ht7 htb ⊢
    have hdm26 := s25 _ _ hdm24
    refine ⟨tb, _, rfl, htb, rfl, _, _, rfl, _, rfl, dm, _, rfl, .inl ⟨_, .inr "ifsame", hdm26, rfl, by rw [sizeLine_eq]; show 4 < 16777216; decide, rfl⟩, ?_⟩
    refine ⟨_, _, rfl, _, rfl, dm, _, rfl, .inl ⟨_, .inr "paint", upd_same, rfl, by rw [show putK (more4 t1 t2 t3 t4) (.inr "ifsame") (V.ref t5) = (moreK t1 t2 t3 t4 t5 t6 t7).take 5 by kernel_rfl, sizeLine_eq]; show 5 < 16777216; decide, rfl⟩, ?_⟩
    rw [show putK (more4 t1 t2 t3 t4) (.inr "ifsame") (V.ref t5) = (moreK t1 t2 t3 t4 t5 t6 t7).take 5 by kernel_rfl]
    refine ⟨_, _, rfl, _, rfl, dm, _, rfl, .inl ⟨_, .inr "end", upd_same, rfl, by rw [show putK ((moreK t1 t2 t3 t4 t5 t6 t7).take 5) (.inr "paint") (V.ref t6) = (moreK t1 t2 t3 t4 t5 t6 t7).take 6 by kernel_rfl, sizeLine_eq]; show 6 < 16777216; decide, rfl⟩, rfl, ?_⟩
    rw [show putK ((moreK t1 t2 t3 t4 t5 t6 t7).take 5) (.inr "paint") (V.ref t6) = (moreK t1 t2 t3 t4 t5 t6 t7).take 6 by kernel_rfl, show putK ((moreK t1 t2 t3 t4 t5 t6 t7).take 6) (.inr "end") (V.ref t7) = moreK t1 t2 t3 t4 t5 t6 t7 by kernel_rfl]
    have hdm27 := upd_same (H := upd (upd H26 dm (.dK ((moreK t1 t2 t3 t4 t5 t6 t7).take 5))) dm (.dK ((moreK t1 t2 t3 t4 t5 t6 t7).take 6))) (a := dm) (o := .dK (moreK t1 t2 t3 t4 t5 t6 t7))
    have b27 : But dm H26 (upd (upd (upd H26 dm (.dK ((moreK t1 t2 t3 t4 t5 t6 t7).take 5))) dm (.dK ((moreK t1 t2 t3 t4 t5 t6 t7).take 6))) dm (.dK (moreK t1 t2 t3 t4 t5 t6 t7))) := But.upd (But.upd (But.upd But.refl))
    have PA27 : PenAt (upd (upd (upd H26 dm (.dK ((moreK t1 t2 t3 t4 t5 t6 t7).take 5))) dm (.dK ((moreK t1 t2 t3 t4 t5 t6 t7).take 6))) dm (.dK (moreK t1 t2 t3 t4 t5 t6 t7))) p pl _ := (((PA24.keep s25).other dmp dmpl).other dmp dmpl).other dmp dmpl
    generalize upd (upd (upd H26 dm (.dK ((moreK t1 t2 t3 t4 t5 t6 t7).take 5))) dm (.dK ((moreK t1 t2 t3 t4 t5 t6 t7).take 6))) dm (.dK (moreK t1 t2 t3 t4 t5 t6 t7)) = H27 at hdm27 b27 PA27 ⊢
    have tu : Tups H24 H27 := Tups.trans (same_tups s25) (fun c xs h => h.elim (fun h => .inl (b27 _ _ h (ne_of h hdm26 fun z => nomatch z))) fun ⟨u, h⟩ => .inr ⟨u, b27 _ _ h (ne_of h hdm26 fun z => nomatch z)⟩)
    have tu6 : Tups H26 H27 := fun c xs h => h.elim (fun h => .inl (b27 _ _ h (ne_of h hdm26 fun z => nomatch z))) fun ⟨u, h⟩ => .inr ⟨u, b27 _ _ h (ne_of h hdm26 fun z => nomatch z)⟩
    replace ht1 := SqT.tups tu ht1
    replace ht2 := SqT.tups tu ht2
    replace ht3 := SqT.tups tu ht3
    replace ht4 := SqT.tups tu ht4
    replace ht5 := SqT.tups tu ht5
    replace ht6 := SqT.tups tu ht6
    replace ht7 := SqT.tups tu6 ht7
    have b7 : But p H7 H27 := fun b o e n => b27 _ _ (s25 _ _ (b24 _ _ e n)) (ndm7 b o e n)
    clear tu tu6 htb b27 s25 hdm26 PA24 b24 nt7 nt6 nt5 ntb s26 s24 s22 tp hdm24 hdm23 hdm22 hdm21 PA23 PA22 b23 b22 b21 PA21 H26 H25
    have hao27 := b7 _ _ hao7 aop
    refine ⟨_, rfl, .inl ⟨rfl, _, SqL.of hao27⟩, _, rfl, (by show 1 ≤ sizeLine; decide), fun t8 nt8 => ?_⟩
    have s28 := same_upd (o := .tup [.str wd]) nt8
    have ht8 : SqT K (upd H27 t8 (.tup [.str wd])) t8 [.str wd] := SqT.of upd_same
    have hdm28 := s28 _ _ hdm27
    replace s7 := s28
    generalize upd H27 t8 (.tup [.str wd]) = H28 at s28 ht8 hdm28 ⊢
    refine ⟨_, rfl, dm, rfl, .inl ⟨_, .inl hdm28⟩, _, rfl, _, rfl, (by show 1 ≤ sizeLine; decide), fun t9 nt9 => ?_⟩
    have s29 := same_upd (o := .tup [.int one]) nt9
    have ht9 : SqT K (upd H28 t9 (.tup [.int one])) t9 [.int one] := SqT.of upd_same
    have hdm29 := s29 _ _ hdm28
    replace ht8 := SqT.tups (same_tups s29) ht8
    replace s28 := same_trans s28 s29
    generalize upd H28 t9 (.tup [.int one]) = H29 at s28 ht8 ht9 hdm29 ⊢
    have tu := same_tups s28
    obtain ⟨tr, er, htr, lr⟩ := more_get (K := K) (H := H29) hwd (SqT.tups tu ht1) (SqT.tups tu ht2) (SqT.tups tu ht3) (SqT.tups tu ht4) (SqT.tups tu ht5) (SqT.tups tu ht6) (SqT.tups tu ht7) ht9
    refine ⟨valV (moreK t1 t2 t3 t4 t5 t6 t7) (.inr wd), .inl ⟨_, .inr wd, .inl hdm29, rfl, rfl⟩, ?_⟩
    rw [er]
    refine ⟨t8, tr, _, _, rfl, rfl, ht8, htr, ?_, fun po H30 s30 hpo => ?_⟩
    · rw [List.length_map, sizeLine_eq]
      show 1 + _ ≤ _
      omega
    have s730 := same_trans s28 s30
    have hao30 := s730 _ _ hao27
    refine ⟨ao, zs, .ref po, rfl, rfl, hao30, by rw [sizeLine_eq]; omega, ?_⟩
    have tu30 : Tups H30 (upd H30 ao (.lst (zs ++ [.ref po]))) := Tups.upd (lst_ntup hao30)
    have PA30 := PA27.keep s730
    have PA31 : PenAt (upd H30 ao (.lst (zs ++ [.ref po]))) p pl _ := PA30.other aop aopl
    refine ⟨⟨_, _, _, _, _, _, _, rfl⟩, PA31.mono (by omega), fun b o e n1 n2 => ?_, zs ++ [.ref po], ords ++ [V.str wd :: (argsW wd one two place cc).map fun n : Nat => V.int (n : Nat)], upd_same, ?_, ?_, fun o ho => ?_⟩
    · rw [upd_ne n2]
      exact s730 _ _ (b7 _ _ (b67 _ _ e n1 n2) n1)
    · have t7 := pen_tups PA7 b7
      exact Paired.snoc (OrdsV.tups hos (Tups.trans t7 (Tups.trans (same_tups s730) tu30))) ⟨po, rfl, SqT.tups tu30 hpo⟩
    · rw [List.length_append, ol]
      rfl
    · rcases List.mem_append.mp ho with ho | ho
      · exact og o ho
      · rw [List.mem_singleton.mp ho]
        exact args_ok hwd h1 h2 h3 h4
  · rintro σ H7 ⟨⟨o6, o7, o8, o9, o10, o11, o12, rfl⟩, PA7, b67, zs, ords, hao7, hos, ol, og⟩
    intro d nd0
    have s8 := same_upd (o := .dK []) nd0
    refine ⟨_, rfl, _, rfl, _, rfl, upd_same, drK ar ac ao, rfl, (by show 3 ≤ 15; decide), ?_⟩
    rw [show mergeK [] (drK ar ac ao) = drK ar ac ao by kernel_rfl]
    have dp : d ≠ p := nap PA7 nd0
    have b08 : ∀ b o, H b = some o → b ≠ p → H7 b = some o := fun b o e n => b67 _ _ (b06 _ _ e n) n (naoH _ _ e n)
    have nd7 : ∀ b o, H7 b = some o → b ≠ d := fun b o e => ne_of_none e nd0
    have ndH : H d = none := by
      cases e : H d with
      | none => rfl
      | some o => exact absurd (b08 _ _ e dp) (by rw [nd0]; exact fun z => nomatch z)
    have dpl : d ≠ pl := by
      obtain ⟨cl, hpl⟩ := PA7.lis
      exact Ne.symm (ne_of_none hpl nd0)
    have har7 := b67 _ _ har6 arp (Ne.symm aoar)
    have hac7 := b67 _ _ hac6 acp (Ne.symm aoac)
    have up : ∀ b o, H7 b = some o → upd (upd H7 d (.dK [])) d (.dK (drK ar ac ao)) b = some o := fun b o e => by
      rw [upd_ne (nd7 b o e), upd_ne (nd7 b o e)]
      exact e
    refine q d ⟨rs, cs, ords⟩ _ ⟨rok, cok, by show 1 ≤ rs.length; omega, by show rs.length ≤ 3; omega, by show 1 ≤ cs.length; omega, by show cs.length ≤ 3; omega, by show ords.length ≤ 10; omega, fun o ho => by show OrdG rs.length cs.length ords.length o; rw [ol]; exact og o ho⟩ ⟨ar, ac, ao, zs, upd_same, up _ _ har7, up _ _ hac7, up _ _ hao7, hos.tups (same_tups up)⟩ ((PA7.keep up).mono (by omega)) (fun b o e n => up _ _ (b08 b o e n)) ndH
end
end K23

set_option Elab.async false
set_option linter.all false
set_option maxRecDepth 100000
set_option maxHeartbeats 4000000
namespace K23
open PySem PySem.Spec PyProof.Rows L2 Pen Tr AK LamX RL
/-! ### moments, as data -/
theorem get_list {X : Cx} : PGet X (rIxL X.K) := by
  intro pins s σ H x y v u Q I rx ry h
  obtain ⟨p, xs, i, z, rfl, rfl, hq, he, q⟩ := h
  cases rx
  obtain ⟨t, rfl⟩ := ry
  obtain ⟨its, r, pl, hz⟩ := I.list hq
  obtain ⟨j, h1, h2, h3, h4, h5⟩ := atI_get he
  obtain ⟨w, ew, rw'⟩ := r.get h2
  have hl := r.length
  have hn := line63
  have fin : EP X pins σ Q w s := ⟨z, H, I, rw', q⟩
  by_cases h0 : 0 ≤ i
  · have hj : i.toNat = j := by
      rw [seqIndex_of h0 h5] at h1
      exact Option.some.inj h1
    exact wpAny_getItem_list pl.isList h0 (by omega) (by rw [hj]; simpa using ew) fin
  · have hj : (i + (its.toArray.size : Int)).toNat = j := by
      rw [seqIndex_neg (by omega) h4] at h1
      rw [List.size_toArray, ← hl]
      exact Option.some.inj h1
    exact wpAny_getItem_list_neg pl.isList (by omega) (by rw [List.size_toArray] <;> omega) (by omega) (by rw [hj]; simpa using ew) fin
def wordO (o : List V) : Str := match o with
  | .str w :: _ => w
  | _ => ""
def argO (o : List V) (i : Nat) : Nat := match o[i]? with
  | some (.int z) => z.toNat
  | _ => 0
def atV (vs : List Int) (i : Nat) : Int := vs.getD i 0
def nextN (o : List V) (n : Nat) (vs : List Int) : Nat :=
  if wordO o = "jump" then argO o 1 else
  if wordO o = "ifzero" then (if atV vs (argO o 1) = 0 then argO o 2 else n + 1) else
  if wordO o = "ifsame" then (if atV vs (argO o 1) = atV vs (argO o 2) then argO o 3 else n + 1) else n + 1
def nextV (o : List V) (vs : List Int) : List Int :=
  if wordO o = "inc" then vs.set (argO o 1) (atV vs (argO o 1) + 1) else
  if wordO o = "dec" then vs.set (argO o 1) (if atV vs (argO o 1) - 1 > 0 then atV vs (argO o 1) - 1 else 0) else
  if wordO o = "clear" then vs.set (argO o 1) 0 else
  if wordO o = "add" then vs.set (argO o 1) (atV vs (argO o 1) + atV vs (argO o 2)) else
  if wordO o = "copy" then vs.set (argO o 1) (atV vs (argO o 2)) else vs
def overO (os : List (List V)) (n : Nat) : Bool := decide (os.length ≤ n) || decide (wordO (os.getD n []) = "end")
inductive OC (nr nc no : Nat) : List V → Prop
  | inc (r : Nat) : r < nr → OC nr nc no [.str "inc", .int (r : Nat)]
  | dec (r : Nat) : r < nr → OC nr nc no [.str "dec", .int (r : Nat)]
  | clear (r : Nat) : r < nr → OC nr nc no [.str "clear", .int (r : Nat)]
  | add (r s : Nat) : r < nr → s < nr → OC nr nc no [.str "add", .int (r : Nat), .int (s : Nat)]
  | copy (r s : Nat) : r < nr → s < nr → OC nr nc no [.str "copy", .int (r : Nat), .int (s : Nat)]
  | jump (l : Nat) : l ≤ no → OC nr nc no [.str "jump", .int (l : Nat)]
  | ifzero (r l : Nat) : r < nr → l ≤ no → OC nr nc no [.str "ifzero", .int (r : Nat), .int (l : Nat)]
  | ifsame (r s l : Nat) : r < nr → s < nr → l ≤ no → OC nr nc no [.str "ifsame", .int (r : Nat), .int (s : Nat), .int (l : Nat)]
  | paint (c : Nat) : c < nc → OC nr nc no [.str "paint", .int (c : Nat)]
  | fin : OC nr nc no [.str "end"]
theorem kind_in {w k : Str} (h : kindO w = some k) : (w, k) ∈ ordK := by
  unfold kindO at h
  obtain ⟨e, he, rfl⟩ := Option.map_eq_some_iff.mp h
  have e1 := List.find?_some he
  obtain rfl := of_decide_eq_true e1
  exact List.mem_of_find?_eq_some he
theorem oc_of {nr nc no : Nat} {o : List V} (h : OrdG nr nc no o) : OC nr nc no o := by
  obtain ⟨w, k, as, h1, rfl, h3, h4⟩ := h
  have hm := kind_in h1
  simp only [ordK, List.mem_cons, Prod.mk.injEq, List.not_mem_nil, or_false] at hm
  rcases hm with ⟨rfl, rfl⟩ | ⟨rfl, rfl⟩ | ⟨rfl, rfl⟩ | ⟨rfl, rfl⟩ | ⟨rfl, rfl⟩ | ⟨rfl, rfl⟩ | ⟨rfl, rfl⟩ | ⟨rfl, rfl⟩ | ⟨rfl, rfl⟩ | ⟨rfl, rfl⟩
  · have e := h3.trans (show _ = 1 by kernel_rfl)
    match as, e, h4 with
    | [a], _, h4 => exact .inc a ((h4 0 82 a (by kernel_rfl) rfl).1 rfl)
  · have e := h3.trans (show _ = 1 by kernel_rfl)
    match as, e, h4 with
    | [a], _, h4 => exact .dec a ((h4 0 82 a (by kernel_rfl) rfl).1 rfl)
  · have e := h3.trans (show _ = 1 by kernel_rfl)
    match as, e, h4 with
    | [a], _, h4 => exact .clear a ((h4 0 82 a (by kernel_rfl) rfl).1 rfl)
  · have e := h3.trans (show _ = 2 by kernel_rfl)
    match as, e, h4 with
    | [a, b], _, h4 => exact .add a b ((h4 0 82 a (by kernel_rfl) rfl).1 rfl) ((h4 1 82 b (by kernel_rfl) rfl).1 rfl)
  · have e := h3.trans (show _ = 2 by kernel_rfl)
    match as, e, h4 with
    | [a, b], _, h4 => exact .copy a b ((h4 0 82 a (by kernel_rfl) rfl).1 rfl) ((h4 1 82 b (by kernel_rfl) rfl).1 rfl)
  · have e := h3.trans (show _ = 1 by kernel_rfl)
    match as, e, h4 with
    | [a], _, h4 => exact .jump a ((h4 0 76 a (by kernel_rfl) rfl).2.2 rfl)
  · have e := h3.trans (show _ = 2 by kernel_rfl)
    match as, e, h4 with
    | [a, b], _, h4 => exact .ifzero a b ((h4 0 82 a (by kernel_rfl) rfl).1 rfl) ((h4 1 76 b (by kernel_rfl) rfl).2.2 rfl)
  · have e := h3.trans (show _ = 3 by kernel_rfl)
    match as, e, h4 with
    | [a, b, c], _, h4 => exact .ifsame a b c ((h4 0 82 a (by kernel_rfl) rfl).1 rfl) ((h4 1 82 b (by kernel_rfl) rfl).1 rfl) ((h4 2 76 c (by kernel_rfl) rfl).2.2 rfl)
  · have e := h3.trans (show _ = 1 by kernel_rfl)
    match as, e, h4 with
    | [a], _, h4 => exact .paint a ((h4 0 67 a (by kernel_rfl) rfl).2.1 rfl)
  · have e := h3.trans (show _ = 0 by kernel_rfl)
    match as, e, h4 with
    | [], _, h4 => exact .fin
/-- places stay places, numbers stay numbers -/
theorem nextN_le {nr nc no n : Nat} {o : List V} {vs : List Int} (h : OC nr nc no o) (hn : n < no) : nextN o n vs ≤ no := by
  cases h with
  | jump l hl => exact hl
  | ifzero r l hr hl =>
    show (if atV vs r = 0 then l else n + 1) ≤ no
    split <;> omega
  | ifsame r s l hr hs hl =>
    show (if atV vs r = atV vs s then l else n + 1) ≤ no
    split <;> omega
  | inc r hr => exact hn
  | dec r hr => exact hn
  | clear r hr => exact hn
  | add r s hr hs => exact hn
  | copy r s hr hs => exact hn
  | paint c hc => exact hn
  | fin => exact hn
theorem nextV_len {o : List V} {vs : List Int} : (nextV o vs).length = vs.length := by
  unfold nextV
  repeat' split
  all_goals first | exact List.length_set | rfl
def momS (os : List (List V)) (m : Nat × List Int) : Nat × List Int := (nextN (os.getD m.1 []) m.1 m.2, nextV (os.getD m.1 []) m.2)
def momA (os : List (List V)) (vs : List Int) : Nat → Nat × List Int
  | 0 => (0, vs)
  | j + 1 => momS os (momA os vs j)
/-- the index of the last moment -/
structure MEnd (os : List (List V)) (vs : List Int) (most J : Nat) : Prop where
  le : J ≤ most
  ne : ∀ i, i < J → overO os (momA os vs i).1 = false
  en : J = most ∨ overO os (momA os vs J).1 = true
theorem MEnd.one {os : List (List V)} {vs : List Int} {most J L : Nat} (a : MEnd os vs most J) (b : MEnd os vs most L) : J = L := by
  rcases Nat.lt_trichotomy J L with h | h | h
  · have := a.en
    have := b.ne J h
    have := b.le
    rcases a.en with e | e
    · omega
    · rw [b.ne J h] at e
      cases e
  · exact h
  · have := a.le
    rcases b.en with e | e
    · omega
    · rw [a.ne L h] at e
      cases e
def momT (m : Nat × List Int) : PyData := .tuple [.int (m.1 : Nat), .tuple (m.2.map .int)]
def momD (os : List (List V)) (vs : List Int) (J : Nat) : PyData := .tuple ((List.range (J + 1)).map fun i => momT (momA os vs i))
theorem momA_ok {nr nc : Nat} {os : List (List V)} {vs : List Int} (ok : ∀ o ∈ os, OC nr nc os.length o) (hv : vs.length = nr) : ∀ j, (∀ i, i < j → overO os (momA os vs i).1 = false) → (momA os vs j).1 ≤ os.length ∧ (momA os vs j).2.length = nr
  | 0, _ => ⟨Nat.zero_le _, hv⟩
  | j + 1, h => by
    obtain ⟨h1, h2⟩ := momA_ok ok hv j fun i hi => h i (by omega)
    have z := h j (Nat.lt_succ_self j)
    unfold overO at z
    obtain ⟨z1, z2⟩ := Bool.or_eq_false_iff.mp z
    have lt : (momA os vs j).1 < os.length := Nat.lt_of_not_le (of_decide_eq_false z1)
    have e : os.getD (momA os vs j).1 [] = os[(momA os vs j).1] := by rw [List.getD_eq_getElem?_getD, List.getElem?_eq_getElem lt]; rfl
    refine ⟨?_, ?_⟩
    · show nextN (os.getD (momA os vs j).1 []) (momA os vs j).1 (momA os vs j).2 ≤ os.length
      rw [e]
      exact nextN_le (ok _ (List.getElem_mem lt)) lt
    · show (nextV (os.getD (momA os vs j).1 []) (momA os vs j).2).length = nr
      rw [nextV_len, h2]
end K23

set_option Elab.async false
set_option linter.all false
set_option maxRecDepth 100000
set_option maxHeartbeats 4000000
namespace K23
open PySem PySem.Spec PyProof.Rows L2 Pen Tr AK LamX RL
theorem ne_s {a b : Str} {c d : Prop} (h : decide (V.str a = V.str b) = false) (r : d) : if decide (V.str a = V.str b) = true then c else d := by
  rw [h]
  exact iteF r
theorem eq_s {a : Str} {c d : Prop} (r : c) : if decide (V.str a = V.str a) = true then c else d := by
  rw [decide_eq_true rfl]
  exact iteT r
theorem ix_nat {n j : Nat} (h : j < n) : ixN n (j : Int) = some j := by
  unfold ixN
  rw [if_pos (by omega), if_pos (by omega)]
  rfl
theorem at_map {vs : List Int} {r : Nat} (h : r < vs.length) : atI (vs.map V.int) (r : Int) = some (V.int (atV vs r)) := by
  refine atI_nat ?_
  rw [List.getElem?_map, List.getElem?_eq_getElem h]
  unfold atV
  rw [List.getD_eq_getElem?_getD, List.getElem?_eq_getElem h]
  rfl
theorem ords_at {K : PySem.W.Frag} {H : Hp} {os : List (List V)} {xs : List V} (h : OrdsV K H os xs) {n : Nat} (hn : n < os.length) : ∃ q, xs[n]? = some (.ref q) ∧ SqT K H q (os.getD n []) := by
  have hl := Paired.length h
  obtain ⟨o, ho, q, e, hq⟩ := pairW h (List.getElem?_eq_getElem (by omega : n < xs.length))
  rw [List.getElem?_eq_getElem hn] at ho
  refine ⟨q, by rw [List.getElem?_eq_getElem (by omega : n < xs.length), e], ?_⟩
  rw [List.getD_eq_getElem?_getD, List.getElem?_eq_getElem hn]
  injection ho with ho
  rw [← ho] at hq
  exact hq
theorem oc_word {nr nc no : Nat} {o : List V} (h : OC nr nc no o) : o[0]? = some (.str (wordO o)) := by
  cases h <;> rfl
theorem or_end {os : List (List V)} {n : Nat} (h : n < os.length) : overO os n = decide (V.str (wordO (os.getD n [])) = V.str "end") := by
  unfold overO
  rw [decide_eq_false (by omega), Bool.false_or]
  exact decide_eq_decide.mpr ⟨fun e => congrArg V.str e, fun e => by injection e⟩
theorem or_len {os : List (List V)} {n : Nat} (h : os.length ≤ n) : overO os n = true := by
  unfold overO
  rw [decide_eq_true h]
  rfl
end K23

set_option Elab.async false
set_option linter.all false
set_option maxRecDepth 100000
set_option maxHeartbeats 4000000
namespace K23
open PySem PySem.Spec PyProof.Rows L2 Pen Tr AK LamX RL RU
def numD : PyData → Bool
  | .int i => decide (0 ≤ i)
  | _ => false
theorem dps_at {K : PySem.W.Frag} {H : Hp} : ∀ {xs : List V} {ds : List PyData} {i : Nat} {v : V}, DpAll K H xs ds → xs[i]? = some v → ∃ d, ds[i]? = some d ∧ Dp K H v d
  | _, _, i, v, .nil, e => by simp at e
  | _, _, 0, v, .cons h1 _, e => by
    cases (show some _ = some v from e)
    exact ⟨_, rfl, h1⟩
  | _, _, i + 1, v, .cons _ h2, e => by
    obtain ⟨d, hd, h⟩ := dps_at h2 (i := i) (by simpa using e)
    exact ⟨d, by simpa using hd, h⟩
def numOk : PyData → Bool
  | .int i => decide (0 ≤ i) && decide (i < 2 ^ 40)
  | _ => false
section
variable {P : Program} {w : World} {K : PySem.W.Frag} {mg : Str → Option PySem.Value} {base : Heap} {f fI fN fL CP CN : Addr} {fd fdI fdN fdL : FuncData} {H H' : Hp}
theorem scInt : FnScope ["value"] ["value"] (defScope (top 6)) := ⟨rfl, rfl, rfl, by decide +kernel, rfl, by decide +kernel, by decide +kernel⟩
theorem ok_int (F : FnT K "is_integer" 6 f fd) (T : Txt mg) : FnOk P w K mg base CX0 1 f fd ["value"] (spAsk isIntD K) := by
  refine F.ok scInt (fun vs H Q E h => spAsk_len h) (fun cdv A outer s H vs Q E hr h => ?_)
  obtain ⟨v, d, rfl, hD, q⟩ := h
  suffices z : ∃ t, PSs (cxOf CX0 P w K mg base ["value"] "is_integer" (defScope (top 6)) f cdv A outer s H E).nox (defBody (top 6)) t ∧ t { nx := fun _ H' => Q .non H', rt := Q } (start ["value"] [v]) H by
    obtain ⟨t, h1, h2⟩ := z
    exact ⟨t, h1.nox, h2⟩
  refine ⟨_, pss_one (ps_ret (pe_and (pe_callB call_isD (by rfl) T.isi (by decide +kernel) (pa_cons (pv 0) (pa_cons (pe_bltn (by rfl) T.int (by decide +kernel) (v := .ty "int") rfl) pa_nil)))
    (pe_one (pe_not (pe_callB call_isD (by rfl) T.isi (by decide +kernel) (pa_cons (pv 0) (pa_cons (pe_bltn (by rfl) T.bool (by decide +kernel) (v := .ty "bool") rfl) pa_nil))))))), ?_⟩
  obtain ⟨b, h1, h2, h3⟩ := kit_int d (dp_nodict hD)
  refine ⟨_, rfl, _, "int", d, b, rfl, hD, h1, b, rfl, ?_⟩
  by_cases hb : b = true
  · rw [if_pos hb]
    obtain ⟨c, c1, c2⟩ := h2 hb
    refine ⟨_, rfl, _, "bool", d, c, rfl, hD, c1, c, rfl, ?_⟩
    rw [c2]
    exact q
  · rw [if_neg hb]
    rw [h3 (by simpa using hb)] at q
    exact q
theorem scNum : FnScope ["value"] ["value"] (defScope (top 7)) := ⟨rfl, rfl, rfl, by decide +kernel, rfl, by decide +kernel, by decide +kernel⟩
theorem ok_num (F : FnT K "is_number" 7 f fd) (T : Txt mg) (FI : FnT K "is_integer" 6 fI fdI) (gI : mg "is_integer" = some (.ref fI)) : FnOk P w K mg base CX0 2 f fd ["value"] (spAsk numD K) := by
  refine F.ok scNum (fun vs H Q E h => spAsk_len h) (fun cdv A outer s H vs Q E hr h => ?_)
  obtain ⟨v, d, rfl, hD, q⟩ := h
  suffices z : ∃ t, PSs (cxOf CX0 P w K mg base ["value"] "is_number" (defScope (top 7)) f cdv A outer s H E).nox (defBody (top 7)) t ∧ t { nx := fun _ H' => Q .non H', rt := Q } (start ["value"] [v]) H by
    obtain ⟨t, h1, h2⟩ := z
    exact ⟨t, h1.nox, h2⟩
  have GI := ok_int (P := P) (w := w) (mg := mg) (base := base) FI T
  have bI : L2.Binds K fdI ["value"] [] := FunD.bindsN FI fun _ _ _ _ _ _ us hl => match us, hl with | [_], _ => rfl
  refine ⟨_, pss_one (ps_ret (pe_and (pe_call GI hr (by rfl) gI FI.kp bI .nil pass0 (pa_cons (pv 0) pa_nil)) (pe_one (pe_cmpR op_ge (pv 0) pe_int (nomark _))))), ?_⟩
  refine ⟨_, rfl, v, d, rfl, hD, _, rfl, ?_⟩
  by_cases hb : isIntD d = true
  · rw [if_pos hb]
    cases hD with
    | int i => exact ⟨_, rfl, i, 0, rfl, rfl, q⟩
    | _ => cases hb
  · rw [if_neg hb]
    have z : numD d = false := by
      cases d <;> first | rfl | exact absurd rfl hb
    rw [z] at q
    exact q
/-- is_list -/
def spIsl (K : PySem.W.Frag) : Sp := fun vs H Q _ => ∃ v, vs = [v] ∧ ((∃ a ys, v = .ref a ∧ (SqL K H a ys ∨ SqT K H a ys) ∧ ∀ H', Same H H' → Q (.bl true) H') ∨ ((v = .non ∨ (∃ i, v = .int i) ∨ ∃ x, v = .str x) ∧ ∀ H', Same H H' → Q (.bl false) H'))
theorem scIsl : FnScope ["value"] ["value"] (defScope (top 11)) := ⟨rfl, rfl, rfl, by decide +kernel, rfl, by decide +kernel, by decide +kernel⟩
theorem ok_isl (F : FnT K "is_list" 11 f fd) (T : Txt mg) : FnOk P w K mg base CX0 1 f fd ["value"] (spIsl K) := by
  refine F.ok scIsl (fun vs H Q E h => by obtain ⟨v, rfl, _⟩ := h; rfl) (fun cdv A outer s H vs Q E hr h => ?_)
  obtain ⟨v, rfl, h⟩ := h
  suffices z : ∃ t, PSs (cxOf CX0 P w K mg base ["value"] "is_list" (defScope (top 11)) f cdv A outer s H E).nox (defBody (top 11)) t ∧ t { nx := fun _ H' => Q .non H', rt := Q } (start ["value"] [v]) H by
    obtain ⟨t, h1, h2⟩ := z
    exact ⟨t, h1.nox, h2⟩
  refine ⟨_, pss_one (ps_ret (pe_callB RU.call_isLT (by rfl) T.isi (by decide +kernel) (pa_cons (pv 0) (pa_cons (pe_tup (pa_cons (pe_bltn (by rfl) T.list (by decide +kernel) (v := .ty "list") rfl) (pa_cons (pe_bltn (by rfl) T.tuple (by decide +kernel) (v := .ty "tuple") rfl) pa_nil))) pa_nil)))), ?_⟩
  refine ⟨_, rfl, (by show 2 ≤ sizeLine; rw [sizeLine_eq]; decide), fun tp ntp => ⟨v, tp, rfl, upd_same, ?_⟩⟩
  have s1 := same_upd (o := .tup [.ty "list", .ty "tuple"]) ntp
  rcases h with ⟨a, ys, rfl, hs, q⟩ | ⟨hv, q⟩
  · exact .inl ⟨a, ys, rfl, hs.imp (fun h => Kp.sql (Kp.same s1) h) (fun h => SqT.tups (same_tups s1) h), q _ s1⟩
  · have no : ∀ t, (t = "NoneType" ∨ t = "int" ∨ t = "str") → PySem.W.kitAny K (.type t) [.type "list", .type "tuple"] = some false := fun t ht => by
      refine kitAny_cons (b := false) (kit_ty ?_) (fun _ => kitAny_cons (b := false) (kit_ty ?_) (fun _ => rfl) fun z => nomatch z) fun z => nomatch z
      · rcases ht with rfl | rfl | rfl <;> decide +kernel
      · rcases ht with rfl | rfl | rfl <;> decide +kernel
    rcases hv with rfl | ⟨i, rfl⟩ | ⟨x, rfl⟩
    · exact .inr ⟨_, .base .non, no _ (.inl rfl), q _ s1⟩
    · exact .inr ⟨_, .base (.int i), no _ (.inr (.inl rfl)), q _ s1⟩
    · exact .inr ⟨_, .base (.str x), no _ (.inr (.inr rfl)), q _ s1⟩
/-- BadNumber(x, v) is raised -/
def NumE (CN : Addr) (E : XK) (H : Hp) (x : Str) (v : V) : Prop := ∀ dd H', Same H H' → H' dd = some (.xd [("number", v), ("what", .str x)]) → E (.ref CN) (some dd) H'
def spCv (K : PySem.W.Frag) (CP CN : Addr) : Sp := fun vs H Q E => ∃ a t rs cs os v, vs = [.ref a, v] ∧ PrAt K CP H a t rs cs os ∧ ((((v = .non ∨ (∃ i, v = .int i) ∨ ∃ x, v = .str x) ∧ NumE CN E H "values" v)) ∨
  ∃ b ys ds, v = .ref b ∧ (SqL K H b ys ∨ SqT K H b ys) ∧ DpAll K H ys ds ∧ ds.length ≤ 10 ∧ (if ds.length = rs.length ∧ ds.all numOk = true then ∀ H', Same H H' → Q .non H' else NumE CN E H "values" v))
abbrev nCv : List Str := ["program", "values", "value"]
theorem scCv : FnScope nCv ["program", "values"] (defScope (top 30)) := ⟨rfl, rfl, rfl, by decide +kernel, rfl, by decide +kernel, by decide +kernel⟩
theorem ok_Cv (F : FnT K "check_values" 30 f fd) (TX : Txt mg) (PF : PrF K CP) (EB : Er P w K mg base "BadNumber" CN ["what", "number"])
    (FIl : FnT K "is_list" 11 fIl fdIl) (gIl : mg "is_list" = some (.ref fIl)) (GIl : FnOk P w K mg base CX0 1 fIl fdIl ["value"] (spIsl K))
    (FIn : FnT K "is_number" 7 fIn fdIn) (gIn : mg "is_number" = some (.ref fIn)) (GIn : FnOk P w K mg base CX0 2 fIn fdIn ["value"] (spAsk numD K)) : FnOk P w K mg base (L2.CX P w) 3 f fd ["program", "values"] (spCv K CP CN) := by
  refine F.ok scCv (fun vs H Q E h => by obtain ⟨a, t, rs, cs, os, v, rfl, _⟩ := h; rfl) (fun cdv A outer s0 H vs Q E hr h => ?_)
  obtain ⟨a, t, rs, cs, os, v, rfl, ⟨dx, pr, pc, po, xs, ha, hpr, hpc, hpo, hos⟩, q⟩ := h
  have nd := scCv.nd
  have hu := hr.units
  have hu1 := hu_of hr
  have bIl : L2.Binds K fdIl ["value"] [] := FunD.bindsN FIl fun _ _ _ _ _ _ us hl => match us, hl with | [_], _ => rfl
  have bIn : L2.Binds K fdIn ["value"] [] := FunD.bindsN FIn fun _ _ _ _ _ _ us hl => match us, hl with | [_], _ => rfl
  refine ⟨_, pss_cons (ps_if (PW.pt (pw_or (pt_not (pt_val (pe_call GIl (hr.mono (by decide)) (by rfl) gIl FIl.kp bIl .nil pass0 (pa_cons (pv 1) pa_nil)))) (pw_or1 (pt_cmpR op_ne (pe_callB call_len_seq (by rfl) TX.len PySem.boot_len (pa_cons (pv 1) pa_nil)) (pe_callB call_len_seq (by rfl) TX.len PySem.boot_len (pa_cons (pe_fld (pv 0) rfl) pa_nil)) (nomark _))))) (pss_one (ps_raise rfl (takes_of rfl rfl rfl rfl) (pmk_er EB hr (by rfl) (pa_cons pe_str (pa_cons (pv 1) pa_nil))))) pss_nil)
    (pss_one (ps_if (pt_not (pt_val (pe_callB (cr_all rfl) (by rfl) TX.all (by decide +kernel) (pa_cons (pe_lc (own := [("value", 2)]) (g := gName 2) (tt := tYes) (te := tAndV (tCall (spAsk numD K) [] E0 (tCons (tVar 2) tNil)) (tOp (rI0 fun i j => .bl (decide (i < j))) (tVar 2) (tOp (rI CPow fun i j => .int (i ^ j.toNat)) (tC (.int 2)) (tC (.int 40))))) (by rfl) nd (pi_or (pi_list (pv 1)) (pi_tup (pv 1))) (blkOk_by (own := [("value", 2)]) (N := nCv) (sc := defScope (top 30)) (by decide +kernel)) (fun _ _ _ _ _ => (pg_name (i := 2) nd rfl (.inl rfl))) (fun _ _ _ _ _ => pts_nil) (fun _ _ _ _ _ => (pe_and (pe_call GIn (hr.mono (by decide)) (by rfl) gIn FIn.kp bIn .nil pass0 (pa_cons (pv 2) pa_nil)) (pe_one (pe_cmpR op_lt (pv 2) (pe_op op_pow pe_int pe_int) (nomark _)))))) pa_nil)))) (pss_one (ps_raise rfl (takes_of rfl rfl rfl rfl) (pmk_er EB hr (by rfl) (pa_cons pe_str (pa_cons (pv 1) pa_nil))))) pss_nil)), ?_⟩
  clear bIl bIn
  have lr : (rs.map V.str).length = rs.length := List.length_map _
  have sp : ∀ H1, Same H H1 → NumE CN E H "values" v → ([V.str "values", v] : List V).length ≤ 1000 ∧ ∀ a, H1 a = none → spI CN ["what", "number"] (.ref a :: ([V.str "values", v] ++ [])) (upd H1 a (exo a CN none)) (fun v H2 => v = .non ∧ ∃ (d : Addr) (gs : List (Str × V)), H2 a = some (exo a CN (some d)) ∧ H2 d = some (exd d gs) ∧ H1 d = none ∧ E (.ref CN) (some d) (upd (del H2 a) d (.xd gs))) (fun _ _ _ => False) :=
    fun H1 s1 ne => raise_sp rfl (by decide) fun dd hd H2 s2 e2 => ne dd H2 (same_trans s1 s2) e2
  rcases q with ⟨hv, ne⟩ | ⟨b, ys, ds, rfl, hs, hd, hl, q⟩
  · refine ⟨_, rfl, v, rfl, .inr ⟨hv, fun H1 s1 => ⟨_, rfl, ?_⟩⟩⟩
    exact iteT (iteT ⟨_, rfl, sp H1 s1 ne⟩)
  · have yl := dps_len hd
    refine ⟨_, rfl, _, rfl, .inl ⟨b, ys, rfl, hs, fun H1 s1 => ⟨_, rfl, ?_⟩⟩⟩
    replace hs : SqL K H1 b ys ∨ SqT K H1 b ys := hs.imp (fun h => Kp.sql (Kp.same s1) h) (fun h => SqT.tups (same_tups s1) h)
    refine iteF ⟨_, rfl, b, ys, rfl, hs, _, rfl, a, CP, dx, _, .ref pr, rfl, s1 _ _ ha, PF.cl, PF.re, rfl, pr, _, rfl, .inr (SqT.tups (same_tups s1) hpr), rfl, _, rfl, ?_⟩
    by_cases e : ds.length ≠ rs.length
    · rw [if_neg fun z => e z.1] at q
      rw [show (!decide (V.int ((ys.length : Nat) : Int) = V.int (((rs.map V.str).length : Nat) : Int))) = true by rw [decide_eq_false fun z => by injection z; omega]; rfl]
      exact iteT ⟨_, rfl, sp H1 s1 q⟩
    replace e : ds.length = rs.length := Decidable.not_not.mp e
    rw [show (!decide (V.int ((ys.length : Nat) : Int) = V.int (((rs.map V.str).length : Nat) : Int))) = false by rw [decide_eq_true (by rw [yl, e, lr])]; rfl]
    refine iteF ?_
    rcases hs with hs | hs
    · refine .inl ⟨_, rfl, b, rfl, ⟨_, hs⟩, fun D nD => ?_⟩
      refine lc_it (walk_list (K := K) (a := b) (xs := ys)) (fun i H' => Same H H' ∧ Same H1 H' ∧ H' D = some (.lst ((ds.take i).map fun d => V.bl (numOk d)))) ⟨same_trans s1 (same_upd nD), same_upd nD, upd_same⟩ (fun i H' _ p => Kp.sql (Kp.same p.2.1) hs) ?_ ?_
      · rintro i x H3 H2 hi ⟨s2, s3, hacc⟩ ⟨rfl, hx⟩
        obtain ⟨d1, hd1, hx1⟩ := dps_at hd hx
        have fin : ∀ z, z = numOk d1 → ∃ acc, H2 D = some (.lst acc) ∧ acc.length < sizeLine ∧ (fun i H' => Same H H' ∧ Same H1 H' ∧ H' D = some (.lst ((ds.take i).map fun d => V.bl (numOk d)))) (i + 1) (upd H2 D (.lst (acc ++ [V.bl z]))) := fun z ez => by
          refine ⟨_, hacc, ?_, fun b o e => ?_, fun b o e => ?_, ?_⟩
          · rw [List.length_map, List.length_take, sizeLine_eq]
            omega
          · rw [upd_ne (ne_of_none (s1 _ _ e) nD)]
            exact s2 _ _ e
          · rw [upd_ne (ne_of_none e nD)]
            exact s3 _ _ e
          · rw [upd_same, List.take_add_one, hd1, List.map_append, ez]
            rfl
        refine ⟨rfl, yes_if ⟨_, rfl, x, d1, rfl, dp_same s2 _ _ hx1, _, rfl, ?_⟩⟩
        cases c : numD d1 with
        | false =>
          refine iteF (fin _ ?_)
          cases d1 <;> first | rfl | exact (by show false = (numD (.int _) && _); rw [c]; rfl)
        | true =>
          cases hx1 with
          | int z => exact iteT ⟨_, rfl, 2, 40, rfl, rfl, ⟨by decide, by decide, by decide⟩, z, _, rfl, rfl, fin _ (by show _ = (numD (.int z) && _); rw [c]; rfl)⟩
          | _ => cases c
      · rintro H2 ⟨s2, s3, hacc⟩
        rw [yl, List.take_length] at hacc
        refine ⟨D, ds.map numOk, rfl, SqL.of (by rw [List.map_map]; exact hacc), _, rfl, ?_⟩
        have ea : (ds.map numOk).all id = ds.all numOk := by rw [List.all_map]; rfl
        rw [ea]
        cases c : ds.all numOk with
        | true =>
          rw [if_pos ⟨e, c⟩] at q
          exact iteF (q H2 s2)
        | false =>
          rw [if_neg fun z => by rw [z.2] at c; cases c] at q
          exact iteT ⟨_, rfl, sp H2 s2 q⟩
    · refine .inr ⟨_, rfl, b, rfl, ⟨_, hs⟩, fun D nD => ?_⟩
      refine lc_it (walk_tup (K := K) (a := b) (xs := ys)) (fun i H' => Same H H' ∧ Same H1 H' ∧ H' D = some (.lst ((ds.take i).map fun d => V.bl (numOk d)))) ⟨same_trans s1 (same_upd nD), same_upd nD, upd_same⟩ (fun i H' _ p => SqT.tups (same_tups p.2.1) hs) ?_ ?_
      · rintro i x H3 H2 hi ⟨s2, s3, hacc⟩ ⟨rfl, hx⟩
        obtain ⟨d1, hd1, hx1⟩ := dps_at hd hx
        have fin : ∀ z, z = numOk d1 → ∃ acc, H2 D = some (.lst acc) ∧ acc.length < sizeLine ∧ (fun i H' => Same H H' ∧ Same H1 H' ∧ H' D = some (.lst ((ds.take i).map fun d => V.bl (numOk d)))) (i + 1) (upd H2 D (.lst (acc ++ [V.bl z]))) := fun z ez => by
          refine ⟨_, hacc, ?_, fun b o e => ?_, fun b o e => ?_, ?_⟩
          · rw [List.length_map, List.length_take, sizeLine_eq]
            omega
          · rw [upd_ne (ne_of_none (s1 _ _ e) nD)]
            exact s2 _ _ e
          · rw [upd_ne (ne_of_none e nD)]
            exact s3 _ _ e
          · rw [upd_same, List.take_add_one, hd1, List.map_append, ez]
            rfl
        refine ⟨rfl, yes_if ⟨_, rfl, x, d1, rfl, dp_same s2 _ _ hx1, _, rfl, ?_⟩⟩
        cases c : numD d1 with
        | false =>
          refine iteF (fin _ ?_)
          cases d1 <;> first | rfl | exact (by show false = (numD (.int _) && _); rw [c]; rfl)
        | true =>
          cases hx1 with
          | int z => exact iteT ⟨_, rfl, 2, 40, rfl, rfl, ⟨by decide, by decide, by decide⟩, z, _, rfl, rfl, fin _ (by show _ = (numD (.int z) && _); rw [c]; rfl)⟩
          | _ => cases c
      · rintro H2 ⟨s2, s3, hacc⟩
        rw [yl, List.take_length] at hacc
        refine ⟨D, ds.map numOk, rfl, SqL.of (by rw [List.map_map]; exact hacc), _, rfl, ?_⟩
        have ea : (ds.map numOk).all id = ds.all numOk := by rw [List.all_map]; rfl
        rw [ea]
        cases c : ds.all numOk with
        | true =>
          rw [if_pos ⟨e, c⟩] at q
          exact iteF (q H2 s2)
        | false =>
          rw [if_neg fun z => by rw [z.2] at c; cases c] at q
          exact iteT ⟨_, rfl, sp H2 s2 q⟩
end
theorem ints_all {ns : List Int} (h : ∀ z ∈ ns, 0 ≤ z ∧ z < 2 ^ 40) : (ns.map PyData.int).all numOk = true := by
  rw [List.all_map]
  exact List.all_eq_true.mpr fun z hz => by
    obtain ⟨h1, h2⟩ := h z hz
    show (decide (0 ≤ z) && decide (z < 2 ^ 40)) = true
    rw [decide_eq_true h1, decide_eq_true h2]
    rfl
theorem dp_ints {K : PySem.W.Frag} {H : Hp} : ∀ ns : List Int, DpAll K H (ns.map V.int) (ns.map PyData.int)
  | [] => .nil
  | n :: ns => .cons (.int n) (dp_ints ns)
/-- values that are refused -/
def BadVs (K : PySem.W.Frag) (H : Hp) (nr : Nat) (v : V) : Prop := (v = .non ∨ (∃ i, v = .int i) ∨ ∃ x, v = .str x) ∨
  ∃ b ys ds, v = .ref b ∧ (SqL K H b ys ∨ SqT K H b ys) ∧ DpAll K H ys ds ∧ ds.length ≤ 10 ∧ ¬ (ds.length = nr ∧ ds.all numOk = true)
structure GoodVs (K : PySem.W.Frag) (H : Hp) (nr : Nat) (v : V) (ns : List Int) : Prop where
  at_ : ∃ b, v = .ref b ∧ (SqL K H b (ns.map V.int) ∨ SqT K H b (ns.map V.int))
  len : ns.length = nr
  num : ∀ z ∈ ns, 0 ≤ z ∧ z < 2 ^ 40
end K23

set_option Elab.async false
set_option linter.all false
set_option maxRecDepth 100000
set_option maxHeartbeats 4000000
namespace K23
open PySem PySem.Spec PyProof.Rows L2 Pen Tr AK LamX RL RU
section
variable {P : Program} {w : World} {K : PySem.W.Frag} {mg : Str → Option PySem.Value} {base : Heap} {f fP2 : Addr} {fd fdP2 : FuncData} {H H' : Hp}
def spP2 : Sp := fun vs H Q _ => ∃ n : Nat, vs = [.int n] ∧ n ≤ 1000 ∧ Q (.int (2 ^ n)) H
abbrev nP2 : List Str := ["_law_place", "_law_found", "_law_lap"]
theorem scP2 : FnScope nP2 ["_law_place"] (defScope (top 71)) := ⟨rfl, rfl, rfl, by decide +kernel, rfl, by decide +kernel, by decide +kernel⟩
theorem ok_P2 (F : FnT K "_law_power_two" 71 f fd) (TX : Txt mg) : FnOk P w K mg base CX0 1 f fd ["_law_place"] spP2 := by
  refine F.ok scP2 (fun vs H Q E h => by obtain ⟨n, rfl, _⟩ := h; rfl) (fun cdv A outer s0 H vs Q E hr h => ?_)
  obtain ⟨n, rfl, hn, q⟩ := h
  have nd := scP2.nd
  have hu := hr.units
  have hu1 := hu_of hr
  suffices z : ∃ tt, PSs (cxOf CX0 P w K mg base nP2 "_law_power_two" (defScope (top 71)) f cdv A outer s0 H E).nox (defBody (top 71)) tt ∧ tt { nx := fun _ H' => Q .non H', rt := Q } (start nP2 [.int n]) H by
    obtain ⟨tt, h1, h2⟩ := z
    exact ⟨tt, h1.nox, h2⟩
  refine ⟨_, pss_cons (ps_asg pe_int (pg_name (i := 1) nd rfl (.inl rfl)))
    (pss_cons (ps_for PassesOwn.never rfl (pi_range1 (by rfl) TX.range (pa_cons (pv 0) pa_nil)) (pg_name (i := 2) nd rfl (.inl rfl))
    (pss_one (ps_asg (pe_op op_mul (pv 1) pe_int) (pg_name (i := 1) nd rfl (.inl rfl)))))
    (pss_one (ps_ret (pv 1)))), ?_⟩
  refine ⟨_, rfl, n, rfl, by omega, by omega, ?_⟩
  refine for_it (walk_range (lo := 0) (n := n)) (fun i σ H' => (∃ o2, σ = [some (.int n), some (.int (2 ^ i)), o2]) ∧ H = H') ⟨⟨none, rfl⟩, rfl⟩ (fun _ _ _ _ _ => trivial) ?_ ?_
  · rintro i y σ H3 H2 hi ⟨⟨o2, rfl⟩, rfl⟩ ⟨rfl, rfl⟩
    refine ⟨_, rfl, _, _, rfl, rfl, .inr ⟨by decide, by decide⟩, ⟨some (.int (0 + (i : Nat))), ?_⟩, rfl⟩
    rw [Int.pow_succ]
    rfl
  · rintro σ H2 ⟨⟨o2, rfl⟩, rfl⟩
    exact ⟨_, rfl, q⟩
def spDg : Sp := fun vs H Q _ => ∃ z n : Nat, vs = [.int z, .int n] ∧ n ≤ 1000 ∧ Q (.int ((z / 2 ^ n % 2 : Nat) : Int)) H
abbrev nDg : List Str := ["_law_number", "_law_place"]
theorem scDg : FnScope nDg ["_law_number", "_law_place"] (defScope (top 70)) := ⟨rfl, rfl, rfl, by decide +kernel, rfl, by decide +kernel, by decide +kernel⟩
theorem ok_Dg (F : FnT K "_law_digit" 70 f fd) (TX : Txt mg)
    (FP2 : FnT K "_law_power_two" 71 fP2 fdP2) (gP2 : mg "_law_power_two" = some (.ref fP2)) (GP2 : FnOk P w K mg base CX0 1 fP2 fdP2 ["_law_place"] spP2) : FnOk P w K mg base CX0 2 f fd ["_law_number", "_law_place"] spDg := by
  refine F.ok scDg (fun vs H Q E h => by obtain ⟨z, n, rfl, _⟩ := h; rfl) (fun cdv A outer s0 H vs Q E hr h => ?_)
  obtain ⟨z, n, rfl, hn, q⟩ := h
  have nd := scDg.nd
  have hu := hr.units
  have hu1 := hu_of hr
  have bP2 : L2.Binds K fdP2 ["_law_place"] [] := FunD.bindsN FP2 fun _ _ _ _ _ _ us hl => match us, hl with | [_], _ => rfl
  suffices z : ∃ tt, PSs (cxOf CX0 P w K mg base nDg "_law_digit" (defScope (top 70)) f cdv A outer s0 H E).nox (defBody (top 70)) tt ∧ tt { nx := fun _ H' => Q .non H', rt := Q } (start nDg [.int z, .int n]) H by
    obtain ⟨tt, h1, h2⟩ := z
    exact ⟨tt, h1.nox, h2⟩
  refine ⟨_, pss_one (ps_ret (pe_op op_mod (pe_callTy call_int1 (by rfl) TX.int (by decide +kernel) (pa_cons (pe_op op_fdivW (pv 0) (pe_call GP2 (hr.mono (by decide)) (by rfl) gP2 FP2.kp bP2 .nil pass0 (pa_cons (pv 1) pa_nil))) pa_nil)) pe_int)), ?_⟩
  clear bP2
  have e : (2 : Int) ^ n = ((2 ^ n : Nat) : Int) := by rw [Int.natCast_pow]; rfl
  have pos : 0 < 2 ^ n := Nat.pow_pos (by decide)
  refine ⟨_, rfl, _, rfl, n, rfl, hn, _, _, rfl, rfl, wide_div (b := n + 1) (by rw [e]; omega) ?_ (by omega) (by omega), .inl ⟨_, rfl, _, _, rfl, rfl, (by show (0 : Int) < 2; decide), ?_⟩⟩
  · rw [e, Int.natAbs_natCast]
    exact Nat.pow_lt_pow_right (by decide) (by omega)
  · rw [e]
    exact q
/-- how many digits of base 2 -/
def bitsN (z : Nat) : Nat := Builtin.Int.intBits (z : Int)
theorem bitsN_lt (z k : Nat) : k < bitsN z ↔ 2 ^ k ≤ z := by
  unfold bitsN Builtin.Int.intBits
  by_cases h : z = 0
  · subst h
    have p : 0 < 2 ^ k := Nat.pow_pos (by decide)
    rw [if_pos (by decide)]
    omega
  · rw [if_neg (fun e => h (by have := eq_of_beq e; omega)), Int.natAbs_natCast]
    have := Nat.log2_lt (k := k) h
    omega
def spDs : Sp := fun vs H Q _ => ∃ z : Nat, vs = [.int z] ∧ z < 2 ^ 60 ∧ Q (.int (bitsN z : Nat)) H
abbrev nDs : List Str := ["_law_number", "_law_found", "_law_place"]
theorem scDs : FnScope nDs ["_law_number"] (defScope (top 72)) := ⟨rfl, rfl, rfl, by decide +kernel, rfl, by decide +kernel, by decide +kernel⟩
theorem ok_Ds (F : FnT K "_law_digits" 72 f fd) (TX : Txt mg)
    (FP2 : FnT K "_law_power_two" 71 fP2 fdP2) (gP2 : mg "_law_power_two" = some (.ref fP2)) (GP2 : FnOk P w K mg base CX0 1 fP2 fdP2 ["_law_place"] spP2) : FnOk P w K mg base CX0 2 f fd ["_law_number"] spDs := by
  refine F.ok scDs (fun vs H Q E h => by obtain ⟨z, rfl, _⟩ := h; rfl) (fun cdv A outer s0 H vs Q E hr h => ?_)
  obtain ⟨z, rfl, hz, q⟩ := h
  have nd := scDs.nd
  have hu := hr.units
  have hu1 := hu_of hr
  have bP2 : L2.Binds K fdP2 ["_law_place"] [] := FunD.bindsN FP2 fun _ _ _ _ _ _ us hl => match us, hl with | [_], _ => rfl
  suffices z : ∃ tt, PSs (cxOf CX0 P w K mg base nDs "_law_digits" (defScope (top 72)) f cdv A outer s0 H E).nox (defBody (top 72)) tt ∧ tt { nx := fun _ H' => Q .non H', rt := Q } (start nDs [.int z]) H by
    obtain ⟨tt, h1, h2⟩ := z
    exact ⟨tt, h1.nox, h2⟩
  refine ⟨_, pss_cons (ps_asg pe_int (pg_name (i := 1) nd rfl (.inl rfl)))
    (C8.pss_cut (ps_for PassesOwn.never rfl (pi_range1 (by rfl) TX.range (pa_cons pe_int pa_nil)) (pg_name (i := 2) nd rfl (.inl rfl))
    (pss_cons (ps_if (pt_cmpR op_lt (pv 0) (pe_call GP2 (hr.mono (by decide)) (by rfl) gP2 FP2.kp bP2 .nil pass0 (pa_cons (pv 2) pa_nil)) (nomark _)) (pss_one ps_break) pss_nil)
    (pss_one (ps_asg (pe_op op_add (pv 2) pe_int) (pg_name (i := 1) nd rfl (.inl rfl))))))
    (pss_one (ps_ret (pv 1)))), ?_⟩
  clear bP2
  have few : bitsN z ≤ 60 := by
    have h : ¬ 60 < bitsN z := fun h => by
      have := (bitsN_lt z 60).mp h
      omega
    omega
  refine ⟨fun σ H' => (∃ o2, σ = [some (.int z), some (.int (bitsN z : Nat)), o2]) ∧ H = H', ?_, ?_⟩
  · refine ⟨200, rfl, by decide, by decide, ?_⟩
    refine for_it (walk_range (lo := 0) (n := 200)) (fun i σ H' => (∃ o2, σ = [some (.int z), some (.int (i : Nat)), o2]) ∧ H = H' ∧ i ≤ bitsN z) ⟨⟨none, rfl⟩, rfl, Nat.zero_le _⟩ (fun _ _ _ _ _ => trivial) ?_ ?_
    · rintro i y σ H3 H2 hi ⟨⟨o2, rfl⟩, rfl, le⟩ ⟨rfl, rfl⟩
      refine ⟨_, rfl, _, rfl, i, congrArg (fun j : Int => [V.int j]) (Int.zero_add _), by omega, _, _, rfl, rfl, decide ((z : Int) < 2 ^ i), rfl, ?_⟩
      have e : (2 : Int) ^ i = ((2 ^ i : Nat) : Int) := by rw [Int.natCast_pow]; rfl
      by_cases h : z < 2 ^ i
      · rw [decide_eq_true (by rw [e]; omega)]
        have h2 : ¬ i < bitsN z := fun x => by
          have := (bitsN_lt z i).mp x
          omega
        have e2 : i = bitsN z := by omega
        refine iteT ⟨⟨some (.int (0 + (i : Nat))), ?_⟩, rfl⟩
        rw [← e2]
        rfl
      · rw [decide_eq_false (by rw [e]; omega)]
        have h2 := (bitsN_lt z i).mpr (by omega)
        refine iteF ⟨_, rfl, _, _, rfl, rfl, ⟨some (.int (0 + (i : Nat))), ?_⟩, rfl, by omega⟩
        exact congrArg (fun j : Int => [some (V.int z), some (V.int j), some (V.int (0 + (i : Nat)))]) (by omega : (0 : Int) + (i : Nat) + 1 = ((i + 1 : Nat) : Int))
    · rintro σ H2 ⟨⟨o2, rfl⟩, rfl, le⟩
      omega
  · rintro σ H2 ⟨⟨o2, rfl⟩, rfl⟩
    exact ⟨_, rfl, q⟩
end
end K23

set_option Elab.async false
set_option linter.all false
set_option maxRecDepth 100000
set_option maxHeartbeats 4000000
namespace K23
open PySem PySem.Spec PyProof.Rows L2 Pen Tr AK LamX RL
theorem nap_ {Hx : Hp} {p pl q : Addr} {m : Nat} (PA : PenAt Hx p pl m) (h : Hx q = none) : q ≠ p ∧ q ≠ pl := by
  obtain ⟨kvs, hp⟩ := PA.is
  obtain ⟨cl, hpl⟩ := PA.lis
  exact ⟨Ne.symm (ne_of_none hp h), Ne.symm (ne_of_none hpl h)⟩
theorem none_back {H H' : Hp} {p d : Addr} (b : But p H H') (n : d ≠ p) (h : H' d = none) : H d = none := by
  cases e : H d with
  | none => rfl
  | some o => exact absurd (b _ _ e n) (by rw [h]; exact fun z => nomatch z)
def loopW : List Str := ["inc", "add", "add", "copy", "paint", "dec", "clear"]
theorem ordG_mono {nr nc no no' : Nat} {o : List V} (h : OrdG nr nc no o) (l : no ≤ no') : OrdG nr nc no' o := by
  obtain ⟨w, k, as, h1, h2, h3, h4⟩ := h
  exact ⟨w, k, as, h1, h2, h3, fun i c a hc ha => ⟨(h4 i c a hc ha).1, (h4 i c a hc ha).2.1, fun z => Nat.le_trans ((h4 i c a hc ha).2.2 z) l⟩⟩
theorem paired_app {α β : Type} {F : α → β → Prop} : ∀ {l1 : List α} {l2 : List β} {m1 : List α} {m2 : List β}, Paired F l1 l2 → Paired F m1 m2 → Paired F (l1 ++ m1) (l2 ++ m2)
  | _, _, _, _, .nil, h => h
  | _, _, _, _, .cons a b, h => .cons a (paired_app b h)
theorem loop_args {wd : Str} (h : wd ∈ loopW) (np : wd ≠ "paint") (one two : Nat) : wd ∈ wordsO ∧ argsW wd one two 0 0 = if (["add", "copy"] : List Str).contains wd = true then [one, two] else [one] := by
  simp only [loopW, List.mem_cons, List.not_mem_nil, or_false] at h
  rcases h with rfl | rfl | rfl | rfl | rfl | rfl | rfl
  · exact ⟨by decide +kernel, by kernel_rfl⟩
  · exact ⟨by decide +kernel, by kernel_rfl⟩
  · exact ⟨by decide +kernel, by kernel_rfl⟩
  · exact ⟨by decide +kernel, by kernel_rfl⟩
  · exact absurd rfl np
  · exact ⟨by decide +kernel, by kernel_rfl⟩
  · exact ⟨by decide +kernel, by kernel_rfl⟩
section
variable {P : Program} {w : World} {K : PySem.W.Frag} {mg : Str → Option PySem.Value} {base : Heap} {f fD fP fNas : Addr} {fd fdD fdP fdNas : FuncData} {H H' : Hp}
def spLp (K : PySem.W.Frag) : Sp := fun vs H Q _ => ∃ p pl n, vs = [.ref p] ∧ PenAt H p pl n ∧ n ≤ 700000 ∧ PgQ K H p pl n Q
abbrev nLp : List Str := ["_law_pen_here", "_law_registers", "_law_colours", "_law_inner", "_law_many", "_law_lap", "_law_word", "_law_one", "_law_two", "_law_end", "_law_orders"]
theorem scLp : FnScope nLp ["_law_pen_here"] (defScope (top 63)) := ⟨rfl, rfl, rfl, by decide +kernel, rfl, by decide +kernel, by decide +kernel⟩
theorem ok_Lp (F : FnT K "_law_loop" 63 f fd) (TX : Txt mg)
    (FNas : FnT K "_law_names" 61 fNas fdNas) (gNas : mg "_law_names" = some (.ref fNas)) (GNas : FnOk P w K mg base CX0 4 fNas fdNas ["_law_pen_here", "_law_many"] (spNas K))
    (FD : FnT K "_law_draw" 58 fD fdD) (gD : mg "_law_draw" = some (.ref fD)) (GD : FnOk P w K mg base CX0 1 fD fdD ["_law_pen_here", "_law_many"] spDraw)
    (FP : FnT K "_law_pick" 59 fP fdP) (gP : mg "_law_pick" = some (.ref fP)) (GP : FnOk P w K mg base CX0 2 fP fdP ["_law_pen_here", "_law_some"] (spPick K)) : FnOk P w K mg base CX0 5 f fd ["_law_pen_here"] (spLp K) := by
  refine F.ok scLp (fun vs H Q E h => by obtain ⟨p, pl, n, rfl, _⟩ := h; rfl) (fun cdv A outer s0 H vs Q E hr h => ?_)
  obtain ⟨p, pl, n, rfl, PA, hn, q⟩ := h
  have nd := scLp.nd
  have hu := hr.units
  have hu1 := hu_of hr
  have bNas : L2.Binds K fdNas ["_law_pen_here", "_law_many"] [] := FunD.bindsN FNas fun _ _ _ _ _ _ us hl => match us, hl with | [_, _], _ => rfl
  have bD : L2.Binds K fdD ["_law_pen_here", "_law_many"] [] := FunD.bindsN FD fun _ _ _ _ _ _ us hl => match us, hl with | [_, _], _ => rfl
  have bP : L2.Binds K fdP ["_law_pen_here", "_law_some"] [] := FunD.bindsN FP fun _ _ _ _ _ _ us hl => match us, hl with | [_, _], _ => rfl
  suffices z : ∃ tt, PSs (cxOf CX0 P w K mg base nLp "_law_loop" (defScope (top 63)) f cdv A outer s0 H E).nox (defBody (top 63)) tt ∧ tt { nx := fun _ H' => Q .non H', rt := Q } (start nLp [.ref p]) H by
    obtain ⟨tt, h1, h2⟩ := z
    exact ⟨tt, h1.nox, h2⟩
  refine ⟨_, pss_cons (ps_par (i := 1) (j := 2) (by rfl) nd rfl rfl (by decide) rfl rfl (pa_cons (pe_call GNas (hr.mono (by decide)) (by rfl) gNas FNas.kp bNas .nil pass0 (pa_cons (pv 0) (pa_cons (pe_op op_add pe_int (pe_call GD (hr.mono (by decide)) (by rfl) gD FD.kp bD .nil pass0 (pa_cons (pv 0) (pa_cons pe_int pa_nil)))) pa_nil))) (pa_cons (pe_call GNas (hr.mono (by decide)) (by rfl) gNas FNas.kp bNas .nil pass0 (pa_cons (pv 0) (pa_cons (pe_op op_add pe_int (pe_call GD (hr.mono (by decide)) (by rfl) gD FD.kp bD .nil pass0 (pa_cons (pv 0) (pa_cons pe_int pa_nil)))) pa_nil))) pa_nil)) (by rfl))
    (pss_cons (ps_par (i := 3) (j := 4) (by rfl) nd rfl rfl (by decide) rfl rfl (pa_cons (pe_lst pa_nil) (pa_cons (pe_op op_add pe_int (pe_call GD (hr.mono (by decide)) (by rfl) gD FD.kp bD .nil pass0 (pa_cons (pv 0) (pa_cons pe_int pa_nil)))) pa_nil)) (by rfl))
    (C8.pss_cut (ps_for PassesOwn.never rfl (pi_range1 (by rfl) TX.range (pa_cons (pv 4) pa_nil)) (pg_name (i := 5) nd rfl (.inl rfl))
    (pss_cons (ps_asg (pe_call GP (hr.mono (by decide)) (by rfl) gP FP.kp bP .nil pass0 (pa_cons (pv 0) (pa_cons (pe_lst (pa_cons pe_str (pa_cons pe_str (pa_cons pe_str (pa_cons pe_str (pa_cons pe_str (pa_cons pe_str (pa_cons pe_str pa_nil)))))))) pa_nil))) (pg_name (i := 6) nd rfl (.inl rfl)))
    (pss_cons (ps_asg (pe_callB (cr_max rfl) (by rfl) TX.max (by decide +kernel) (pa_cons (pe_lst (pa_cons (pe_call GD (hr.mono (by decide)) (by rfl) gD FD.kp bD .nil pass0 (pa_cons (pv 0) (pa_cons (pe_callB call_len_seq (by rfl) TX.len PySem.boot_len (pa_cons (pv 1) pa_nil)) pa_nil))) (pa_cons (pe_callB (cr_min rfl) (by rfl) TX.min (by decide +kernel) (pa_cons (pe_lst (pa_cons pe_int (pa_cons (pe_op op_sub (pe_callB call_len_seq (by rfl) TX.len PySem.boot_len (pa_cons (pv 1) pa_nil)) pe_int) pa_nil))) pa_nil)) pa_nil))) pa_nil)) (pg_name (i := 7) nd rfl (.inl rfl)))
    (pss_cons (ps_asg (pe_call GD (hr.mono (by decide)) (by rfl) gD FD.kp bD .nil pass0 (pa_cons (pv 0) (pa_cons (pe_callB call_len_seq (by rfl) TX.len PySem.boot_len (pa_cons (pv 1) pa_nil)) pa_nil))) (pg_name (i := 8) nd rfl (.inl rfl)))
    (pss_one (ps_if (PW.pt (pw_or (pt_cmpR op_eq (pe_callB call_len_seq (by rfl) TX.len PySem.boot_len (pa_cons (pv 1) pa_nil)) pe_int (nomark _)) (pw_or1 (pt_cmpR op_eq (pv 6) pe_str (nomark _))))) (pss_one (ps_expr (pe_bm PySem.F.plainAttrs_list PySem.F.slot_list_append PySem.F.type_list_append mt_append (pv 3) (pa_cons (pe_tup (pa_cons pe_str (pa_cons (pe_call GD (hr.mono (by decide)) (by rfl) gD FD.kp bD .nil pass0 (pa_cons (pv 0) (pa_cons (pe_callB call_len_seq (by rfl) TX.len PySem.boot_len (pa_cons (pv 2) pa_nil)) pa_nil))) pa_nil))) pa_nil)))) (pss_one (ps_expr (pe_bm PySem.F.plainAttrs_list PySem.F.slot_list_append PySem.F.type_list_append mt_append (pv 3) (pa_cons (pe_ifExp (pt_cmpR op_in_seq (pv 6) (pe_lst (pa_cons pe_str (pa_cons pe_str pa_nil))) (by rfl)) (pe_tup (pa_cons (pv 6) (pa_cons (pv 7) (pa_cons (pv 8) pa_nil)))) (pe_tup (pa_cons (pv 6) (pa_cons (pv 7) pa_nil)))) pa_nil))))))))))
    (pss_cons (ps_asg (pe_op op_add (pv 4) pe_int) (pg_name (i := 9) nd rfl (.inl rfl)))
    (pss_cons (ps_asg (pe_op op_cat (pe_op op_cat (pe_lst (pa_cons (pe_tup (pa_cons pe_str (pa_cons pe_int (pa_cons (pv 9) pa_nil)))) pa_nil)) (pv 3)) (pe_lst (pa_cons (pe_tup (pa_cons pe_str (pa_cons pe_int pa_nil))) (pa_cons (pe_tup (pa_cons pe_str (pa_cons pe_int pa_nil))) pa_nil)))) (pg_name (i := 10) nd rfl (.inl rfl)))
    (pss_one (ps_ret (pe_disp (pps_cons pe_str (pv 1) (pps_cons pe_str (pv 2) (pps_cons pe_str (pe_op op_cat (pv 10) (pe_op op_rep (pe_lst (pa_cons (pe_tup (pa_cons pe_str (pa_cons pe_int pa_nil))) pa_nil)) (pe_call GD (hr.mono (by decide)) (by rfl) gD FD.kp bD .nil pass0 (pa_cons (pv 0) (pa_cons pe_int pa_nil))))) pps_nil))) rfl rfl (by intro z; cases z) (by decide)))))))), ?_⟩
  clear bNas bD bP
  refine ⟨_, rfl, _, rfl, p, pl, n, 3, rfl, PA, by omega, by decide, by decide, fun r H1 r0 r1 PA1 b1 => ?_⟩
  obtain ⟨i, rfl⟩ : ∃ i : Nat, r = (i : Int) := ⟨r.toNat, by omega⟩
  refine ⟨1, _, rfl, rfl, p, pl, n + 1, 1 + i, congrArg (fun j : Int => [V.ref p, V.int j]) (by omega), PA1, by omega, by omega, fun ar H2 rs hrl rok PA2 b2 nar har => ?_⟩
  refine ⟨_, rfl, _, rfl, p, pl, _, 3, rfl, PA2, by omega, by decide, by decide, fun r H3 r0' r1' PA3 b3 => ?_⟩
  obtain ⟨i2, rfl⟩ : ∃ i : Nat, r = (i : Int) := ⟨r.toNat, by omega⟩
  refine ⟨1, _, rfl, rfl, p, pl, _, 1 + i2, congrArg (fun j : Int => [V.ref p, V.int j]) (by omega), PA3, by omega, by omega, fun ac H4 cs hcl cok PA4 b4 nac hac => ?_⟩
  refine ⟨_, _, rfl, ?_⟩
  refine ⟨(by show 0 ≤ sizeLine; exact Nat.zero_le _), fun ao nao => ?_⟩
  change H4 ao = none at nao
  obtain ⟨arp, arpl⟩ := nap_ PA1 nar
  obtain ⟨acp, acpl⟩ := nap_ PA3 nac
  obtain ⟨aop, aopl⟩ := nap_ PA4 nao
  have har4 := b4 _ _ (b3 _ _ har arp) arp
  have aoar : ao ≠ ar := Ne.symm (ne_of_none har4 nao)
  have aoac : ao ≠ ac := Ne.symm (ne_of_none hac nao)
  have b04 : But p H H4 := But.trans b1 (But.trans b2 (But.trans b3 b4))
  have naoH : ∀ b o, H b = some o → b ≠ p → b ≠ ao := fun b o e n => ne_of_none (b04 _ _ e n) nao
  have s5 := same_upd (o := .lst ([] : List V)) nao
  have hao5 := upd_same (H := H4) (a := ao) (o := .lst ([] : List V))
  have PA5 := PA4.keep s5
  have har5 := s5 _ _ har4
  have hac5 := s5 _ _ hac
  have b05 := But.trans b04 (But.same s5)
  generalize upd H4 ao (.lst ([] : List V)) = H5 at hao5 b05 PA5 har5 hac5 ⊢
  refine ⟨_, rfl, p, pl, _, 3, rfl, PA5, by omega, by decide, by decide, fun r H6 r0'' r1'' PA6 b6 => ?_⟩
  obtain ⟨i3, rfl⟩ : ∃ i : Nat, r = (i : Int) := ⟨r.toNat, by omega⟩
  refine ⟨1, _, rfl, rfl, _, _, rfl, ?_⟩
  have em : (1 : Int) + (i3 : Nat) = ((1 + i3 : Nat) : Int) := by omega
  have m3 : 1 + i3 ≤ 3 := by omega
  show C8.tCut _ _ _ [_, _, _, _, some (V.int ((1 : Int) + (i3 : Nat))), _, _, _, _, _, _] _
  rw [em]
  generalize 1 + i3 = many at m3
  have har6 := b6 _ _ har5 arp
  have hac6 := b6 _ _ hac5 acp
  have hao6 := b6 _ _ hao5 aop
  have b06 := But.trans b05 b6
  clear em b1 b2 b3 b4 b6 b04 b05 PA1 PA2 PA3 PA4 PA5 har hac har4 har5 hac5 hao5 nar nac nao s5 H1 H2 H3 H4 H5 r0'' r1''
  have PA6 := PA6.mono (show _ ≤ n + 200 by omega)
  refine ⟨fun σ H' => (∃ o5 o6 o7 o8, σ = [some (.ref p), some (.ref ar), some (.ref ac), some (.ref ao), some (.int many), o5, o6, o7, o8, none, none]) ∧ PenAt H' p pl (n + 300) ∧ (∀ b o, H6 b = some o → b ≠ p → b ≠ ao → H' b = some o) ∧
      ∃ zs ords, H' ao = some (.lst zs) ∧ OrdsV K H' ords zs ∧ ords.length = many ∧ ∀ o ∈ ords, OrdG rs.length cs.length 0 o, ?_, ?_⟩
  · refine ⟨_, rfl, many, rfl, by omega, by omega, ?_⟩
    refine for_it (walk_range (lo := 0) (n := many)) (fun j σ H' => (∃ o5 o6 o7 o8, σ = [some (.ref p), some (.ref ar), some (.ref ac), some (.ref ao), some (.int many), o5, o6, o7, o8, none, none]) ∧ PenAt H' p pl (n + 200 + 20 * j) ∧ (∀ b o, H6 b = some o → b ≠ p → b ≠ ao → H' b = some o) ∧
        ∃ zs ords, H' ao = some (.lst zs) ∧ OrdsV K H' ords zs ∧ ords.length = j ∧ ∀ o ∈ ords, OrdG rs.length cs.length 0 o)
      ⟨⟨none, none, none, none, rfl⟩, PA6, fun b o e _ _ => e, [], [], hao6, .nil, rfl, fun _ h => absurd h List.not_mem_nil⟩ (fun _ _ _ _ _ => trivial) ?_ ?_
    · rintro j y σ H8 H7 hj ⟨⟨o5, o6, o7, o8, rfl⟩, PA7, b67, zs, ords, hao7, hos, ol, og⟩ ⟨rfl, rfl⟩
      have zl : zs.length = ords.length := (Paired.length hos).symm
      have har7 := b67 _ _ har6 arp (Ne.symm aoar)
      have hac7 := b67 _ _ hac6 acp (Ne.symm aoac)
      have rl1 : (rs.map V.str).length = rs.length := List.length_map _
      have cl1 : (cs.map V.str).length = cs.length := List.length_map _
      refine ⟨_, rfl, (by show 7 ≤ sizeLine; decide), fun l nl => ?_⟩
      have s8 := same_upd (o := .lst [.str "inc", .str "add", .str "add", .str "copy", .str "paint", .str "dec", .str "clear"]) nl
      refine ⟨p, pl, l, _, _, rfl, PA7.keep s8, by omega, SqL.of upd_same, (fun z => nomatch z), (by show 7 < 1073741824; decide), (nap_ PA7 nl).1, fun iw v H9 hv PA9 b9 => ?_⟩
      obtain ⟨wd, hwd, rfl⟩ := RM.pick_str (ns := loopW) hv
      have b9 : But p H7 H9 := but_of_same s8 b9
      clear s8 nl hv
      refine ⟨_, rfl, _, rfl, ar, _, rfl, .inl (SqL.of (b9 _ _ har7 arp)), p, pl, _, _, rfl, PA9, by omega, by rw [rl1]; omega, by rw [rl1]; omega, fun r H10 r0 r1 PA10 b10 => ?_⟩
      rw [rl1] at r1
      obtain ⟨o1, rfl⟩ : ∃ i : Nat, r = (i : Int) := ⟨r.toNat, by omega⟩
      have b10 := But.trans b9 b10
      refine ⟨_, rfl, ar, _, rfl, .inl (SqL.of (b10 _ _ har7 arp)), _, 1, rfl, rfl, (by show 2 ≤ sizeLine; decide), fun la nla => ?_⟩
      have s11 := same_upd (o := .lst [.int 1, .int (((rs.map V.str).length : Nat) - 1)]) nla
      refine ⟨la, [1, ((rs.map V.str).length : Nat) - 1], rfl, SqL.of upd_same, (by show 0 < 2; decide), fun mi hmi hle => ⟨(by show 2 ≤ sizeLine; decide), fun lb nlb => ?_⟩⟩
      have s12 := same_upd (o := .lst [.int o1, .int mi]) nlb
      refine ⟨lb, [(o1 : Nat), mi], rfl, SqL.of upd_same, (by show 0 < 2; decide), fun mx hmx hge => ?_⟩
      have mi1 : mi ≤ ((rs.length : Nat) : Int) - 1 ∧ mi ≤ 1 ∧ 0 ≤ mi := by
        have h1 := hle _ (List.mem_cons_self ..)
        have h2 := hle _ (List.mem_cons_of_mem _ (List.mem_cons_self ..))
        simp only [List.mem_cons, List.not_mem_nil, or_false] at hmi
        rw [rl1] at h2 hmi
        omega
      obtain ⟨one, rfl, h1⟩ : ∃ k : Nat, mx = (k : Int) ∧ k < rs.length := by
        simp only [List.mem_cons, List.not_mem_nil, or_false] at hmx
        exact ⟨mx.toNat, by omega, by omega⟩
      have s13 := same_trans s11 s12
      have b13 := But.trans b10 (But.same s13)
      have PA13 := PA10.keep s13
      generalize upd (upd H10 la (.lst [.int 1, .int (((rs.map V.str).length : Nat) - 1)])) lb (.lst [.int o1, .int mi]) = H13 at s13 b13 PA13 ⊢
      clear s11 s12 nla nlb hmx hmi hle hge
      refine ⟨_, rfl, _, rfl, ar, _, rfl, .inl (SqL.of (b13 _ _ har7 arp)), p, pl, _, _, rfl, PA13, by omega, by rw [rl1]; omega, by rw [rl1]; omega, fun r H14 r0 r1' PA14 b14 => ?_⟩
      rw [rl1] at r1'
      obtain ⟨two, rfl⟩ : ∃ i : Nat, r = (i : Int) := ⟨r.toNat, by omega⟩
      have h2 : two < rs.length := by omega
      have b14 := But.trans b13 b14
      have fin : ∀ (o : List V) (po : Addr) (H15 : Hp), But p H7 H15 → PenAt H15 p pl (n + 200 + 20 * j + 10) → SqT K H15 po o → OrdG rs.length cs.length 0 o → H15 ao = some (.lst zs) →
          PenAt (upd H15 ao (.lst (zs ++ [.ref po]))) p pl (n + 200 + 20 * (j + 1)) ∧ (∀ b o, H6 b = some o → b ≠ p → b ≠ ao → upd H15 ao (.lst (zs ++ [.ref po])) b = some o) ∧
          ∃ zs' ords', upd H15 ao (.lst (zs ++ [.ref po])) ao = some (.lst zs') ∧ OrdsV K (upd H15 ao (.lst (zs ++ [.ref po]))) ords' zs' ∧ ords'.length = j + 1 ∧ ∀ o ∈ ords', OrdG rs.length cs.length 0 o := by
        intro o po H15 b15 PA15 hpo go hao15
        have tu := Tups.upd (o := .lst (zs ++ [.ref po])) (lst_ntup hao15)
        refine ⟨(PA15.other aop aopl).mono (by omega), fun b o e n1 n2 => ?_, zs ++ [.ref po], ords ++ [o], upd_same, ?_, ?_, fun x hx => ?_⟩
        · rw [upd_ne n2]
          exact b15 _ _ (b67 _ _ e n1 n2) n1
        · exact Paired.snoc (OrdsV.tups hos (Tups.trans (pen_tups PA7 b15) tu)) ⟨po, rfl, SqT.tups tu hpo⟩
        · rw [List.length_append, ol]
          rfl
        · rcases List.mem_append.mp hx with hx | hx
          · exact og x hx
          · rw [List.mem_singleton.mp hx]
            exact go
      have pc : 0 < cs.length := by omega
      have hao14 := b14 _ _ hao7 aop
      refine ⟨_, rfl, ar, _, rfl, .inl (SqL.of (b14 _ _ har7 arp)), rfl, decide (V.int (((rs.map V.str).length : Nat) : Int) = V.int 1), rfl, ?_⟩
      by_cases q1 : rs.length = 1
      · rw [decide_eq_true (by rw [rl1, q1]; rfl)]
        refine iteT (iteT ⟨_, rfl, .inl ⟨rfl, _, SqL.of hao14⟩, _, rfl, _, rfl, ac, _, rfl, .inl (SqL.of (b14 _ _ hac7 acp)), p, pl, _, _, rfl, PA14, by omega, by rw [cl1]; omega, by rw [cl1]; omega, fun r H15 r0 r1 PA15 b15 => ?_⟩)
        obtain ⟨cc, rfl⟩ : ∃ i : Nat, r = (i : Int) := ⟨r.toNat, by omega⟩
        have hc : cc < cs.length := by rw [cl1] at r1; omega
        have hao15 := b15 _ _ hao14 aop
        refine ⟨(by show 2 ≤ sizeLine; decide), fun po npo => ⟨ao, zs, .ref po, rfl, rfl, same_upd npo _ _ hao15, by rw [sizeLine_eq]; omega, ?_⟩⟩
        have go := args_ok (w := "paint") (by decide +kernel) h1 h2 (Nat.zero_le 0) hc
        rw [show argsW "paint" one two 0 cc = [cc] by kernel_rfl] at go
        exact ⟨⟨_, _, _, _, rfl⟩, fin _ po _ (But.trans b14 (But.trans b15 (But.same (same_upd npo)))) ((PA15.keep (same_upd npo)).mono (by omega)) (SqT.of upd_same) go (same_upd npo _ _ hao15)⟩
      · rw [decide_eq_false (by rw [rl1]; intro z; injection z; omega)]
        refine iteF ⟨_, rfl, rfl, decide (V.str wd = V.str "paint"), rfl, ?_⟩
        by_cases q2 : wd = "paint"
        · rw [decide_eq_true (congrArg V.str q2)]
          refine iteT ⟨_, rfl, .inl ⟨rfl, _, SqL.of hao14⟩, _, rfl, _, rfl, ac, _, rfl, .inl (SqL.of (b14 _ _ hac7 acp)), p, pl, _, _, rfl, PA14, by omega, by rw [cl1]; omega, by rw [cl1]; omega, fun r H15 r0 r1 PA15 b15 => ?_⟩
          obtain ⟨cc, rfl⟩ : ∃ i : Nat, r = (i : Int) := ⟨r.toNat, by omega⟩
          have hc : cc < cs.length := by rw [cl1] at r1; omega
          have hao15 := b15 _ _ hao14 aop
          refine ⟨(by show 2 ≤ sizeLine; decide), fun po npo => ⟨ao, zs, .ref po, rfl, rfl, same_upd npo _ _ hao15, by rw [sizeLine_eq]; omega, ?_⟩⟩
          have go := args_ok (w := "paint") (by decide +kernel) h1 h2 (Nat.zero_le 0) hc
          rw [show argsW "paint" one two 0 cc = [cc] by kernel_rfl] at go
          exact ⟨⟨_, _, _, _, rfl⟩, fin _ po _ (But.trans b14 (But.trans b15 (But.same (same_upd npo)))) ((PA15.keep (same_upd npo)).mono (by omega)) (SqT.of upd_same) go (same_upd npo _ _ hao15)⟩
        · rw [decide_eq_false (fun z => q2 (by injection z))]
          obtain ⟨hw, ha⟩ := loop_args hwd q2 one two
          have go := args_ok hw h1 h2 (Nat.zero_le 0) pc
          rw [ha] at go
          refine iteF ⟨_, rfl, .inl ⟨rfl, _, SqL.of hao14⟩, _, rfl, (by show 2 ≤ sizeLine; decide), fun l nl => ⟨l, [.str "add", .str "copy"], rfl, .inl (SqL.of upd_same), rfl, rfl, _, rfl, ?_⟩⟩
          have s15 := same_upd (o := .lst [.str "add", .str "copy"]) nl
          have hao15 := s15 _ _ hao14
          have PA15 := PA14.keep s15
          have b15 := But.trans b14 (But.same s15)
          generalize upd H14 l (.lst [.str "add", .str "copy"]) = H15 at hao15 PA15 b15 ⊢
          rw [if_neg Bool.false_ne_true, show [V.str "add", V.str "copy"] = (["add", "copy"] : List Str).map V.str from rfl, inV_str]
          cases q3 : (["add", "copy"] : List Str).contains wd with
          | true =>
            rw [q3, if_pos rfl] at go
            refine iteT ⟨_, rfl, _, rfl, _, rfl, (by show 3 ≤ sizeLine; decide), fun po npo => ⟨ao, zs, .ref po, rfl, rfl, same_upd npo _ _ hao15, by rw [sizeLine_eq]; omega, ?_⟩⟩
            exact ⟨⟨_, _, _, _, rfl⟩, fin _ po _ (But.trans b15 (But.same (same_upd npo))) ((PA15.keep (same_upd npo)).mono (by omega)) (SqT.of upd_same) go (same_upd npo _ _ hao15)⟩
          | false =>
            rw [q3, if_neg Bool.false_ne_true] at go
            refine iteF ⟨_, rfl, _, rfl, (by show 2 ≤ sizeLine; decide), fun po npo => ⟨ao, zs, .ref po, rfl, rfl, same_upd npo _ _ hao15, by rw [sizeLine_eq]; omega, ?_⟩⟩
            exact ⟨⟨_, _, _, _, rfl⟩, fin _ po _ (But.trans b15 (But.same (same_upd npo))) ((PA15.keep (same_upd npo)).mono (by omega)) (SqT.of upd_same) go (same_upd npo _ _ hao15)⟩
    · rintro σ H7 ⟨hσ, PA7, b67, h⟩
      exact ⟨hσ, PA7.mono (by omega), b67, h⟩
  · rintro σ H7 ⟨⟨o5, o6, o7, o8, rfl⟩, PA7, b67, zs, ords, hao7, hos, ol, og⟩
    have zl : zs.length = ords.length := (Paired.length hos).symm
    have har7 := b67 _ _ har6 arp (Ne.symm aoar)
    have hac7 := b67 _ _ hac6 acp (Ne.symm aoac)
    have b07 : But p H H7 := fun b o e n => b67 _ _ (b06 _ _ e n) n (naoH _ _ e n)
    refine ⟨_, rfl, _, 3, rfl, rfl, ?_⟩
    refine ⟨_, rfl, (by show 3 ≤ sizeLine; decide), fun t1 nt1 => ⟨(by show 1 ≤ sizeLine; decide), fun l1 nl1 => ⟨_, rfl, ?_⟩⟩⟩
    have s8 := same_upd (o := .tup [.str "ifzero", .int 0, .int ((many : Nat) + 3)]) nt1
    have ht1 : SqT K (upd H7 t1 (.tup [.str "ifzero", .int 0, .int ((many : Nat) + 3)])) t1 [.str "ifzero", .int 0, .int ((many : Nat) + 3)] := SqT.of upd_same
    have s9 := same_upd (o := .lst [.ref t1]) nl1
    replace ht1 := SqT.tups (same_tups s9) ht1
    have s79 := same_trans s8 s9
    have hl1 := upd_same (H := upd H7 t1 (.tup [.str "ifzero", .int 0, .int ((many : Nat) + 3)])) (a := l1) (o := .lst [.ref t1])
    generalize upd (upd H7 t1 (.tup [.str "ifzero", .int 0, .int ((many : Nat) + 3)])) l1 (.lst [.ref t1]) = H9 at ht1 s79 hl1 ⊢
    refine ⟨l1, ao, _, _, rfl, rfl, hl1, s79 _ _ hao7, by rw [sizeLine_eq]; show 1 + _ ≤ _; omega, fun c1 nc1 => ?_⟩
    have s10 := same_upd (o := .lst ([.ref t1] ++ zs)) nc1
    have hc1 := upd_same (H := H9) (a := c1) (o := .lst ([.ref t1] ++ zs))
    replace ht1 := SqT.tups (same_tups s10) ht1
    have s710 := same_trans s79 s10
    generalize upd H9 c1 (.lst ([.ref t1] ++ zs)) = H10 at ht1 s710 hc1 ⊢
    refine ⟨(by show 2 ≤ sizeLine; decide), fun t2 nt2 => ⟨(by show 2 ≤ sizeLine; decide), fun t3 nt3 => ⟨(by show 2 ≤ sizeLine; decide), fun l2 nl2 => ?_⟩⟩⟩
    have s11 := same_upd (o := .tup [.str "dec", .int 0]) nt2
    have s12 := same_upd (o := .tup [.str "jump", .int 0]) nt3
    have s13 := same_upd (o := .lst [.ref t2, .ref t3]) nl2
    have ht2 : SqT K (upd H10 t2 (.tup [.str "dec", .int 0])) t2 [.str "dec", .int 0] := SqT.of upd_same
    have ht3 : SqT K (upd (upd H10 t2 (.tup [.str "dec", .int 0])) t3 (.tup [.str "jump", .int 0])) t3 [.str "jump", .int 0] := SqT.of upd_same
    replace ht2 := SqT.tups (same_tups s13) (SqT.tups (same_tups s12) ht2)
    replace ht3 := SqT.tups (same_tups s13) ht3
    have s1013 := same_trans s11 (same_trans s12 s13)
    have hl2 := upd_same (H := upd (upd H10 t2 (.tup [.str "dec", .int 0])) t3 (.tup [.str "jump", .int 0])) (a := l2) (o := .lst [.ref t2, .ref t3])
    generalize upd (upd (upd H10 t2 (.tup [.str "dec", .int 0])) t3 (.tup [.str "jump", .int 0])) l2 (.lst [.ref t2, .ref t3]) = H13 at ht2 ht3 s1013 hl2 ⊢
    refine ⟨c1, l2, _, _, rfl, rfl, s1013 _ _ hc1, hl2, by rw [sizeLine_eq, List.length_append]; show 1 + _ + 2 ≤ _; omega, fun c2 nc2 => ?_⟩
    have s14 := same_upd (o := .lst (([.ref t1] ++ zs) ++ [.ref t2, .ref t3])) nc2
    have hc2 := upd_same (H := H13) (a := c2) (o := .lst (([.ref t1] ++ zs) ++ [.ref t2, .ref t3]))
    have s714 := same_trans s710 (same_trans s1013 s14)
    replace ht1 := SqT.tups (same_tups (same_trans s1013 s14)) ht1
    replace ht2 := SqT.tups (same_tups s14) ht2
    replace ht3 := SqT.tups (same_tups s14) ht3
    generalize upd H13 c2 (.lst (([.ref t1] ++ zs) ++ [.ref t2, .ref t3])) = H14 at ht1 ht2 ht3 s714 hc2 ⊢
    clear s8 s9 s79 s10 s710 s11 s12 s13 s1013 s14 hl1 hc1 hl2 nt1 nl1 nc1 nt2 nt3 nl2 nc2
    -- the dict
    intro d nd0
    have PA14 := PA7.keep s714
    obtain ⟨dp, dpl⟩ := nap_ PA14 nd0
    have ndH : H d = none := none_back (But.trans b07 (But.same s714)) dp nd0
    have nd14 : ∀ b o, H14 b = some o → b ≠ d := fun b o e => ne_of_none e nd0
    have s15 := same_upd (o := .dK []) nd0
    have hd15 := upd_same (H := H14) (a := d) (o := .dK [])
    have PA15 := PA14.keep s15
    generalize upd H14 d (.dK []) = H15 at s15 hd15 PA15 ⊢
    refine ⟨_, rfl, _, rfl, _, rfl, (by show 2 ≤ sizeLine; decide), fun t4 nt4 => ⟨(by show 1 ≤ sizeLine; decide), fun l4 nl4 => ?_⟩⟩
    have s16 := same_upd (o := .tup [.str "inc", .int 0]) nt4
    have s17 := same_upd (o := .lst [.ref t4]) nl4
    have ht4 : SqT K (upd H15 t4 (.tup [.str "inc", .int 0])) t4 [.str "inc", .int 0] := SqT.of upd_same
    replace ht4 := SqT.tups (same_tups s17) ht4
    have hl4 := upd_same (H := upd H15 t4 (.tup [.str "inc", .int 0])) (a := l4) (o := .lst [.ref t4])
    have s1517 := same_trans s16 s17
    generalize upd (upd H15 t4 (.tup [.str "inc", .int 0])) l4 (.lst [.ref t4]) = H17 at ht4 hl4 s1517 ⊢
    have PA17 := PA15.keep s1517
    refine ⟨_, rfl, p, pl, _, 2, rfl, PA17, by omega, by decide, by decide, fun r H18 r0 r1 PA18 b18 => ?_⟩
    obtain ⟨cc, rfl⟩ : ∃ i : Nat, r = (i : Int) := ⟨r.toNat, by omega⟩
    have cc2 : cc < 2 := by omega
    have neL : ∀ q ys, H17 q = some (.lst ys) → q ≠ p := fun q ys e => by
      obtain ⟨kvs, hp⟩ := PA17.is
      exact ne_of e hp fun z => nomatch z
    have t18 := pen_tups PA17 b18
    refine ⟨l4, _, _, rfl, rfl, b18 _ _ hl4 (neL _ _ hl4), by omega, by omega, ?_, fun l5 nl5 => ?_⟩
    · rw [sizeLine_eq]
      show 1 * _ ≤ _
      omega
    rw [RU.rep_flat, show ((cc : Nat) : Int).toNat = cc from rfl]
    have s19 := same_upd (o := .lst (List.replicate cc (V.ref t4))) nl5
    have hl5 := upd_same (H := H18) (a := l5) (o := .lst (List.replicate cc (V.ref t4)))
    have hc217 := s1517 _ _ (s15 _ _ hc2)
    refine ⟨c2, l5, _, _, rfl, rfl, s19 _ _ (b18 _ _ hc217 (neL _ _ hc217)), hl5, ?_, fun c3 nc3 => ?_⟩
    · rw [List.length_append, List.length_append, List.length_replicate, sizeLine_eq]
      show 1 + _ + 2 + _ ≤ _
      omega
    have s20 := same_upd (o := .lst (([.ref t1] ++ zs ++ [.ref t2, .ref t3]) ++ List.replicate cc (V.ref t4))) nc3
    have hc3 := upd_same (H := upd H18 l5 (.lst (List.replicate cc (V.ref t4)))) (a := c3) (o := .lst (([.ref t1] ++ zs ++ [.ref t2, .ref t3]) ++ List.replicate cc (V.ref t4)))
    have s1820 := same_trans s19 s20
    generalize upd (upd H18 l5 (.lst (List.replicate cc (V.ref t4)))) c3 (.lst (([.ref t1] ++ zs ++ [.ref t2, .ref t3]) ++ List.replicate cc (V.ref t4))) = H20 at s1820 hc3 ⊢
    have hd20 := s1820 _ _ (b18 _ _ (s1517 _ _ hd15) dp)
    refine ⟨hd20, drK ar ac c3, rfl, (by show 3 ≤ 15; decide), ?_⟩
    rw [show mergeK [] (drK ar ac c3) = drK ar ac c3 by kernel_rfl]
    have b720 : But p H7 H20 := fun b o e n => s1820 _ _ (b18 _ _ (s1517 _ _ (s15 _ _ (s714 _ _ e))) n)
    have bb : ∀ b o, H7 b = some o → b ≠ p → upd H20 d (.dK (drK ar ac c3)) b = some o := fun b o e n => by
      rw [upd_ne (nd14 _ _ (s714 _ _ e))]
      exact b720 _ _ e n
    have tu : Tups H20 (upd H20 d (.dK (drK ar ac c3))) := Tups.upd (dk0_ntup hd20)
    have t1720 : Tups H17 (upd H20 d (.dK (drK ar ac c3))) := Tups.trans t18 (Tups.trans (same_tups s1820) tu)
    have t1420 := Tups.trans (same_tups (same_trans s15 s1517)) t1720
    have nrs : 0 < rs.length := by omega
    have ncs : 0 < cs.length := by omega
    have c3d : c3 ≠ d := ne_of hc3 hd20 fun z => nomatch z
    have tot : (([[V.str "ifzero", V.int 0, V.int ((many : Nat) + 3)]] ++ ords ++ [[V.str "dec", V.int 0], [V.str "jump", V.int 0]]) ++ List.replicate cc [V.str "inc", V.int 0]).length = 1 + many + 2 + cc := by
      rw [List.length_append, List.length_append, List.length_append, List.length_replicate, ol]
      rfl
    have no : ∀ o ∈ ([[V.str "ifzero", V.int 0, V.int ((many : Nat) + 3)]] ++ ords ++ [[V.str "dec", V.int 0], [V.str "jump", V.int 0]]) ++ List.replicate cc [V.str "inc", V.int 0], OrdG rs.length cs.length (1 + many + 2 + cc) o := by
      intro o ho
      rcases List.mem_append.mp ho with ho | ho
      · rcases List.mem_append.mp ho with ho | ho
        · rcases List.mem_append.mp ho with ho | ho
          · rw [List.mem_singleton.mp ho]
            have g := args_ok (w := "ifzero") (one := 0) (two := 0) (place := many + 3) (c := 0) (no := 1 + many + 2 + cc) (by decide +kernel) nrs nrs (by omega) ncs
            rw [show argsW "ifzero" 0 0 (many + 3) 0 = [0, many + 3] by kernel_rfl] at g
            exact g
          · exact ordG_mono (og o ho) (Nat.zero_le _)
        · rcases List.mem_cons.mp ho with rfl | ho
          · have g := args_ok (w := "dec") (one := 0) (two := 0) (place := 0) (c := 0) (no := 1 + many + 2 + cc) (by decide +kernel) nrs nrs (Nat.zero_le _) ncs
            rw [show argsW "dec" 0 0 0 0 = [0] by kernel_rfl] at g
            exact g
          · rw [List.mem_singleton.mp ho]
            have g := args_ok (w := "jump") (one := 0) (two := 0) (place := 0) (c := 0) (no := 1 + many + 2 + cc) (by decide +kernel) nrs nrs (Nat.zero_le _) ncs
            rw [show argsW "jump" 0 0 0 0 = [0] by kernel_rfl] at g
            exact g
      · rw [List.eq_of_mem_replicate ho]
        have g := args_ok (w := "inc") (one := 0) (two := 0) (place := 0) (c := 0) (no := 1 + many + 2 + cc) (by decide +kernel) nrs nrs (Nat.zero_le _) ncs
        rw [show argsW "inc" 0 0 0 0 = [0] by kernel_rfl] at g
        exact g
    refine q d ⟨rs, cs, _⟩ _ ⟨rok, cok, by show 1 ≤ rs.length; omega, by show rs.length ≤ 3; omega, by show 1 ≤ cs.length; omega, by show cs.length ≤ 3; omega, by show (_ : List (List V)).length ≤ 10; rw [tot]; omega, fun o ho => by show OrdG rs.length cs.length (_ : List (List V)).length o; rw [tot]; exact no o ho⟩
      ⟨ar, ac, c3, _, upd_same, bb _ _ har7 arp, bb _ _ hac7 acp, by rw [upd_ne c3d]; exact hc3, ?_⟩ (((PA18.keep s1820).other dp dpl).mono (by omega)) (fun b o e n => bb _ _ (b07 _ _ e n) n) ndH
    refine paired_app (paired_app (paired_app (.cons ⟨t1, rfl, SqT.tups t1420 ht1⟩ .nil) (hos.tups (Tups.trans (same_tups s714) t1420))) (.cons ⟨t2, rfl, SqT.tups t1420 ht2⟩ (.cons ⟨t3, rfl, SqT.tups t1420 ht3⟩ .nil))) ?_
    match cc, cc2 with
    | 0, _ => exact .nil
    | 1, _ => exact .cons ⟨t4, rfl, SqT.tups t1720 ht4⟩ .nil
end
end K23

set_option Elab.async false
set_option linter.all false
set_option maxRecDepth 100000
set_option maxHeartbeats 4000000
namespace K23
open PySem PySem.Spec PyProof.Rows L2 Pen Tr AK LamX RL RU
def digN (z n : Nat) : Nat := z / 2 ^ n % 2
def cellD (ns : List Nat) (i : Nat) : List Int := ns.map fun z => ((digN z i : Nat) : Int)
def rowM (ns : List Nat) (cols : List Str) : List (List Int × Str) := (List.range cols.length).map fun i => (cellD ns i, cols.getD i "")
def RowV (K : PySem.W.Frag) (H : Hp) (cs : List (List Int × Str)) (xs : List V) : Prop := Paired (fun (c : List Int × Str) (v : V) => ∃ r r2, v = .ref r ∧ SqT K H r [.ref r2, .str c.2] ∧ SqT K H r2 (c.1.map V.int)) cs xs
theorem RowV.tups {K : PySem.W.Frag} {H H' : Hp} {cs : List (List Int × Str)} {xs : List V} (h : RowV K H cs xs) (t : Tups H H') : RowV K H' cs xs := Paired.mapP h fun _ _ ⟨r, r2, e, h1, h2⟩ => ⟨r, r2, e, SqT.tups t h1, SqT.tups t h2⟩
def RowT (K : PySem.W.Frag) (H : Hp) (p : Addr) (cs : List (List Int × Str)) : Prop := ∃ xs, SqT K H p xs ∧ RowV K H cs xs
section
variable {P : Program} {w : World} {K : PySem.W.Frag} {mg : Str → Option PySem.Value} {base : Heap} {f fDg : Addr} {fd fdDg : FuncData} {H H' : Hp}
def spRo (K : PySem.W.Frag) : Sp := fun vs H Q _ => ∃ b l, ∃ ns : List Nat, ∃ cols : List Str, vs = [.ref b, .ref l] ∧ SqT K H b (ns.map fun z : Nat => V.int (z : Nat)) ∧ SqL K H l (cols.map V.str) ∧ ns.length ≤ 3 ∧ cols.length ≤ 300 ∧ ∀ p H', Same H H' → RowT K H' p (rowM ns cols) → Q (.ref p) H'
abbrev nRo : List Str := ["_law_values", "_law_colours", "_law_at", "_law_colour", "_law_value"]
theorem scRo : FnScope nRo ["_law_values", "_law_colours"] (defScope (top 73)) := ⟨rfl, rfl, rfl, by decide +kernel, rfl, by decide +kernel, by decide +kernel⟩
theorem ok_Ro (F : FnT K "_law_row" 73 f fd) (TX : Txt mg)
    (FDg : FnT K "_law_digit" 70 fDg fdDg) (gDg : mg "_law_digit" = some (.ref fDg)) (GDg : FnOk P w K mg base CX0 2 fDg fdDg ["_law_number", "_law_place"] spDg) : FnOk P w K mg base CX0 3 f fd ["_law_values", "_law_colours"] (spRo K) := by
  refine F.ok scRo (fun vs H Q E h => by obtain ⟨b, l, ns, cols, rfl, _⟩ := h; rfl) (fun cdv A outer s0 H vs Q E hr h => ?_)
  obtain ⟨b, l, ns, cols, rfl, hb, hl, n3, c3, q⟩ := h
  have nd := scRo.nd
  have hu := hr.units
  have hu1 := hu_of hr
  have bDg : L2.Binds K fdDg ["_law_number", "_law_place"] [] := FunD.bindsN FDg fun _ _ _ _ _ _ us hl => match us, hl with | [_, _], _ => rfl
  suffices z : ∃ tt, PSs (cxOf CX0 P w K mg base nRo "_law_row" (defScope (top 73)) f cdv A outer s0 H E).nox (defBody (top 73)) tt ∧ tt { nx := fun _ H' => Q .non H', rt := Q } (start nRo [.ref b, .ref l]) H by
    obtain ⟨tt, h1, h2⟩ := z
    exact ⟨tt, h1.nox, h2⟩
  refine ⟨_, pss_one (ps_ret (pe_callTy call_tupR (by rfl) TX.tuple (by decide +kernel) (pa_cons (pe_lc (own := [("_law_at", 2), ("_law_colour", 3)]) (g := gTup K 2 (gCons (gName 2) (gCons (gName 3) gNil))) (tt := tYes) (te := (tTup (tCons (tCB (rTupOf K) (tCons (tLc (iTup K (tVar 0)) (gName 4) tYes (tCall spDg [] E0 (tCons (tVar 4) (tCons (tVar 2) tNil))) [4]) tNil)) (tCons (tVar 3) tNil)))) (by rfl) nd (pi_enum (by rfl) TX.enum (pa_cons (pv 1) pa_nil)) (blkOk_by (own := [("_law_at", 2), ("_law_colour", 3)]) (N := nRo) (sc := defScope (top 73)) (by decide +kernel)) (fun _ _ _ _ _ => (pg_tup (by rfl) (pgs_cons (pg_name (i := 2) nd rfl (.inr rfl)) (pgs_cons (pg_name (i := 3) nd rfl (.inl rfl)) pgs_nil)))) (fun _ _ _ _ _ => pts_nil) (fun _ _ _ _ _ => (pe_tup (pa_cons (pe_callTy call_tupR (by rfl) TX.tuple (by decide +kernel) (pa_cons (pe_lc (own := [("_law_value", 4)]) (g := gName 4) (tt := tYes) (te := (tCall (spDg) [] E0 (tCons (tVar 4) (tCons (tVar 2) tNil)))) (by rfl) nd (pi_tup (pv 0)) (blkOk_by (own := [("_law_value", 4)]) (by kernel_rfl)) (fun _ _ _ _ _ => (pg_name (i := 4) nd rfl (.inl rfl))) (fun _ _ _ _ _ => pts_nil) (fun _ _ _ _ _ => (pe_call GDg (hr.mono (by decide)) (by rfl) gDg FDg.kp bDg .nil pass0 (pa_cons (pv 4) (pa_cons (pv 2) pa_nil))))) pa_nil)) (pa_cons (pv 3) pa_nil))))) pa_nil))), ?_⟩
  clear bDg
  refine ⟨_, rfl, l, _, rfl, hl, fun D nD => ?_⟩
  change H D = none at nD
  have cl : (cols.map V.str).length = cols.length := List.length_map _
  refine lc_it (walk_enum (K := K) (a := l) (xs := cols.map V.str)) (fun i H' => Same H H' ∧ ∃ xs, H' D = some (.lst xs) ∧ RowV K H' ((rowM ns cols).take i) xs ∧ xs.length = i) ⟨same_upd nD, [], upd_same, .nil, rfl⟩ (fun i H' _ p => Kp.sql (Kp.same p.1) hl) ?_ ?_
  · rintro i x H3 H2 hi ⟨s2, xs, hD, rv, xl⟩ y
    obtain ⟨T, u, v, rfl, nT, rfl, e1, e2⟩ := y
    obtain rfl := Option.some.inj e1
    rw [cl] at hi
    have ev : v = .str (cols.getD i "") := by
      have e2 : (cols.map V.str)[i]? = some v := e2
      rw [List.getElem?_map, List.getElem?_eq_getElem hi] at e2
      rw [List.getD_eq_getElem?_getD, List.getElem?_eq_getElem hi]
      exact (Option.some.inj e2).symm
    subst ev
    have s3 := same_upd (o := .tup [.int (i : Nat), .str (cols.getD i "")]) nT
    refine ⟨T, _, rfl, SqT.of upd_same, rfl, _, _, rfl, _, _, rfl, rfl, rfl, yes_if ?_⟩
    have hb3 := SqT.tups (same_tups (same_trans s2 s3)) hb
    refine ⟨_, rfl, b, rfl, ⟨_, hb3⟩, fun D2 nD2 => ?_⟩
    generalize upd _ T (.tup [.int (i : Nat), .str (cols.getD i "")]) = H4 at s3 hb3 nD2 ⊢
    change H4 D2 = none at nD2
    have hD4 := s3 _ _ hD
    have ne2 : D ≠ D2 := ne_of_none hD4 nD2
    refine lc_it (walk_tup (K := K) (a := b) (xs := ns.map fun z : Nat => V.int (z : Nat))) (fun j H' => Same H4 H' ∧ H' D2 = some (.lst (((cellD ns i).take j).map V.int))) ⟨same_upd nD2, upd_same⟩ (fun j H' _ p => SqT.tups (same_tups p.1) hb3) ?_ ?_
    · rintro j x H6 H5 hj ⟨s5, hd5⟩ ⟨rfl, hx⟩
      rw [List.length_map] at hj
      rw [List.getElem?_map, List.getElem?_eq_getElem hj] at hx
      obtain rfl := Option.some.inj hx
      refine ⟨rfl, yes_if ⟨_, rfl, _, rfl, _, i, rfl, by omega, _, hd5, ?_, fun b o e => ?_, ?_⟩⟩
      · rw [List.length_map, List.length_take, sizeLine_eq]
        omega
      · rw [upd_ne (ne_of_none e nD2)]
        exact s5 _ _ e
      · have ec : (cellD ns i)[j]? = some ((digN ns[j] i : Nat) : Int) := by
          unfold cellD
          rw [List.getElem?_map, List.getElem?_eq_getElem hj]
          rfl
        rw [upd_same, List.take_add_one, ec, List.map_append]
        rfl
    · rintro H5 ⟨s5, hd5⟩
      have lc : (cellD ns i).length = ns.length := List.length_map _
      rw [List.length_map, ← lc, List.take_length] at hd5
      refine ⟨D2, _, rfl, .inl (SqL.of hd5), fun r2 H6 s6 h6 => ⟨_, rfl, (by show 2 ≤ sizeLine; decide), fun r nr => ?_⟩⟩
      have s7 := same_upd (o := .tup [.ref r2, .str (cols.getD i "")]) nr
      have s47 := same_trans s5 (same_trans s6 s7)
      have hD7 := s47 _ _ hD4
      have tu := Tups.upd (o := .lst (xs ++ [.ref r])) (lst_ntup hD7)
      refine ⟨xs, hD7, by rw [xl, sizeLine_eq]; omega, fun b o e => ?_, xs ++ [.ref r], upd_same, ?_, by rw [List.length_append, xl]; rfl⟩
      · rw [upd_ne (ne_of_none e nD)]
        exact s47 _ _ (s3 _ _ (s2 _ _ e))
      · have er : (rowM ns cols)[i]? = some (cellD ns i, cols.getD i "") := by
          unfold rowM
          rw [List.getElem?_map, List.getElem?_range hi]
          rfl
        rw [List.take_add_one, er]
        exact paired_app ((rv.tups (same_tups (same_trans s3 s47))).tups tu) (.cons ⟨r, r2, rfl, SqT.tups tu (SqT.of upd_same), SqT.tups tu (SqT.tups (same_tups s7) h6)⟩ .nil)
  · rintro H2 ⟨s2, xs, hD, rv, xl⟩
    refine ⟨D, _, rfl, .inl (SqL.of hD), fun p H3 s3 hp => q p H3 (same_trans s2 s3) ⟨xs, hp, ?_⟩⟩
    have rl : (rowM ns cols).length = cols.length := by
      unfold rowM
      rw [List.length_map, List.length_range]
    rw [cl, ← rl, List.take_length] at rv
    exact rv.tups (same_tups s3)
end
end K23

set_option Elab.async false
set_option linter.all false
set_option maxRecDepth 100000
set_option maxHeartbeats 4000000
namespace K23
open PySem PySem.Spec PyProof.Rows L2 Pen Tr AK LamX RL RU
/-- the number that a row tells at a place -/
def totN (k : Nat) : List (List Int × Str) → Nat → Int
  | [], _ => 0
  | c :: r, i => (if c.1[k]? = some 1 then 2 ^ i else 0) + totN k r (i + 1)
section
variable {P : Program} {w : World} {K : PySem.W.Frag} {mg : Str → Option PySem.Value} {base : Heap} {f fP2 : Addr} {fd fdP2 : FuncData} {H H' : Hp}
def spTt (K : PySem.W.Frag) : Sp := fun vs H Q _ => ∃ p cs, ∃ k : Nat, vs = [.ref p, .int k] ∧ RowT K H p cs ∧ cs.length ≤ 300 ∧ (∀ c ∈ cs, k < c.1.length) ∧ ∀ H', Same H H' → Q (.int (totN k cs 0)) H'
abbrev nTt : List Str := ["_law_row_here", "_law_place", "_law_at", "_law_letter"]
theorem scTt : FnScope nTt ["_law_row_here", "_law_place"] (defScope (top 75)) := ⟨rfl, rfl, rfl, by decide +kernel, rfl, by decide +kernel, by decide +kernel⟩
theorem ok_Tt (F : FnT K "_law_total" 75 f fd) (TX : Txt mg)
    (FP2 : FnT K "_law_power_two" 71 fP2 fdP2) (gP2 : mg "_law_power_two" = some (.ref fP2)) (GP2 : FnOk P w K mg base CX0 1 fP2 fdP2 ["_law_place"] spP2) : FnOk P w K mg base CX0 2 f fd ["_law_row_here", "_law_place"] (spTt K) := by
  refine F.ok scTt (fun vs H Q E h => by obtain ⟨p, cs, k, rfl, _⟩ := h; rfl) (fun cdv A outer s0 H vs Q E hr h => ?_)
  obtain ⟨p, cs, k, rfl, row, few, wide, q⟩ := h
  have nd := scTt.nd
  have hu := hr.units
  have hu1 := hu_of hr
  have bP2 : L2.Binds K fdP2 ["_law_place"] [] := FunD.bindsN FP2 fun _ _ _ _ _ _ us hl => match us, hl with | [_], _ => rfl
  suffices z : ∃ tt, PSs (cxOf CX0 P w K mg base nTt "_law_total" (defScope (top 75)) f cdv A outer s0 H E).nox (defBody (top 75)) tt ∧ tt { nx := fun _ H' => Q .non H', rt := Q } (start nTt [.ref p, .int k]) H by
    obtain ⟨tt, h1, h2⟩ := z
    exact ⟨tt, h1.nox, h2⟩
  refine ⟨_, pss_one (ps_ret (pe_callB (cr_sum rfl) (by rfl) TX.sum (by decide +kernel) (pa_cons (pe_lc (own := [("_law_at", 2), ("_law_letter", 3)]) (g := gTup K 2 (gCons (gName 2) (gCons (gName 3) gNil))) (tt := tTest (tOp rEq (tOp (rIxT K) (tOp (rIxT K) (tVar 3) (tC (.int 0))) (tVar 1)) (tC (.int 1)))) (te := tCall spP2 [] E0 (tCons (tVar 2) tNil)) (by rfl) nd (pi_enumT (by rfl) TX.enum (pa_cons (pv 0) pa_nil)) (blkOk_by (own := [("_law_at", 2), ("_law_letter", 3)]) (N := nTt) (sc := defScope (top 75)) (by decide +kernel)) (fun _ _ _ _ _ => (pg_tup (by rfl) (pgs_cons (pg_name (i := 2) nd rfl (.inl rfl)) (pgs_cons (pg_name (i := 3) nd rfl (.inl rfl)) pgs_nil)))) (fun _ _ _ _ _ => pts_one (pt_cmpR op_eq (pe_ix ix_tup (pe_ix ix_tup (pv 3) pe_int (fun _ _ => rfl)) (pv 1) (fun _ _ => rfl)) pe_int (nomark _))) (fun _ _ _ _ _ => (pe_call GP2 (hr.mono (by decide)) (by rfl) gP2 FP2.kp bP2 .nil pass0 (pa_cons (pv 2) pa_nil)))) pa_nil))), ?_⟩
  obtain ⟨xs, hp, rv⟩ := row
  have xl := Paired.length rv
  refine ⟨_, rfl, p, xs, rfl, hp, fun D nD => ?_⟩
  change H D = none at nD
  refine lc_it (walk_enumT (K := K) (a := p) (xs := xs)) (fun i H' => Same H H' ∧ ∃ ms : List Int, H' D = some (.lst (ms.map V.int)) ∧ ms.length ≤ i ∧ ms.sum + totN k (cs.drop i) i = totN k cs 0) ⟨same_upd nD, [], upd_same, Nat.le_refl _, by simp⟩ (fun i H' _ p => SqT.tups (same_tups p.1) hp) ?_ ?_
  · rintro i x H3 H2 hi ⟨s2, ms, hD, ml, ss⟩ ⟨T, u, v, rfl, nT, rfl, e1, e2⟩
    obtain rfl := Option.some.inj e1
    obtain ⟨c, hc, r, r2, rfl, h1, h2⟩ := pairW rv (show xs[i]? = some v from e2)
    have ci : i < cs.length := by omega
    have ec : cs[i] = c := by
      rw [List.getElem?_eq_getElem ci] at hc
      exact Option.some.inj hc
    have kc := wide c (by rw [← ec]; exact List.getElem_mem ci)
    have ed : cs.drop i = c :: cs.drop (i + 1) := by rw [List.drop_eq_getElem_cons ci, ec]
    rw [ed] at ss
    have s3 := same_upd (o := .tup [.int (i : Nat), .ref r]) nT
    have s23 := same_trans s2 s3
    have hz : (c.1.map V.int)[k]? = some (.int c.1[k]) := by rw [List.getElem?_map, List.getElem?_eq_getElem kc]; rfl
    have hk : c.1[k]? = some c.1[k] := List.getElem?_eq_getElem kc
    generalize c.1[k] = z at hz hk
    refine ⟨T, _, rfl, SqT.of upd_same, rfl, _, _, rfl, _, _, rfl, rfl, rfl, ?_⟩
    refine ⟨_, rfl, r, _, 0, _, rfl, rfl, SqT.tups (same_tups s23) h1, rfl, _, rfl, r2, _, _, _, rfl, rfl, SqT.tups (same_tups s23) h2, atI_nat hz, rfl, _, rfl, ?_⟩
    have hD3 := s3 _ _ hD
    have ss2 : ms.sum + ((if c.1[k]? = some 1 then 2 ^ i else 0) + totN k (cs.drop (i + 1)) (i + 1)) = totN k cs 0 := ss
    rw [hk] at ss2
    by_cases e : z = 1
    · rw [e, decide_eq_true rfl]
      rw [if_pos (by rw [e])] at ss2
      refine iteT ⟨_, rfl, i, rfl, by omega, _, hD3, by rw [List.length_map, sizeLine_eq]; omega, fun b o eb => ?_, ms ++ [2 ^ i], ?_, by rw [List.length_append]; show _ + 1 ≤ _; omega, ?_⟩
      · rw [upd_ne (ne_of_none eb nD)]
        exact s23 _ _ eb
      · rw [upd_same, List.map_append]
        rfl
      · rw [List.sum_append, List.sum_cons, List.sum_nil]
        omega
    · rw [decide_eq_false fun y => e (by injection y)]
      rw [if_neg fun y => e (Option.some.inj y)] at ss2
      exact iteF ⟨s23, ms, hD3, by omega, by omega⟩
  · rintro H2 ⟨s2, ms, hD, ml, ss⟩
    rw [List.drop_of_length_le (by omega)] at ss
    have e : ms.sum = totN k cs 0 := by
      have z : totN k [] xs.length = 0 := rfl
      omega
    exact ⟨D, ms, rfl, SqL.of hD, by rw [e]; exact q H2 s2⟩
end
end K23

set_option Elab.async false
set_option linter.all false
set_option maxRecDepth 100000
set_option maxHeartbeats 4000000
namespace RN
open PySem PySem.Spec PyProof.Rows L2 HT
/-! ### slices of tuples with a step -/
section
variable {prog : Program} {w : World} {A : Around} {E : PySem.Value → Shared → Prop} {s : Shared}
theorem applied_step {sl : Addr} {vl vu vs : PySem.Value} {lo hi : Option Int} {c : Int} {n : Nat} {Q : Int × Int × Nat → Shared → Prop} (hs : s.heap.IsSliceOf sl vl vu vs) (pl : IsPart vl lo) (pu : IsPart vu hi) (ps : IsPart vs (some c)) (h0 : c ≠ 0)
    (h : Q ((Builtin.Slice.sliceAdjust lo hi c (n : Int)).1, c, Builtin.Slice.slicePlaces (Builtin.Slice.sliceAdjust lo hi c (n : Int)).1 (Builtin.Slice.sliceAdjust lo hi c (n : Int)).2 c) s) : wpAny (model prog w) A (Builtin.Slice.sliceApplied (.ref sl) (pure (n : Int))) Q E s := by
  obtain ⟨os, hos, hcs, hds⟩ := id hs
  unfold Builtin.Slice.sliceApplied Builtin.Slice.sliceFields
  refine wpAny_bind (wpAny_bind (wpAny_field hos hds (x := vl) rfl (wpAny_bind (wpAny_field hos hds (x := vu) rfl (wpAny_bind (wpAny_field hos hds (x := vs) rfl (wpAny_pure ?_)))))))
  refine wpAny_bind (slicePart_ ps ?_)
  show wpAny _ _ (if (c == 0) = true then _ else _) _ _ s
  rw [if_neg (fun z => h0 (eq_of_beq z))]
  refine wpAny_bind (slicePart_ pl (wpAny_bind (slicePart_ pu (wpAny_bind (wpAny_pure ?_)))))
  exact wpAny_pure h
/-- the items at a, a + c, .. -/
def idxS (lo hi : Option Int) (c : Int) (n : Nat) : List Nat := (List.range (Builtin.Slice.slicePlaces (Builtin.Slice.sliceAdjust lo hi c (n : Int)).1 (Builtin.Slice.sliceAdjust lo hi c (n : Int)).2 c)).map fun (m : Nat) => ((Builtin.Slice.sliceAdjust lo hi c (n : Int)).1 + (m : Int) * c).toNat
def stepV (xs : List V) (lo hi : Option Int) (c : Int) : List V := (idxS lo hi c xs.length).filterMap (xs[·]?)
theorem getItem_tuple_step {t sl : Addr} {items : Array PySem.Value} {vl vu vs : PySem.Value} {lo hi : Option Int} {c : Int} {Q : PySem.Value → Shared → Prop} (ht : IsTup s.heap t items) (hs : s.heap.IsSliceOf sl vl vu vs) (pl : IsPart vl lo) (pu : IsPart vu hi) (ps : IsPart vs (some c)) (h0 : c ≠ 0) (h1 : c ≠ 1)
    (h : Q (.ref s.heap.objs.size) { s with heap := s.heap.push { cls := .type "tuple", data := .seq ((idxS lo hi c items.size).filterMap (items[·]?)).toArray } })
    (hsz : sizeOk (.seq ((idxS lo hi c items.size).filterMap (items[·]?)).toArray)) : wpAny (model prog w) A (getItem (.ref t) (.ref sl)) Q E s := by
  obtain ⟨os, hos, hcs, hds⟩ := id hs
  have hTs : s.TypeIs (.ref sl) "slice" := ⟨os, hos, hcs⟩
  have ei : ((List.range (Builtin.Slice.slicePlaces (Builtin.Slice.sliceAdjust lo hi c (items.size : Int)).1 (Builtin.Slice.sliceAdjust lo hi c (items.size : Int)).2 c)).filterMap fun (m : Nat) => items[((Builtin.Slice.sliceAdjust lo hi c (items.size : Int)).1 + (m : Int) * c).toNat]?).toArray = ((idxS lo hi c items.size).filterMap (items[·]?)).toArray := by
    unfold idxS
    rw [List.filterMap_map]
    rfl
  unfold getItem
  try with_reducible refine wpAny_holding ?_
  first | refine wpAny_bind (wpAny_pure ?_) | skip
  refine wpAny_bind (wpAny_sequenceKey ht.typeIs (by decide) ?_)
  refine wpAny_bind (wpAny_callSpecial?_slot (name := Str.ofString "__getitem__") ht.typeIs PyProof.Rows.slot_tuple_getitem
    (wpAny_call_entry PyProof.Rows.slot_tuple_getitem ht.typeIs entry_tuple_getitem ?_ (args_tuple_getitem _ _)))
  show wpAny _ _ (Builtin.Tuple.tupleItemsOf (.ref t) >>= _) _ _ s
  refine wpAny_bind (tupleItemsOf_ ht ?_)
  refine wpAny_bind (wpAny_typeOf hTs ?_)
  rw [if_pos (by decide)]
  refine wpAny_bind (applied_step hs pl pu ps h0 ?_)
  have hno : ¬ ((((Builtin.Slice.sliceAdjust lo hi c (items.size : Int)).1 == 0 && c == 1 && Builtin.Slice.slicePlaces (Builtin.Slice.sliceAdjust lo hi c (items.size : Int)).1 (Builtin.Slice.sliceAdjust lo hi c (items.size : Int)).2 c == items.size) = true)) := by
    intro q
    rw [Bool.and_eq_true, Bool.and_eq_true] at q
    exact h1 (eq_of_beq q.1.2)
  show wpAny _ _ (if ((Builtin.Slice.sliceAdjust lo hi c (items.size : Int)).1 == 0 && c == 1 && Builtin.Slice.slicePlaces (Builtin.Slice.sliceAdjust lo hi c (items.size : Int)).1 (Builtin.Slice.sliceAdjust lo hi c (items.size : Int)).2 c == items.size) = true then _ else _) _ _ s
  rw [if_neg hno, ei]
  first
    | exact wpAny_bind (m := Builtin.Tuple.tupleExact _) (wpAny_newObj_type (wpAny_pure ⟨_, rfl, wpAny_pure h⟩) hsz)
    | exact wpAny_bind (m := Builtin.Tuple.tupleExact _) (wpAny_newObj_type (wpAny_bind (wpAny_pure (wpAny_pure ⟨_, rfl, wpAny_pure h⟩))) hsz)
    | exact wpAny_bind (wpAny_bind (m := Builtin.Tuple.tupleExact _) (wpAny_newObj_type (wpAny_pure (wpAny_pure ⟨_, rfl, wpAny_pure h⟩)) hsz))
    | exact wpAny_bind (wpAny_bind (m := Builtin.Tuple.tupleExact _) (wpAny_newObj_type (wpAny_pure ⟨_, rfl, wpAny_pure h⟩) hsz))
end
theorem vals_pick {xs : List V} {us : List PySem.Value} (r : Vals xs us) : ∀ idx : List Nat, Vals (idx.filterMap (xs[·]?)) (idx.filterMap (us[·]?))
  | [] => .nil
  | i :: idx => by
    have ih := vals_pick r idx
    have hl := r.length
    cases e : xs[i]? with
    | none =>
      have e2 : us[i]? = none := by
        rw [List.getElem?_eq_none_iff] at e ⊢
        omega
      rw [List.filterMap_cons, List.filterMap_cons, e, e2]
      exact ih
    | some x =>
      obtain ⟨u, e2, ru⟩ := r.get e
      rw [List.filterMap_cons, List.filterMap_cons, e, e2]
      exact .cons ru ih
theorem idxS_rev (n : Nat) : idxS none none (-1) n = (List.range n).map fun m => n - 1 - m := by
  unfold idxS Builtin.Slice.sliceAdjust Builtin.Slice.slicePlaces
  simp only [show ((-1 : Int) < 0) = True from by simp, if_true]
  have e : (if (-1 : Int) > 0 then (if (n : Int) - 1 < -1 then (-1 - ((n : Int) - 1) - 1) / (-1) + 1 else 0) else (if (n : Int) - 1 > -1 then ((n : Int) - 1 - -1 - 1) / (- -1) + 1 else 0)).toNat = n := by
    rw [if_neg (by decide)]
    by_cases h : (n : Int) - 1 > -1
    · rw [if_pos h, show -(-1 : Int) = 1 from rfl, Int.ediv_one]
      omega
    · rw [if_neg h]
      omega
  rw [e]
  refine List.map_congr_left fun m hm => ?_
  have := List.mem_range.mp hm
  omega
/-! ### a[lo:hi:step], by values -/
def rStT (K : PySem.W.Frag) (x : V) (l u c : Option Int) (H : Hp) (Q : VK) : Prop := ∃ a xs z, x = .ref a ∧ c = some z ∧ z ≠ 0 ∧ z ≠ 1 ∧ SqT K H a xs ∧ (stepV xs l u z).length ≤ sizeLine ∧ ∀ p, H p = none → Q (.ref p) (upd H p (.tup (stepV xs l u z)))
def tSt (r : V → Option Int → Option Int → Option Int → Hp → VK → Prop) (te : TE) (tl th ts : TO) : TE := fun σ H Q => te σ H fun x H1 => tl σ H1 fun l H2 => th σ H2 fun u H3 => ts σ H3 fun c H4 => r x l u c H4 Q
section
variable {X : Cx}
theorem pe_stepT {e : PySem.Expr} {lo hi st : Option PySem.Expr} {te : TE} {tl th ts : TO} {p2 pos : Pos} (he : PE X e te) (hl : PO X lo tl) (hu : PO X hi th) (hst : PO X st ts) (hsub : ∀ v u : PySem.Value, subscripted (.Slice lo hi st p2) false v u = operate [v, u] (getItem v u) := by intros; with_unfolding_all rfl) : PE X (.Subscript e (.Slice lo hi st p2) pos) (tSt (rStT X.K) te tl th ts) := by
  refine ⟨fun pins s σ H Q I h => ?_⟩
  refine Subscript_ (thn (he.run pins s σ H _ I h) fun v s1 ⟨x, H1, I1, r1, q1⟩ => ?_)
  refine wpAny_Slice (thn (hl.run pins s1 σ H1 _ I1 q1) fun vl s2 ⟨l, H2, I2, pl, q2⟩ => thn (hu.run pins s2 σ H2 _ I2 q2) fun vu s3 ⟨u, H3, I3, pu, q3⟩ => thn (hst.run pins s3 σ H3 _ I3 q3) fun vs s4 ⟨c, H4, I4, ps, q4⟩ => ?_)
  obtain ⟨a, xs, z, ex, ec, c0, c1, hx, hlen, q⟩ := q4
  subst ex ec
  cases r1
  have I5 : Inv X pins σ H4 { s4 with heap := s4.heap.push { cls := .type "slice", data := .fields #[vl, vu, vs] } } := I4.kept (t' := s4.toks) fun b ob q => Heap.get?_push_of_some _ q
  obtain ⟨its, r, ht, hz⟩ := I5.tuple hx
  have es : its.toArray.size = xs.length := by rw [List.size_toArray]; exact r.length.symm
  have vp := vals_pick r (idxS l u z xs.length)
  show wpAny (model X.prog X.w) X.A (subscriptTail e (.Slice lo hi st p2) (.ref a) (.ref s4.heap.objs.size)) (EP X pins σ Q) X.xe { s4 with heap := s4.heap.push { cls := .type "slice", data := .fields #[vl, vu, vs] } }
  refine tail_any (ops := [.ref a, .ref s4.heap.objs.size]) ht.typeIs (PyProof.Rows.slot_tuple_getitem.lookup) ?_ (hsub _ _)
  have ea : (fun i => its.toArray[i]?) = fun i => its[i]? := funext fun i => List.getElem?_toArray
  refine getItem_tuple_step ht (Heap.IsSliceOf.new _ vl vu vs) pl pu ps c0 c1 ?_ ?_
  · rw [es]
    show EP X pins σ Q _ { s4 with heap := Heap.push _ { cls := .type "tuple", data := .seq (List.filterMap (fun i => its.toArray[i]?) (idxS l u z xs.length)).toArray } }
    rw [ea]
    refine ⟨.ref _, _, I5.laid (t' := s4.toks) (o := .tup (stepV xs l u z)) (fun b ob q => Heap.get?_push_of_some _ q) (Nat.le_refl _) ?_, rfl, q _ (I5.hok.fresh (Nat.le_refl _))⟩
    exact ⟨hlen, _, vp, IsTup.new _ _⟩
  · show ((idxS l u z its.toArray.size).filterMap fun i => its.toArray[i]?).toArray.size ≤ sizeLine
    rw [es, ea, List.size_toArray, ← vp.length]
    exact hlen
end
theorem fm_congr {α β : Type} {f g : α → Option β} : ∀ {l : List α}, (∀ m ∈ l, f m = g m) → l.filterMap f = l.filterMap g
  | [], _ => rfl
  | a :: l, h => by
    rw [List.filterMap_cons, List.filterMap_cons, h a (List.mem_cons_self ..), fm_congr fun m hm => h m (List.mem_cons_of_mem _ hm)]
theorem stepV_rev (xs : List V) : stepV xs none none (-1) = xs.reverse := by
  unfold stepV
  rw [idxS_rev, List.filterMap_map]
  have e : (List.range xs.length).filterMap ((xs[·]?) ∘ fun m => xs.length - 1 - m) = (List.range xs.length).filterMap (xs.reverse[·]?) := by
    refine fm_congr fun m hm => ?_
    have := List.mem_range.mp hm
    rw [List.getElem?_reverse this]
    rfl
  rw [e]
  have z := PySem.W.krv_all xs.reverse.toArray
  simpa using z
/-! ### of lists, of either -/
def stepL (xs : List V) (lo hi : Option Int) (c : Int) : List V := (sliceRange (sliceBounds lo hi (some c) xs.length).1 (sliceBounds lo hi (some c) xs.length).2.1 (sliceBounds lo hi (some c) xs.length).2.2).filterMap (xs[·]?)
def rStL (K : PySem.W.Frag) (x : V) (l u c : Option Int) (H : Hp) (Q : VK) : Prop := ∃ a xs z, x = .ref a ∧ c = some z ∧ z ≠ 0 ∧ SqL K H a xs ∧ (stepL xs l u z).length ≤ sizeLine ∧ ∀ p, H p = none → Q (.ref p) (upd H p (.lst (stepL xs l u z)))
def rStA (K : PySem.W.Frag) (x : V) (l u c : Option Int) (H : Hp) (Q : VK) : Prop := rStT K x l u c H Q ∨ rStL K x l u c H Q
section
variable {X : Cx}
theorem pe_stepA {e : PySem.Expr} {lo hi st : Option PySem.Expr} {te : TE} {tl th ts : TO} {p2 pos : Pos} (he : PE X e te) (hl : PO X lo tl) (hu : PO X hi th) (hst : PO X st ts) (hsub : ∀ v u : PySem.Value, subscripted (.Slice lo hi st p2) false v u = operate [v, u] (getItem v u) := by intros; with_unfolding_all rfl) : PE X (.Subscript e (.Slice lo hi st p2) pos) (tSt (rStA X.K) te tl th ts) := by
  refine ⟨fun pins s σ H Q I h => ?_⟩
  refine Subscript_ (thn (he.run pins s σ H _ I h) fun v s1 ⟨x, H1, I1, r1, q1⟩ => ?_)
  refine wpAny_Slice (thn (hl.run pins s1 σ H1 _ I1 q1) fun vl s2 ⟨l, H2, I2, pl, q2⟩ => thn (hu.run pins s2 σ H2 _ I2 q2) fun vu s3 ⟨u, H3, I3, pu, q3⟩ => thn (hst.run pins s3 σ H3 _ I3 q3) fun vs s4 ⟨c, H4, I4, ps, q4⟩ => ?_)
  have I5 : Inv X pins σ H4 { s4 with heap := s4.heap.push { cls := .type "slice", data := .fields #[vl, vu, vs] } } := I4.kept (t' := s4.toks) fun b ob q => Heap.get?_push_of_some _ q
  rcases q4 with ⟨a, xs, z, ex, ec, c0, c1, hx, hlen, q⟩ | ⟨a, xs, z, ex, ec, c0, hx, hlen, q⟩
  · subst ex ec
    cases r1
    obtain ⟨its, r, ht, hz⟩ := I5.tuple hx
    have es : its.toArray.size = xs.length := by rw [List.size_toArray]; exact r.length.symm
    have vp := vals_pick r (idxS l u z xs.length)
    show wpAny (model X.prog X.w) X.A (subscriptTail e (.Slice lo hi st p2) (.ref a) (.ref s4.heap.objs.size)) (EP X pins σ Q) X.xe { s4 with heap := s4.heap.push { cls := .type "slice", data := .fields #[vl, vu, vs] } }
    refine tail_any (ops := [.ref a, .ref s4.heap.objs.size]) ht.typeIs (PyProof.Rows.slot_tuple_getitem.lookup) ?_ (hsub _ _)
    have ea : (fun i => its.toArray[i]?) = fun i => its[i]? := funext fun i => List.getElem?_toArray
    refine getItem_tuple_step ht (Heap.IsSliceOf.new _ vl vu vs) pl pu ps c0 c1 ?_ ?_
    · rw [es]
      show EP X pins σ Q _ { s4 with heap := Heap.push _ { cls := .type "tuple", data := .seq (List.filterMap (fun i => its.toArray[i]?) (idxS l u z xs.length)).toArray } }
      rw [ea]
      refine ⟨.ref _, _, I5.laid (t' := s4.toks) (o := .tup (stepV xs l u z)) (fun b ob q => Heap.get?_push_of_some _ q) (Nat.le_refl _) ?_, rfl, q _ (I5.hok.fresh (Nat.le_refl _))⟩
      exact ⟨hlen, _, vp, IsTup.new _ _⟩
    · show ((idxS l u z its.toArray.size).filterMap fun i => its.toArray[i]?).toArray.size ≤ sizeLine
      rw [es, ea, List.size_toArray, ← vp.length]
      exact hlen
  · subst ex ec
    cases r1
    obtain ⟨its, r, ht, hz⟩ := I5.list hx
    have es : its.toArray.size = xs.length := by rw [List.size_toArray]; exact r.length.symm
    have ln := r.length
    show wpAny (model X.prog X.w) X.A (subscriptTail e (.Slice lo hi st p2) (.ref a) (.ref s4.heap.objs.size)) (EP X pins σ Q) X.xe { s4 with heap := s4.heap.push { cls := .type "slice", data := .fields #[vl, vu, vs] } }
    refine tail_any (ops := [.ref a, .ref s4.heap.objs.size]) ht.isList.typeIs (PySem.slot_list_getitem.lookup) ?_ (hsub _ _)
    have ea : (fun i => its.toArray[i]?) = fun i => its[i]? := funext fun i => List.getElem?_toArray
    refine wpAny_getItem_list_slice ht.isList (Heap.IsSliceOf.new _ vl vu vs) pl pu ps (fun e => c0 (Option.some.inj e)) ?_ (by rw [List.size_toArray]; omega)
    have ep : slicePick its.toArray l u (some z) = ((sliceRange (sliceBounds l u (some z) xs.length).1 (sliceBounds l u (some z) xs.length).2.1 (sliceBounds l u (some z) xs.length).2.2).filterMap (its[·]?)).toArray := by
      unfold slicePick
      rw [es, ea]
    rw [ep]
    refine ⟨.ref _, _, I5.laid (t' := s4.toks) (o := .lst (stepL xs l u z)) (fun b ob q => Heap.get?_push_of_some _ q) (Nat.le_refl _) ?_, rfl, q _ (I5.hok.fresh (Nat.le_refl _))⟩
    exact ⟨hlen, _, 0, vals_pick r _, Heap.get?_push_size _ rfl⟩
end
end RN

set_option Elab.async false
set_option linter.all false
set_option maxRecDepth 100000
set_option maxHeartbeats 4000000
/-! zip of a list and a tuple -/
namespace RO
open PySem PySem.Spec PyProof.Rows L2
section
variable {prog : Program} {w : World} {A : Around} {E : PySem.Value → Shared → Prop} {s : Shared} {z TI TO i1 i2 l1 l2 : Addr} {k1 k2 : Nat} {xs ys : Array PySem.Value} {a b : PySem.Value}
/-- what one turn of zip gives: the two items, or the end -/
theorem turnLT {Q : Option PySem.Value → Shared → Prop} (hh : A.handled = none) (D : ZipApart z TI TO i1 i2 l1 l2) (hz : IsZip s.heap z TI TO .none) (hTI : IsPair s.heap TI (.ref i1) (.ref i2)) (hTO : IsPair s.heap TO a b) (h1 : s.heap.IsListIter i1 l1 k1) (h2 : s.heap.IsTupleIter i2 l2 k2) (q1 : s.heap.IsList l1 xs) (q2 : s.heap.IsTuple l2 ys)
    (hI : ∀ x y, xs[k1]? = some x → ys[k2]? = some y → ∀ h', IsZip h' z TI TO (rawInt s.heap.objs.size) → IsPair h' TO x y → h'.IsListIter i1 l1 (k1 + 1) → h'.IsTupleIter i2 l2 (k2 + 1) → IsPair h' s.heap.objs.size x y → (∀ c o, c ≠ z → c ≠ TO → c ≠ i1 → c ≠ i2 → s.heap.get? c = some o → h'.get? c = some o) → Q (some (.ref s.heap.objs.size)) { s with heap := h' })
    (hD : (xs[k1]? = none ∨ ys[k2]? = none) → ∀ h', (∀ c o, c ≠ z → c ≠ TO → c ≠ i1 → c ≠ i2 → s.heap.get? c = some o → h'.get? c = some o) → Q none { s with heap := h' }) : wpAny (model prog w) A (pyNext (.ref z)) Q E s := by
  have ty : s.TypeIs (.ref z) "zip" := ⟨_, hz, rfl⟩
  unfold pyNext; refine wpAny_bind (wpAny_attempt (wpAny_callSpecial?_slot (name := Str.ofString "__next__") ty F.slot_zip_next (wpAny_call_entry F.slot_zip_next ty F.entry_zip_next ?_ (F.args_zip_next_1 _))))
  have stop : ∀ h' e, (∀ c o, c ≠ z → c ≠ TO → c ≠ i1 → c ≠ i2 → s.heap.get? c = some o → h'.get? c = some o) → (∃ o, h'.get? e = some o ∧ o.cls = .type "StopIteration") → (xs[k1]? = none ∨ ys[k2]? = none) → wpAny (model prog w) A (do let r ← isInstance (.ref e) (.type "StopIteration"); if r then pure none else throw (.ref e)) Q E { s with heap := h' } := fun h' e hk he hn => by
    obtain ⟨o, ho, hc⟩ := he
    exact wpAny_bind (wpAny_isInstance (T := "StopIteration") (b := true) ⟨o, ho, hc⟩ isSubtype_stop (wpAny_pure (hD hn _ hk)))
  show wpAny _ _ (field (.ref z) 2 >>= _) _ _ _; refine wpAny_bind (wpAny_field hz rfl (x := .bool false) rfl ?_)
  show wpAny _ _ (field (.ref z) 3 >>= _) _ _ _; refine wpAny_bind (wpAny_field hz rfl (x := .ref TI) rfl (wpAny_bind (wpAny_seqItems hTI rfl ?_)))
  show wpAny _ _ (Builtin.SmallTypes.ownedTupleIsFree (.ref z) >>= _) _ _ _; refine wpAny_bind ?_; unfold Builtin.SmallTypes.ownedTupleIsFree
  refine wpAny_bind (wpAny_field hz rfl (x := .none) rfl (wpAny_pure ?_)); simp only [if_true]
  refine wpAny_bind (wpAny_rule (wpAny_bind (wpAny_field hz rfl (x := .ref TO) rfl (wpAny_bind (wpAny_setField_rec hz (by simp) fun g1 z1 s1 => ?_)))))
  replace z1 : IsZip g1 z TI TO .ellipsis := z1
  refine wpAny_bind ?_; simp only [List.zipIdx_cons, List.zipIdx_nil, List.forIn_cons, List.forIn_nil]; refine wpAny_bind (wpAny_bind (wpAny_onRaise ?_))
  show wpAny _ _ (Builtin.SmallTypes.nextOf (.ref i1) >>= _) _ _ _
  cases hx : xs[k1]? with
  | none =>
    refine wpAny_bind (wpAny_nextOf_list_end hh (h1.extBut s1.extBut D.i1z) (q1.extBut s1.extBut D.l1z) hx fun g2 e s2 he => ?_)
    obtain ⟨oe, hoe, hce⟩ := he
    have z2 : IsZip g2 z TI TO .ellipsis := s2 _ _ D.i1z.symm z1
    have ne : e ≠ z := fun x => by subst x; rw [z2] at hoe; cases hoe; simp at hce
    exact wpAny_setField_rec z2 (by simp) fun g3 _ s3 => stop g3 e (fun c o c1 _ c3 _ x => s3.extBut _ _ c1 (s2 _ _ c3 (s1.extBut _ _ c1 x))) ⟨oe, s3.extBut _ _ ne hoe, hce⟩ (.inl hx)
  | some x =>
    refine wpAny_bind (wpAny_nextOf_list_item (h1.extBut s1.extBut D.i1z) (q1.extBut s1.extBut D.l1z) hx fun g2 j1 s2 => wpAny_pure ?_)
    have o2 : IsPair g2 TO a b := s2.extBut _ _ D.TOi1 (s1.extBut _ _ D.TOz hTO)
    refine wpAny_bind (wpAny_seqItems o2 rfl (wpAny_bind (wpAny_updateSeq_pair o2 fun g3 o3 s3 => ?_)))
    replace o3 : IsPair g3 TO x b := o3
    refine wpAny_bind (wpAny_letGo (wpAny_pure (wpAny_bind (wpAny_bind (wpAny_onRaise ?_)))))
    show wpAny _ _ (Builtin.SmallTypes.nextOf (.ref i2) >>= _) _ _ _
    have it2 := ((h2.extBut s1.extBut D.i2z).extBut s2.extBut D.i12.symm).extBut s3.extBut D.TOi2.symm
    have tp2 := ((q2.extBut s1.extBut D.l2z).extBut s2.extBut D.l2i1).extBut s3.extBut D.l2TO
    cases hy : ys[k2]? with
    | none =>
      refine wpAny_bind (RZ.nextOf_tuple_end hh it2 tp2 hy fun g4 e s4 he => ?_)
      obtain ⟨oe, hoe, hce⟩ := he
      have z4 : IsZip g4 z TI TO .ellipsis := s4 _ _ D.i2z.symm (s3.extBut _ _ D.TOz.symm (s2.extBut _ _ D.i1z.symm z1))
      have ne : e ≠ z := fun x => by subst x; rw [z4] at hoe; cases hoe; simp at hce
      exact wpAny_setField_rec z4 (by simp) fun g5 _ s5 => stop g5 e (fun c o c1 c2 c3 c4 x => s5.extBut _ _ c1 (s4 _ _ c4 (s3.extBut _ _ c2 (s2.extBut _ _ c3 (s1.extBut _ _ c1 x))))) ⟨oe, s5.extBut _ _ ne hoe, hce⟩ (.inr hy)
    | some y =>
      refine wpAny_bind (RZ.nextOf_tuple_item it2 tp2 hy fun g4 j2 s4 => wpAny_pure ?_)
      have o4 : IsPair g4 TO x b := s4.extBut _ _ D.TOi2 o3
      refine wpAny_bind (wpAny_seqItems o4 rfl (wpAny_bind (wpAny_updateSeq_pair o4 fun g5 o5 s5 => ?_)))
      replace o5 : IsPair g5 TO x y := o5
      refine wpAny_bind (wpAny_letGo (wpAny_pure (wpAny_pure (wpAny_bind (wpAny_seqItems o5 rfl (wpAny_bind (wpAny_newTuple ?_)))))))
      have sz : g5.objs.size = s.heap.objs.size := by rw [s5.1, s4.1, s3.1, s2.1, s1.1]
      have z5 : IsZip g5 z TI TO .ellipsis := s5.extBut _ _ D.TOz.symm (s4.extBut _ _ D.i2z.symm (s3.extBut _ _ D.TOz.symm (s2.extBut _ _ D.i1z.symm z1)))
      have k5 : ∀ c o, c ≠ z → c ≠ TO → c ≠ i1 → c ≠ i2 → s.heap.get? c = some o → g5.get? c = some o := fun c o c1 c2 c3 c4 e => s5.extBut _ _ c2 (s4.extBut _ _ c4 (s3.extBut _ _ c2 (s2.extBut _ _ c3 (s1.extBut _ _ c1 e))))
      have a1 : g5.IsListIter i1 l1 (k1 + 1) := ((j1.extBut s3.extBut D.TOi1.symm).extBut s4.extBut D.i12).extBut s5.extBut D.TOi1.symm
      have a2 : g5.IsTupleIter i2 l2 (k2 + 1) := j2.extBut s5.extBut D.TOi2.symm
      have zl := Heap.lt_size z5
      show wpAny _ _ (Builtin.SmallTypes.ownedTupleHandOut (.ref z) (.ref g5.objs.size) >>= _) _ _ _; refine wpAny_bind ?_; unfold Builtin.SmallTypes.ownedTupleHandOut
      have z6 : IsZip (g5.push { cls := .type "tuple", data := .seq #[x, y] }) z TI TO .ellipsis := Heap.get?_push_of_some _ z5
      refine wpAny_bind (wpAny_setField_rec z6 (by simp) fun g7 z7 s7 => ?_)
      replace z7 : IsZip g7 z TI TO (rawInt g5.objs.size) := z7
      refine wpAny_setField_rec z7 (by simp) fun g8 z8 s8 => ?_
      replace z8 : IsZip g8 z TI TO (rawInt g5.objs.size) := z8
      have up : ∀ c o, c ≠ z → g5.get? c = some o → g8.get? c = some o := fun c o c1 e => s8.extBut _ _ c1 (s7.extBut _ _ c1 (Heap.get?_push_of_some _ e))
      have t8 : IsPair g8 g5.objs.size x y := s8.extBut _ _ (Nat.ne_of_gt zl) (s7.extBut _ _ (Nat.ne_of_gt zl) (Heap.get?_push_size _ rfl))
      rw [sz] at z8 t8
      refine wpAny_pure ⟨_, rfl, ?_⟩
      show wpAny _ _ (pure (some (PySem.Value.ref g5.objs.size))) _ _ _
      rw [sz]
      exact wpAny_pure (hI x y hx hy g8 z8 (up _ _ D.TOz o5) (a1.at fun o e => up _ o D.i1z e) (a2.at fun o e => up _ o D.i2z e) t8 fun c o c1 c2 c3 c4 e => up c o c1 (k5 c o c1 c2 c3 c4 e))
end
/-- made -/
theorem newLT {prog : Program} {w : World} {A : Around} {E : PySem.Value → Shared → Prop} {s : Shared} {l1 l2 : Addr} {xs ys : Array PySem.Value} {Q : PySem.Value → Shared → Prop} (q1 : s.heap.IsList l1 xs) (q2 : s.heap.IsTuple l2 ys)
    (h : ∀ h', IsZip h' (s.heap.objs.size + 4) (s.heap.objs.size + 2) (s.heap.objs.size + 3) .none → IsPair h' (s.heap.objs.size + 2) (.ref s.heap.objs.size) (.ref (s.heap.objs.size + 1)) → IsPair h' (s.heap.objs.size + 3) .none .none → h'.IsListIter s.heap.objs.size l1 0 → h'.IsTupleIter (s.heap.objs.size + 1) l2 0 →
      (∀ c o, s.heap.get? c = some o → h'.get? c = some o) → Q (.ref (s.heap.objs.size + 4)) { s with heap := h' }) : wpAny (model prog w) A (call (.type "zip") [.ref l1, .ref l2]) Q E s := by
  let g1 := s.heap.push { cls := .type "list_iterator", data := .fields #[PySem.Value.ref l1, .int 0 0] }
  let g2 := g1.push { cls := .type "tuple_iterator", data := .fields #[PySem.Value.ref l2, .int 0 0] }
  let g3 := g2.push { cls := .type "tuple", data := .seq #[PySem.Value.ref s.heap.objs.size, .ref g1.objs.size] }
  let g4 := g3.push { cls := .type "tuple", data := .seq #[.none, .none] }
  let g5 := g4.push { cls := .type "zip", data := .fields #[.none, .bool false, .bool false, .ref g2.objs.size, .ref g3.objs.size] }
  have mk : Meets (Builtin.«zip.__new__» ⟨[.type "zip", .ref l1, .ref l2], []⟩) (fun _ R s2 => s2 = s ∧ R (.ok (.ret (PySem.Value.ref g4.objs.size))) { s2 with heap := g5 }) := .of_wp fun prog w A R s2 h => by
    obtain ⟨hp, g, d, tk, os⟩ := s2; obtain ⟨rfl, h⟩ := h
    have hsub := sub_zip
    have L1 : Heap.IsList (Shared.heap ⟨hp, g, d, tk, os⟩) l1 xs := q1
    have L2 : Heap.IsTuple (Shared.heap ⟨hp.push { cls := .type "list_iterator", data := .fields #[PySem.Value.ref l1, .int 0 0] }, g, d, tk, os⟩) l2 ys := Heap.IsTuple.push q2 _
    wp_walk using wpAny_pyIter_list L1, wpAny_pyIter_tuple L2
    exact ⟨_, rfl, h⟩
  refine callType_new F.called_zip (by decide) (F.typeCall_zip_2 _ _) (F.newCall_zip_2 _ _) (fun obj => F.args_object_init_3 obj _ _) F.entry_zip_new mk ⟨rfl, ?_⟩
  have e1 : g1.objs.size = s.heap.objs.size + 1 := Heap.size_push ..
  have e2 : g2.objs.size = s.heap.objs.size + 2 := (Heap.size_push ..).trans (by rw [e1])
  have e3 : g3.objs.size = s.heap.objs.size + 3 := (Heap.size_push ..).trans (by rw [e2])
  have e4 : g4.objs.size = s.heap.objs.size + 4 := (Heap.size_push ..).trans (by rw [e3])
  have p5 : g5.get? g4.objs.size = some _ := Heap.get?_push_size _ rfl
  have p4 : g5.get? g3.objs.size = some _ := Heap.get?_push_of_some _ (Heap.get?_push_size _ rfl)
  have p3 : g5.get? g2.objs.size = some _ := Heap.get?_push_of_some _ (Heap.get?_push_of_some _ (Heap.get?_push_size _ rfl))
  have p2 : g5.get? g1.objs.size = some _ := Heap.get?_push_of_some _ (Heap.get?_push_of_some _ (Heap.get?_push_of_some _ (Heap.get?_push_size _ rfl)))
  have p1 : g5.get? s.heap.objs.size = some _ := Heap.get?_push_of_some _ (Heap.get?_push_of_some _ (Heap.get?_push_of_some _ (Heap.get?_push_of_some _ (Heap.get?_push_size _ rfl))))
  show _ ∧ _
  rw [e2, e3, e4] at p5
  rw [e1, e2] at p3
  rw [e3] at p4
  rw [e1] at p2
  rw [e4]
  exact ⟨⟨_, p5, rfl⟩, h _ p5 p3 p4 ⟨_, p1, rfl, rfl⟩ ⟨_, p2, rfl, rfl⟩ fun c o x => Heap.get?_push_of_some _ (Heap.get?_push_of_some _ (Heap.get?_push_of_some _ (Heap.get?_push_of_some _ (Heap.get?_push_of_some _ x))))⟩
/-- a list at a, a tuple at b -/
def ItzM (K : PySem.W.Frag) (a b : Addr) : It :=
  ⟨fun i H => ∃ (xs ys : List V) (x y : V), SqL K H a xs ∧ SqT K H b ys ∧ xs[i]? = some x ∧ ys[i]? = some y, fun i H v H' => ∃ T x y, v = .ref T ∧ H T = none ∧ H' = upd H T (.tup [x, y]) ∧ (∀ xs, SqL K H a xs → xs[i]? = some x) ∧ ∀ ys, SqT K H b ys → ys[i]? = some y, fun i H => ∃ xs ys : List V, SqL K H a xs ∧ SqT K H b ys ∧ (xs.length ≤ i ∨ ys.length ≤ i)⟩
theorem turn_zipM {P : Program} {w : World} {K : PySem.W.Frag} {elts : List Expr} {kk : Nat} {tpos : Pos} {a b z TI TO i1 i2 : Addr} (D : ZipApart z TI TO i1 i2 a b) :
    Turn P w K (.Tuple elts kk tpos) (ItzM K a b) [z, TI, TO, i1, i2] z (fun i h => IsZip h z TI TO .none ∧ IsPair h TI (.ref i1) (.ref i2) ∧ (∃ x y, IsPair h TO x y) ∧ h.IsListIter i1 a i ∧ h.IsTupleIter i2 b i) where
  mem := by simp
  obj := fun i h ⟨hz, hTI, ⟨x, y, hTO⟩, ⟨o1, e1, _, d1⟩, ⟨o2, e2, _, d2⟩⟩ c hc => by
    simp only [List.mem_cons, List.not_mem_nil, or_false] at hc; rcases hc with q | q | q | q | q <;> rw [q]
    · exact ⟨_, hz, fun v q => nomatch q⟩
    · exact ⟨_, hTI, fun v q => nomatch q⟩
    · exact ⟨_, hTO, fun v q => nomatch q⟩
    · exact ⟨o1, e1, fun v q => by rw [d1] at q; cases q⟩
    · exact ⟨o2, e2, fun v q => by rw [d2] at q; cases q⟩
  keep := fun i h h' ⟨hz, hTI, ⟨x, y, hTO⟩, h1, h2⟩ k => ⟨k z (by simp) _ hz, k TI (by simp) _ hTI, ⟨x, y, k TO (by simp) _ hTO⟩, h1.at fun o q => k i1 (by simp) o q, h2.at fun o q => k i2 (by simp) o q⟩
  item := by
    intro X hP hw hK hc i pins s σ H E I hf st hg; subst hP hw hK
    obtain ⟨hz, hTI, ⟨x0, y0, hTO⟩, h1, h2⟩ := st; obtain ⟨xs, ys, x, y, hqx, hqy, hx, hy⟩ := hg
    obtain ⟨its, rv, p, _⟩ := I.list hqx; obtain ⟨its2, rv2, p2, _⟩ := I.tuple hqy
    obtain ⟨u, hu, ru⟩ := rv.get hx; obtain ⟨u2, hu2, ru2⟩ := rv2.get hy
    have zl : z < s.heap.objs.size := Heap.lt_size hz
    refine turnLT (I.ok.hd hc) D hz hTI hTO h1 h2 p.isList p2 (fun v v2 e1 e2 h' z' TO' h1' h2' hT hk => ?_) (fun e => ?_)
    · rw [List.getElem?_toArray] at e1 e2; obtain rfl := Option.some.inj (hu.symm.trans e1); obtain rfl := Option.some.inj (hu2.symm.trans e2)
      refine ⟨_, rfl, wpAny_letOwnedTupleGo_zip (s := { s with heap := h' }) z' fun h'' z'' sb => ?_⟩
      have hT2 : h''.get? s.heap.objs.size = some { cls := .type "tuple", data := .seq #[u, u2] } := (sb.2 _ (Nat.ne_of_gt zl)).trans hT
      have new : ObjOk X.prog X.w (upd H s.heap.objs.size (.tup [x, y])) h'' s.heap.objs.size (.tup [x, y]) := ⟨by show 2 ≤ sizeLine; decide, [u, u2], .cons ru (.cons ru2 .nil), ⟨_, hT2, rfl, _, rfl⟩⟩
      have I1 : Inv X pins σ (upd H s.heap.objs.size (.tup [x, y])) { s with heap := h'' } := I.turnedNew (t' := s.toks) (ch := [z, TI, TO, i1, i2]) (fun c o hb q => (sb.2 c (fun q' => hb (by simp [q']))).trans (hk c o (fun q' => hb (by simp [q'])) (fun q' => hb (by simp [q'])) (fun q' => hb (by simp [q'])) (fun q' => hb (by simp [q'])) q)) hf (Nat.le_refl _) new
      refine ⟨.ref s.heap.objs.size, _, I1, rfl, ⟨_, x, y, rfl, I.hok.fresh (Nat.le_refl _), rfl, fun l hl => by rw [I.list_inj hl hqx]; exact hx, fun l hl => by rw [I.tuple_inj hl hqy]; exact hy⟩, ⟨z'', (sb.2 _ D.TIz).trans (hk _ _ D.TIz D.TITO D.TIi1 D.TIi2 hTI), ⟨u, u2, (sb.2 _ D.TOz).trans TO'⟩, h1'.at fun o q => (sb.2 _ D.i1z).trans q, h2'.at fun o q => (sb.2 _ D.i2z).trans q⟩, fun c hcm => ?_⟩
      have hlt : c < s.heap.objs.size := by
        simp only [List.mem_cons, List.not_mem_nil, or_false] at hcm; rcases hcm with q | q | q | q | q <;> rw [q]
        · exact zl
        · exact Heap.lt_size hTI
        · exact Heap.lt_size hTO
        · obtain ⟨_, e1, _⟩ := h1; exact Heap.lt_size e1
        · obtain ⟨_, e2, _⟩ := h2; exact Heap.lt_size e2
      rw [upd_ne (Nat.ne_of_lt hlt)]; exact (hf c hcm).1
    · rw [List.getElem?_toArray, List.getElem?_toArray, hu, hu2] at e; rcases e with e | e <;> cases e
  done := by
    intro X hP hw hK hc i pins s σ H E I hf st hg; subst hP hw hK
    obtain ⟨hz, hTI, ⟨x0, y0, hTO⟩, h1, h2⟩ := st; obtain ⟨xs, ys, hqx, hqy, hend⟩ := hg
    obtain ⟨its, rv, p, _⟩ := I.list hqx; obtain ⟨its2, rv2, p2, _⟩ := I.tuple hqy
    have l1 := rv.length
    have l2 := rv2.length
    refine turnLT (I.ok.hd hc) D hz hTI hTO h1 h2 p.isList p2 (fun v v2 e1 e2 => ?_) (fun _ h' hk => ⟨rfl, I.turnedL (t' := s.toks) (ch := [z, TI, TO, i1, i2]) (fun c o hb q => hk c o (fun q' => hb (by simp [q'])) (fun q' => hb (by simp [q'])) (fun q' => hb (by simp [q'])) (fun q' => hb (by simp [q'])) q) hf⟩)
    rw [List.getElem?_toArray] at e1 e2
    have := (List.getElem?_eq_some_iff.mp e1).1
    have := (List.getElem?_eq_some_iff.mp e2).1
    omega
  self := fun A i s Q E st h => wpAny_pyIter_zip st.1 h
def iZipM (K : PySem.W.Frag) (ta : TA) : TI := fun σ H R => ta σ H fun vs H1 => ∃ a b xs ys, vs = [.ref a, .ref b] ∧ SqL K H1 a xs ∧ SqT K H1 b ys ∧ R (ItzM K a b) H1
theorem pi_zipM {X : Cx} {e e2 : Expr} {ta : TA} {p pos tpos : Pos} {elts : List Expr} {kk : Nat} (hg : Gl X "zip") (hm : X.mg "zip" = none) (ha : PA X [e, e2] ta) (hs : starEach [e, e2] X.env = (false, eval e X.env) :: starEach [e2] X.env := by rfl) (hpl : (backTo pos (starEach [e2] X.env)).any (·.1) = false := by rfl) :
    PI X (.Tuple elts kk tpos) (.Call (.Name "zip" p) [e, e2] [] pos) (iZipM X.K ta) := by
  refine ⟨fun pins s σ H R I h => Call_ (ld_blt I hg hm PyProof.Rows.boot_zip (PyProof.Rows.callWith_type1 (thn (ha.run pos pins s σ H _ I h) fun us s1 ⟨vs, H1, I1, r1, q1⟩ => ?_) hs hpl))⟩
  obtain ⟨a, b, xs, ys, rfl, hqx, hqy, q⟩ := q1
  cases r1 with
  | cons r rr =>
    cases rr with
    | cons r' rr =>
      cases rr; cases r; cases r'
      obtain ⟨its, rv, p1, _⟩ := I1.list hqx; obtain ⟨its2, rv2, p2, _⟩ := I1.tuple hqy; obtain ⟨o2, ho2, _⟩ := id p2
      refine newLT p1.isList (show s1.heap.IsTuple b its2.toArray from p2) fun h' hz hTI hTO h1 h2 hk => wpAny_pyIter_zip hz ?_
      refine ⟨s1.heap.objs.size + 4, [s1.heap.objs.size + 4, s1.heap.objs.size + 2, s1.heap.objs.size + 3, s1.heap.objs.size, s1.heap.objs.size + 1], _, _, H1, rfl, I1.kept (t' := s1.toks) hk, turn_zipM (PySem.W.ktu_apart s1.heap.objs.size a b p1.lt (Heap.lt_size ho2)), ⟨hz, hTI, ⟨_, _, hTO⟩, h1, h2⟩, fun c hcm => ?_, q⟩
      have le : s1.heap.objs.size ≤ c := by
        simp only [List.mem_cons, List.not_mem_nil, or_false] at hcm; rcases hcm with q | q | q | q | q <;> rw [q]
        · exact Nat.le_add_right _ _
        · exact Nat.le_add_right _ _
        · exact Nat.le_add_right _ _
        · exact Nat.le_refl _
        · exact Nat.le_add_right _ _
      exact I1.fpOk le (I1.hok.fresh le)
theorem walk_zipM {K : PySem.W.Frag} {a b : Addr} {xs ys : List V} {n : Nat} (hx : xs.length = n) (hy : ys.length = n) : Walk (ItzM K a b) n (fun H => SqL K H a xs ∧ SqT K H b ys) (YPair (fun i => xs[i]?) (fun i => ys[i]?)) := by
  refine ⟨fun i _ hi q => ⟨xs, ys, xs[i], ys[i], q.1, q.2, List.getElem?_eq_getElem (by omega), List.getElem?_eq_getElem (by omega)⟩, fun _ q => ⟨xs, ys, q.1, q.2, by omega⟩, ?_⟩
  rintro i H v H' _ q ⟨T, x, y, h1, h2, h3, h4, h5⟩
  exact ⟨T, x, y, h1, h2, h3, h4 xs q.1, h5 ys q.2⟩
end RO

set_option Elab.async false
set_option linter.all false
set_option maxRecDepth 100000
set_option maxHeartbeats 4000000
/-! readings opened one at a time -/
namespace RP
open PySem PySem.Spec PyProof.Rows L2 Pen Tr AK LamX RU
section
variable {σ : L2.St} {H : Hp} {te tb : TE} {ta : TA} {g : TG} {t u : TS} {D : Ends} {Q : VK}
theorem sq_asg (h : te σ H fun x H1 => g x σ H1 (u D)) : tSeq (tAsg te g) u D σ H := h
theorem sq_ {r : TS} (h : r { D with nx := u D } σ H) : tSeq r u D σ H := h
theorem asg_ (h : te σ H fun x H1 => g x σ H1 D.nx) : tAsg te g D σ H := h
theorem ret_ (h : te σ H D.rt) : tRet te D σ H := h
theorem cb_ {r : List V → Hp → VK → Prop} (h : ta σ H fun vs H1 => r vs H1 Q) : tCB r ta σ H Q := h
theorem tc_ {k : List V → Hp → Prop} (h : te σ H fun x H1 => ta σ H1 fun xs H2 => k (x :: xs) H2) : tCons te ta σ H k := h
theorem tn_ {k : List V → Hp → Prop} (h : k [] H) : tNil σ H k := h
theorem cst_ {v : V} (h : Q v H) : tC v σ H Q := h
theorem vr_ {i : Nat} {v : V} (e : σ[i]? = some (some v)) (h : Q v H) : tVar i σ H Q := ⟨v, e, h⟩
theorem tup_ (h : ta σ H fun xs H1 => xs.length ≤ sizeLine ∧ ∀ p, H1 p = none → Q (.ref p) (upd H1 p (.tup xs))) : tTup ta σ H Q := h
theorem lst_ (h : ta σ H fun xs H1 => xs.length ≤ sizeLine ∧ ∀ p, H1 p = none → Q (.ref p) (upd H1 p (.lst xs))) : tLst ta σ H Q := h
theorem op_ {r : R2} (h : te σ H fun x H1 => tb σ H1 fun y H2 => r x y H2 Q) : tOp r te tb σ H Q := h
end
theorem pr_app {α : Type} {R : α → V → Prop} {xs ys : List α} {us vs : List V} (h1 : Paired R xs us) (h2 : Paired R ys vs) : Paired R (xs ++ ys) (us ++ vs) := by
  induction h1 with
  | nil => exact h2
  | cons h _ i => exact .cons h i
/-- a comprehension without a test, by its turns: each gives one that stands in R0 to the turn's c, whatever new things it makes -/
theorem lc_rel {J : It} {n : Nat} {G : Hp → Prop} {Y : Nat → Hp → V → Hp → Prop} (wk : Walk J n G Y) {α : Type} {cs : List α} (hn : cs.length = n) (few : n < sizeLine) (R0 : Hp → α → V → Prop) (st : ∀ H1 H2 c y, Tups H1 H2 → R0 H1 c y → R0 H2 c y) {σ : L2.St} {vs : List Nat} {g : TG} {te : TE} {H : Hp} {D : Addr} {Qd : Hp → Prop} (nD : H D = none) (hG : ∀ H', Same H H' → G H')
    (hs : ∀ j x c H1 H2 (R : VK), j < n → cs[j]? = some c → Same H H1 → Y j H1 x H2 → (∀ y H3, Same H1 H3 → R0 H3 c y → R y H3) → g x (wipe σ vs) H2 fun σ2 H3 => wipe σ2 vs = wipe σ vs ∧ te σ2 H3 R) (q : ∀ H' ys, Same H H' → H' D = some (.lst ys) → Paired (R0 H') cs ys → Qd H') :
    ∃ W : Nat → Nat → Hp → Prop, (∃ m, W 0 m (upd H D (.lst []))) ∧ ∀ i m H, W i m H → (J.stop i H ∧ Qd H) ∨ (J.go i H ∧ ∃ Nx : Hp → Prop, (∀ H', Nx H' → ∃ m', m' < m ∧ W (i + 1) m' H') ∧ ∀ x H', J.yld i H x H' → g x (wipe σ vs) H' fun σ2 H2 => wipe σ2 vs = wipe σ vs ∧ tYes σ2 H2 fun b H3 =>
        if b = true then te σ2 H3 fun y H4 => ∃ acc, H4 D = some (.lst acc) ∧ acc.length < sizeLine ∧ Nx (upd H4 D (.lst (acc ++ [y]))) else Nx H3) := by
  refine lc_it wk (fun i H' => Same H H' ∧ ∃ ys, H' D = some (.lst ys) ∧ Paired (R0 H') (cs.take i) ys) ⟨same_upd nD, [], upd_same, .nil⟩ (fun i H' _ p => hG H' p.1) ?_ ?_
  · rintro i x H1 H2 hi ⟨s1, ys, hD, pr⟩ y
    have ec : cs[i]? = some cs[i] := List.getElem?_eq_getElem (by omega)
    have yl : ys.length = i := by
      have := Paired.length pr
      rw [List.length_take] at this
      omega
    have z := hs i x cs[i] H1 H2 (fun y H4 => ∃ acc, H4 D = some (.lst acc) ∧ acc.length < sizeLine ∧ (fun i H' => Same H H' ∧ ∃ ys, H' D = some (.lst ys) ∧ Paired (R0 H') (cs.take i) ys) (i + 1) (upd H4 D (.lst (acc ++ [y])))) hi ec s1 y fun y H3 s3 r3 => by
      have hD3 := s3 _ _ hD
      have tu : Tups H3 (upd H3 D (.lst (ys ++ [y]))) := Tups.upd (Tr.lst_ntup hD3)
      refine ⟨ys, hD3, by omega, fun b o e => ?_, ys ++ [y], upd_same, ?_⟩
      · rw [upd_ne (ne_of_none e nD)]
        exact s3 _ _ (s1 _ _ e)
      · rw [List.take_add_one, ec]
        exact pr_app (Paired.mapP pr fun c v h => st _ _ c v tu (st _ _ c v (fun _ _ h => same_rd s3 h) h)) (.cons (st _ _ _ _ tu r3) .nil)
    exact z
  · rintro H1 ⟨s1, ys, hD, pr⟩
    rw [← hn, List.take_length] at pr
    exact q H1 ys s1 hD pr
/-- the same where each turn draws: c draws at most a turn; each gives one that stands in R0 -/
theorem lc_pen {J : It} {n : Nat} {G : Hp → Prop} {Y : Nat → Hp → V → Hp → Prop} (wk : Walk J n G Y) (few : n < sizeLine) (R0 : Hp → V → Prop) (st : ∀ H1 H2 y, Tups H1 H2 → R0 H1 y → R0 H2 y) {σ : L2.St} {vs : List Nat} {g : TG} {te : TE} {H : Hp} {D p pl : Addr} {k0 : Nat} (c : Nat) {Qd : Hp → Prop} (PA : PenAt H p pl k0) (nD : H D = none) (hG : ∀ H' m, But p H H' → PenAt H' p pl m → G H')
    (hs : ∀ j x H1 H2 (R : VK), j < n → But p H H1 → PenAt H1 p pl (k0 + c * j) → Y j H1 x H2 → (∀ y H3, But p H1 H3 → PenAt H3 p pl (k0 + c * j + c) → R0 H3 y → R y H3) → g x (wipe σ vs) H2 fun σ2 H3 => wipe σ2 vs = wipe σ vs ∧ te σ2 H3 R) (q : ∀ H' ys, But p H H' → PenAt H' p pl (k0 + c * n) → H' D = some (.lst ys) → ys.length = n → (∀ y ∈ ys, R0 H' y) → Qd H') :
    ∃ W : Nat → Nat → Hp → Prop, (∃ m, W 0 m (upd H D (.lst []))) ∧ ∀ i m H, W i m H → (J.stop i H ∧ Qd H) ∨ (J.go i H ∧ ∃ Nx : Hp → Prop, (∀ H', Nx H' → ∃ m', m' < m ∧ W (i + 1) m' H') ∧ ∀ x H', J.yld i H x H' → g x (wipe σ vs) H' fun σ2 H2 => wipe σ2 vs = wipe σ vs ∧ tYes σ2 H2 fun b H3 =>
        if b = true then te σ2 H3 fun y H4 => ∃ acc, H4 D = some (.lst acc) ∧ acc.length < sizeLine ∧ Nx (upd H4 D (.lst (acc ++ [y]))) else Nx H3) := by
  have Dp0 : D ≠ p := by
    rintro rfl
    obtain ⟨kvs, e⟩ := PA.is
    rw [nD] at e
    cases e
  have Dpl : D ≠ pl := by
    rintro rfl
    obtain ⟨kvs, e⟩ := PA.lis
    rw [nD] at e
    cases e
  have u0 := same_upd (o := .lst ([] : List V)) nD
  refine lc_it wk (fun i H' => But p H H' ∧ PenAt H' p pl (k0 + c * i) ∧ ∃ ys, H' D = some (.lst ys) ∧ ys.length = i ∧ ∀ y ∈ ys, R0 H' y) ⟨But.same u0, PA.keep u0, [], upd_same, rfl, fun _ h => absurd h List.not_mem_nil⟩ (fun i H' _ z => hG H' _ z.1 z.2.1) ?_ ?_
  · rintro i x H1 H2 hi ⟨b1, PA1, ys, hD, yl, al⟩ y
    refine hs i x H1 H2 (fun y H4 => ∃ acc, H4 D = some (.lst acc) ∧ acc.length < sizeLine ∧ (fun i H' => But p H H' ∧ PenAt H' p pl (k0 + c * i) ∧ ∃ ys, H' D = some (.lst ys) ∧ ys.length = i ∧ ∀ y ∈ ys, R0 H' y) (i + 1) (upd H4 D (.lst (acc ++ [y])))) hi b1 PA1 y fun y H3 b3 PA3 r3 => ?_
    have hD3 := b3 _ _ hD Dp0
    have t13 : Tups H1 H3 := (Kp.pen PA1 b3).tups
    have tu : Tups H3 (upd H3 D (.lst (ys ++ [y]))) := Tups.upd (Tr.lst_ntup hD3)
    refine ⟨ys, hD3, by omega, fun b o e n1 => ?_, (PA3.other Dp0 Dpl).mono (by rw [Nat.mul_succ]; omega), ys ++ [y], upd_same, by rw [List.length_append, yl]; rfl, fun z hz => ?_⟩
    · rw [upd_ne (ne_of_none e nD)]
      exact b3 _ _ (b1 _ _ e n1) n1
    · rcases List.mem_append.mp hz with hz | hz
      · exact st _ _ _ tu (st _ _ _ t13 (al z hz))
      · rw [List.mem_singleton.mp hz]
        exact st _ _ _ tu r3
  · rintro H1 ⟨b1, PA1, ys, hD, yl, al⟩
    exact q H1 ys b1 PA1 hD yl al
end RP

set_option Elab.async false
set_option linter.all false
set_option maxRecDepth 100000
set_option maxHeartbeats 4000000
namespace K23
open PySem PySem.Spec PyProof.Rows L2 Pen Tr AK LamX RL RU RN
def valN (k : Nat) : List (List Int × Str) → Int
  | [] => 0
  | c :: r => 2 * valN k r + c.1.getD k 0
section
variable {P : Program} {w : World} {K : PySem.W.Frag} {mg : Str → Option PySem.Value} {base : Heap} {f : Addr} {fd : FuncData} {H H' : Hp}
def spVo (K : PySem.W.Frag) : Sp := fun vs H Q _ => ∃ p cs, ∃ m : Nat, vs = [.ref p] ∧ RowT K H p cs ∧ cs ≠ [] ∧ cs.length ≤ 300 ∧ m ≤ 3 ∧ (∀ c ∈ cs, c.1.length = m) ∧ ∀ r H', Same H H' → SqT K H' r (((List.range m).map fun k => valN k cs).map V.int) → Q (.ref r) H'
abbrev nVo : List Str := ["row", "_", "numbers", "digits", "number", "digit"]
theorem scVo : FnScope nVo ["row"] (defScope (top 46)) := ⟨rfl, rfl, rfl, by decide +kernel, rfl, by decide +kernel, by decide +kernel⟩
theorem ok_Vo (F : FnT K "values_of" 46 f fd) (TX : Txt mg) : FnOk P w K mg base CX0 1 f fd ["row"] (spVo K) := by
  refine F.ok scVo (fun vs H Q E h => by obtain ⟨p, cs, m, rfl, _⟩ := h; rfl) (fun cdv A outer s0 H vs Q E hr h => ?_)
  obtain ⟨p, cs, m, rfl, ⟨xs, hp, rv⟩, ne, few, m3, wide, q⟩ := h
  have nd := scVo.nd
  have hu := hr.units
  have hu1 := hu_of hr
  suffices z : ∃ tt, PSs (cxOf CX0 P w K mg base nVo "values_of" (defScope (top 46)) f cdv A outer s0 H E).nox (defBody (top 46)) tt ∧ tt { nx := fun _ H' => Q .non H', rt := Q } (start nVo [.ref p]) H by
    obtain ⟨tt, h1, h2⟩ := z
    exact ⟨tt, h1.nox, h2⟩
  refine ⟨_, pss_cons (ps_setLc (i := 2) (own := [("_", 1)]) (g := gName 1) (tt := tYes) (te := (tC (.int 0))) (by rfl) nd rfl (by rfl) (by rfl) (pi_tup (pe_ix ix_tup (pe_ix ix_tup (pv 0) pe_int (fun _ _ => rfl)) pe_int (fun _ _ => rfl))) (blkOk_by (own := [("_", 1)]) (N := nVo) (sc := defScope (top 46)) (by decide +kernel)) (fun _ _ _ _ _ => (pg_name (i := 1) nd rfl (.inl rfl))) (fun _ _ _ _ _ => pts_nil) (fun _ _ _ _ _ => pe_int))
    (C8.pss_cut (ps_for PassesOwn.never rfl (pi_tup (pe_stepT (pv 0) po_none po_none (po_some (pe_un un_neg pe_int)))) (pg_tup (by rfl) (pgs_cons (pg_name (i := 3) nd rfl (.inl rfl)) (pgs_cons (pg_name (i := 1) nd rfl (.inl rfl)) pgs_nil)))
    (pss_one (ps_setLc (i := 2) (own := [("number", 4), ("digit", 5)]) (g := gTup K 2 (gCons (gName 4) (gCons (gName 5) gNil))) (tt := tYes) (te := (tOp (rI0 fun i j => .int (i + j)) (tOp (rI CMul fun i j => .int (i * j)) (tC (.int 2)) (tVar 4)) (tVar 5))) (by rfl) nd rfl (by rfl) (by rfl) (RO.pi_zipM (by rfl) TX.zip (pa_cons (pv 2) (pa_cons (pv 3) pa_nil))) (blkOk_by (own := [("number", 4), ("digit", 5)]) (N := nVo) (sc := defScope (top 46)) (by decide +kernel)) (fun _ _ _ _ _ => (pg_tup (by rfl) (pgs_cons (pg_name (i := 4) nd rfl (.inl rfl)) (pgs_cons (pg_name (i := 5) nd rfl (.inl rfl)) pgs_nil)))) (fun _ _ _ _ _ => pts_nil) (fun _ _ _ _ _ => (pe_op op_add (pe_op op_mul pe_int (pv 4)) (pv 5))))))
    (pss_one (ps_ret (pe_callTy call_tupR (by rfl) TX.tuple (by decide +kernel) (pa_cons (pv 2) pa_nil))))), ?_⟩
  have xl := Paired.length rv
  have rowAt : ∀ {j : Nat} {v : V}, xs[j]? = some v → ∃ (hj : j < cs.length) (r r2 : Addr), v = .ref r ∧ SqT K H r [.ref r2, .str (cs[j]).2] ∧ SqT K H r2 ((cs[j]).1.map V.int) := fun {j v} h => by
    have hj := (List.getElem?_eq_some_iff.mp h).1
    obtain ⟨c, hc, r, r2, e, h1, h2⟩ := pairW rv h
    obtain rfl : cs[j] = c := by
      rw [List.getElem?_eq_getElem (by omega)] at hc
      exact Option.some.inj hc
    exact ⟨by omega, r, r2, e, h1, h2⟩
  have n0 : 0 < cs.length := by
    cases cs with
    | nil => exact absurd rfl ne
    | cons a b => exact Nat.succ_pos _
  have e0 : xs[0]? = some (xs[0]'(by omega)) := List.getElem?_eq_getElem (by omega)
  obtain ⟨hj, r, r2, e, h1, h2⟩ := rowAt e0
  rw [e] at e0
  refine ⟨_, rfl, p, xs, ((0 : Nat) : Int), _, rfl, rfl, hp, L2.atI_nat e0, r, _, ((0 : Nat) : Int), _, rfl, rfl, h1, L2.atI_nat rfl, r2, rfl, ⟨_, h2⟩, fun D nD => ?_⟩
  change H D = none at nD
  have wm : ∀ {j : Nat} (hj : j < cs.length), (cs[j]).1.length = m := fun hj => wide _ (List.getElem_mem hj)
  have w0 : ((cs[0]).1.map V.int).length = m := by rw [List.length_map]; exact wm n0
  refine lc_it (walk_tup (K := K) (a := r2) (xs := (cs[0]).1.map V.int)) (fun j H' => Same H H' ∧ H' D = some (.lst (List.replicate j (.int 0)))) ⟨same_upd nD, upd_same⟩ (fun j H' _ p => SqT.tups (same_tups p.1) h2) ?_ ?_
  · rintro j x H3 H2 hj2 ⟨s, e⟩ ⟨rfl, hx⟩
    refine ⟨rfl, yes_if ⟨_, e, by rw [List.length_replicate, sizeLine_eq]; omega, fun b o e2 => ?_, ?_⟩⟩
    · rw [upd_ne (ne_of_none e2 nD)]
      exact s _ _ e2
    · rw [upd_same, List.replicate_succ']
  · rintro H2 ⟨s, e⟩
    rw [w0] at e
    have z0 : List.replicate m (V.int 0) = ((List.range m).map fun k => valN k (cs.drop cs.length)).map V.int := by
      rw [List.drop_length, List.map_map]
      exact (List.eq_replicate_iff.mpr ⟨by rw [List.length_map, List.length_range], fun b hb => by
        obtain ⟨k, _, rfl⟩ := List.mem_map.mp hb
        rfl⟩).symm
    rw [z0] at e
    refine ⟨fun σ H' => ∃ o1 o3 o4 o5 D, σ = [some (.ref p), o1, some (.ref D), o3, o4, o5] ∧ Same H H' ∧ H' D = some (.lst (((List.range m).map fun k => valN k cs).map V.int)), ?_, ?_⟩
    · refine ⟨_, rfl, 1, rfl, _, rfl, p, xs, _, rfl, rfl, by decide, by decide, SqT.tups (same_tups s) hp, by rw [RN.stepV_rev, List.length_reverse, sizeLine_eq]; omega, fun p2 np2 => ?_⟩
      rw [RN.stepV_rev]
      have s2 := same_upd (o := .tup xs.reverse) np2
      refine ⟨p2, rfl, ⟨_, SqT.of upd_same⟩, ?_⟩
      have rl : xs.reverse.length = cs.length := by rw [List.length_reverse]; exact xl.symm
      refine for_it (walk_tup (K := K) (a := p2) (xs := xs.reverse)) (fun i σ H' => ∃ o1 o3 o4 o5 D, σ = [some (.ref p), o1, some (.ref D), o3, o4, o5] ∧ Same H H' ∧ SqT K H' p2 xs.reverse ∧ H' D = some (.lst (((List.range m).map fun k => valN k (cs.drop (cs.length - i))).map V.int))) ⟨_, _, _, _, D, rfl, same_trans s s2, SqT.of upd_same, s2 _ _ e⟩ (fun i σ H' _ ⟨_, _, _, _, _, _, _, h, _⟩ => h) ?_ ?_
      · rintro i x σ H4 H3 hi ⟨o1, o3, o4, o5, D2, rfl, s3, hp2, hD2⟩ ⟨rfl, hx⟩
        rw [rl] at hi
        rw [List.getElem?_reverse (by omega)] at hx
        obtain ⟨hj, r, r2, rfl, h1, h2⟩ := rowAt hx
        have dr : cs.drop (cs.length - (i + 1)) = cs[xs.length - 1 - i] :: cs.drop (cs.length - i) := by
          have e1 : cs.length - (i + 1) = xs.length - 1 - i := by omega
          rw [e1, List.drop_eq_getElem_cons hj]
          have e2 : xs.length - 1 - i + 1 = cs.length - i := by omega
          rw [e2]
        have wj := wm hj
        generalize cs[xs.length - 1 - i] = c at h1 h2 dr wj
        have h1' := SqT.tups (same_tups s3) h1
        have h2' := SqT.tups (same_tups s3) h2
        refine ⟨r, _, rfl, h1', rfl, _, _, rfl, _, _, rfl, rfl, ?_⟩
        refine ⟨_, rfl, _, rfl, D2, r2, _, _, rfl, SqL.of hD2, h2', fun D3 nD3 => ?_⟩
        change H3 D3 = none at nD3
        rw [dr]
        have ll : (((List.range m).map fun k => valN k (cs.drop (cs.length - i))).map V.int).length = m := by rw [List.length_map, List.length_map, List.length_range]
        refine lc_it (RO.walk_zipM (K := K) (a := D2) (b := r2) (n := m) ll (by rw [List.length_map]; exact wj)) (fun j H' => Same H3 H' ∧ H' D3 = some (.lst ((((List.range m).map fun k => valN k (c :: cs.drop (cs.length - i))).take j).map V.int))) ⟨same_upd nD3, upd_same⟩ (fun j H' _ p => ⟨Kp.sql (Kp.same p.1) (SqL.of hD2), SqT.tups (same_tups p.1) h2'⟩) ?_ ?_
        · rintro j x H6 H5 hj2 ⟨s5, hD5⟩ y
          obtain ⟨T, u, v, rfl, nT, rfl, e1, e2⟩ := y
          have e1 : (((List.range m).map fun k => valN k (cs.drop (cs.length - i))).map V.int)[j]? = some u := e1
          have e2 : (c.1.map V.int)[j]? = some v := e2
          rw [List.map_map, List.getElem?_map, List.getElem?_range hj2] at e1
          obtain rfl := Option.some.inj e1
          have ec : c.1[j]? = some (c.1.getD j 0) := by
            rw [List.getD_eq_getElem?_getD, List.getElem?_eq_getElem (by omega)]
            rfl
          rw [List.getElem?_map, ec] at e2
          obtain rfl := Option.some.inj e2
          have s6 := same_upd (o := .tup [.int (valN j (cs.drop (cs.length - i))), .int (c.1.getD j 0)]) nT
          refine ⟨T, _, rfl, SqT.of upd_same, rfl, _, _, rfl, _, _, rfl, rfl, rfl, yes_if ⟨_, rfl, _, _, rfl, rfl, .inl ⟨by decide, by decide⟩, _, rfl, _, _, rfl, rfl, _, s6 _ _ hD5, ?_, fun b o e => ?_, ?_⟩⟩
          · rw [List.length_map, List.length_take, sizeLine_eq]
            omega
          · rw [upd_ne (ne_of_none e nD3)]
            exact s6 _ _ (s5 _ _ e)
          · rw [upd_same, List.take_add_one, List.getElem?_map, List.getElem?_range hj2, List.map_append]
            rfl
        · rintro H5 ⟨s5, hD5⟩
          rw [List.take_of_length_le (by rw [List.length_map, List.length_range]; omega)] at hD5
          exact ⟨_, _, _, _, D3, rfl, same_trans s3 s5, SqT.tups (same_tups s5) hp2, hD5⟩
      · rintro σ H3 ⟨o1, o3, o4, o5, D2, rfl, s3, hp2, hD2⟩
        rw [rl, Nat.sub_self, List.drop_zero] at hD2
        exact ⟨o1, o3, o4, o5, D2, rfl, s3, hD2⟩
    · rintro σ H3 ⟨o1, o3, o4, o5, D2, rfl, s3, hD2⟩
      exact ⟨_, rfl, D2, _, rfl, .inl (SqL.of hD2), fun r H4 s4 hr => q r H4 (same_trans s3 s4) hr⟩
end
end K23

set_option Elab.async false
set_option linter.all false
set_option maxRecDepth 100000
set_option maxHeartbeats 4000000
namespace K23
open PySem PySem.Spec PyProof.Rows L2 Pen Tr AK LamX RL RU RN
def valsN (m : Nat) (cs : List (List Int × Str)) : List Int := (List.range m).map fun k => valN k cs
def spSt (K : PySem.W.Frag) : Sp := fun vs H Q _ => ∃ v b xs ys m, ∃ cs : List (List (List Int × Str)), vs = [v, .ref b] ∧ ((SqL K H b xs ∧ ys = stepL xs (some 1) none 2) ∨ (SqT K H b xs ∧ ys = stepV xs (some 1) none 2)) ∧ ys.length ≤ 10 ∧ m ≤ 3 ∧
  Paired (fun c v => ∃ p, v = .ref p ∧ RowT K H p c) cs ys ∧ (∀ c ∈ cs, c ≠ [] ∧ c.length ≤ 300 ∧ ∀ e ∈ c, e.1.length = m) ∧ ∀ r H' zs, Same H H' → SqT K H' r zs → Paired (fun c v => ∃ p, v = .ref p ∧ SqT K H' p ((valsN m c).map V.int)) cs zs → Q (.ref r) H'
section
variable {P : Program} {w : World} {K : PySem.W.Frag} {mg : Str → Option PySem.Value} {base : Heap} {f fVo : Addr} {fd fdVo : FuncData} {H H' : Hp}
abbrev nSt : List Str := ["program", "rows", "row"]
theorem scSt : FnScope nSt ["program", "rows"] (defScope (top 47)) := ⟨rfl, rfl, rfl, by decide +kernel, rfl, by decide +kernel, by decide +kernel⟩
theorem ok_St (F : FnT K "steps_told" 47 f fd) (TX : Txt mg)
    (FVo : FnT K "values_of" 46 fVo fdVo) (gVo : mg "values_of" = some (.ref fVo)) (GVo : FnOk P w K mg base CX0 1 fVo fdVo ["row"] (spVo K)) : FnOk P w K mg base CX0 2 f fd ["program", "rows"] (spSt K) := by
  refine F.ok scSt (fun vs H Q E h => by obtain ⟨v, b, xs, ys, m, cs, rfl, _⟩ := h; rfl) (fun cdv A outer s0 H vs Q E hr h => ?_)
  obtain ⟨v, b, xs, ys, m, cs, rfl, hb, y10, m3, pr, ok, q⟩ := h
  have nd := scSt.nd
  have hu := hr.units
  have hu1 := hu_of hr
  have bVo : L2.Binds K fdVo ["row"] [] := FunD.bindsN FVo fun _ _ _ _ _ _ us hl => match us, hl with | [_], _ => rfl
  suffices z : ∃ tt, PSs (cxOf CX0 P w K mg base nSt "steps_told" (defScope (top 47)) f cdv A outer s0 H E).nox (defBody (top 47)) tt ∧ tt { nx := fun _ H' => Q .non H', rt := Q } (start nSt [v, .ref b]) H by
    obtain ⟨tt, h1, h2⟩ := z
    exact ⟨tt, h1.nox, h2⟩
  refine ⟨_, pss_one (ps_ret (pe_callTy call_tupR (by rfl) TX.tuple (by decide +kernel) (pa_cons (pe_lc (own := [("row", 2)]) (g := gName 2) (tt := tYes) (te := (tCall (spVo K) [] E0 (tCons (tVar 2) tNil))) (by rfl) nd (pi_or (pi_list (pe_stepA (pv 1) (po_some pe_int) po_none (po_some pe_int))) (pi_tup (pe_stepA (pv 1) (po_some pe_int) po_none (po_some pe_int)))) (blkOk_by (own := [("row", 2)]) (N := nSt) (sc := defScope (top 47)) (by decide +kernel)) (fun _ _ _ _ _ => (pg_name (i := 2) nd rfl (.inl rfl))) (fun _ _ _ _ _ => pts_nil) (fun _ _ _ _ _ => (pe_call GVo (hr.mono (by decide)) (by rfl) gVo FVo.kp bVo .nil pass0 (pa_cons (pv 2) pa_nil)))) pa_nil))), ?_⟩
  clear bVo
  have cl : cs.length = ys.length := Paired.length pr
  have body : ∀ {j : Nat} {x : V} {c : List (List Int × Str)} {H1 : Hp} {R : VK}, ys[j]? = some x → cs[j]? = some c → Same H H1 → (∀ y H3, Same H1 H3 → (∃ p, y = .ref p ∧ SqT K H3 p ((valsN m c).map V.int)) → R y H3) → spVo K [x] H1 R (fun _ _ _ => False) := fun {j x c H1 R} hx hc s k => by
    obtain ⟨c', hc', p, rfl, rt⟩ := pairW pr hx
    obtain rfl : c = c' := Option.some.inj (hc.symm.trans hc')
    obtain ⟨o1, o2, o3⟩ := ok c (List.mem_of_getElem? hc)
    obtain ⟨zs, h1, h2⟩ := rt
    exact ⟨p, c, m, rfl, ⟨zs, SqT.tups (same_tups s) h1, h2.tups (same_tups s)⟩, o1, o2, m3, o3, fun r H3 s3 hr => k _ H3 s3 ⟨r, rfl, hr⟩⟩
  have st : ∀ (H1 H2 : Hp) (c : List (List Int × Str)) (y : V), Tups H1 H2 → (∃ p, y = .ref p ∧ SqT K H1 p ((valsN m c).map V.int)) → ∃ p, y = .ref p ∧ SqT K H2 p ((valsN m c).map V.int) := fun H1 H2 c y t ⟨p, e, h⟩ => ⟨p, e, SqT.tups t h⟩
  have big : ys.length < sizeLine := by rw [sizeLine_eq]; omega
  rcases hb with ⟨hb, rfl⟩ | ⟨hb, rfl⟩
  · refine .inl ⟨_, rfl, _, rfl, _, rfl, .inr ⟨b, xs, 2, rfl, rfl, by decide, hb, Nat.le_of_lt big, fun p np => ?_⟩⟩
    have s1 := same_upd (o := .lst (stepL xs (some 1) none 2)) np
    have hp : SqL K (upd H p (.lst (stepL xs (some 1) none 2))) p (stepL xs (some 1) none 2) := SqL.of upd_same
    generalize upd H p (.lst (stepL xs (some 1) none 2)) = H1 at s1 hp ⊢
    refine ⟨p, rfl, ⟨_, hp⟩, fun D nD => ?_⟩
    refine RP.lc_rel (walk_list (K := K) (a := p) (xs := stepL xs (some 1) none 2)) cl big (fun H' c v => ∃ p, v = .ref p ∧ SqT K H' p ((valsN m c).map V.int)) st nD (fun H' s => Kp.sql (Kp.same s) hp) ?_ ?_
    · rintro j x c H3 H2 R hj hc s2 ⟨rfl, hx⟩ k
      exact ⟨rfl, _, rfl, body hx hc (same_trans s1 s2) k⟩
    · intro H3 zs s2 hD pz
      exact ⟨D, _, rfl, .inl (SqL.of hD), fun r H4 s4 hr => q r H4 zs (same_trans s1 (same_trans s2 s4)) hr (Paired.mapP pz fun c v ⟨p, e, h⟩ => ⟨p, e, SqT.tups (same_tups s4) h⟩)⟩
  · refine .inr ⟨_, rfl, _, rfl, _, rfl, .inl ⟨b, xs, 2, rfl, rfl, by decide, by decide, hb, Nat.le_of_lt big, fun p np => ?_⟩⟩
    have s1 := same_upd (o := .tup (stepV xs (some 1) none 2)) np
    have hp : SqT K (upd H p (.tup (stepV xs (some 1) none 2))) p (stepV xs (some 1) none 2) := SqT.of upd_same
    generalize upd H p (.tup (stepV xs (some 1) none 2)) = H1 at s1 hp ⊢
    refine ⟨p, rfl, ⟨_, hp⟩, fun D nD => ?_⟩
    refine RP.lc_rel (walk_tup (K := K) (a := p) (xs := stepV xs (some 1) none 2)) cl big (fun H' c v => ∃ p, v = .ref p ∧ SqT K H' p ((valsN m c).map V.int)) st nD (fun H' s => SqT.tups (same_tups s) hp) ?_ ?_
    · rintro j x c H3 H2 R hj hc s2 ⟨rfl, hx⟩ k
      exact ⟨rfl, _, rfl, body hx hc (same_trans s1 s2) k⟩
    · intro H3 zs s2 hD pz
      exact ⟨D, _, rfl, .inl (SqL.of hD), fun r H4 s4 hr => q r H4 zs (same_trans s1 (same_trans s2 s4)) hr (Paired.mapP pz fun c v ⟨p, e, h⟩ => ⟨p, e, SqT.tups (same_tups s4) h⟩)⟩
end
end K23

set_option Elab.async false
set_option linter.all false
set_option maxRecDepth 100000
set_option maxHeartbeats 4000000
namespace K23
open PySem PySem.Spec PyProof.Rows L2 Pen Tr AK LamX RL RU
/-- a class of errors, all that a clause asks -/
structure Ct (K : PySem.W.Frag) (mg : Str → Option PySem.Value) (x : Str) (C : Addr) (fs : List Str) : Prop where
  mgx : mg x = some (.ref C)
  xf : XfC K C
  no : ∀ f ∈ fs, PySem.W.findIn K (.ref C) f = some none
  ex : PySem.W.exmOne K (.ref C) (.ref C) = some true
def Shd (K : PySem.W.Frag) (H : Hp) (v : V) (z : Str) : Prop := ∃ d, Dp K H v d ∧ d.showable = true ∧ d.hasDict = false ∧ d.depth ≤ 60 ∧ d.shown.length ≤ sizeLine ∧ z = d.shown
/-- what is let out has as many slots as names -/
theorem takes_len {X : Cx} {W : WX} {n : Nat} (t : Takes X W) (hn : X.N.length = n) : Takes X (fun cls d σ H => σ.length = n → W cls d σ H) := fun u s' ⟨a, B, sI, pins, σ, H, cls, d, e, I, nb, up, sky, na, os, ag, w⟩ =>
  t u s' ⟨a, B, sI, pins, σ, H, cls, d, e, I, nb, up, sky, na, os, ag, w (I.len.trans hn)⟩
/-- told: try: a() / except BadNumber as e: return (e.what, repr(e.number)) / return None -/
def TRf (K : PySem.W.Frag) (CN : Addr) : (XK → Hp → VK → Prop) → Hp → VK → Prop := fun tl H Q =>
  tl (fun cls d H' => cls = .ref CN ∧ ∃ dd v x z, d = some dd ∧ H' dd = some (.xd [("number", v), ("what", .str x)]) ∧ Shd K H' v z ∧ ∀ p, H' p = none → Q (.ref p) (upd H' p (.tup [.str x, .str z]))) H fun _ H' => Q .non H'
abbrev nRf : List Str := ["_law_call", "e"]
theorem scRf : FnScope nRf ["_law_call"] (defScope (top 74)) := ⟨rfl, rfl, rfl, by decide +kernel, rfl, by decide +kernel, by decide +kernel⟩
theorem ref_gives {X : Cx} {CN g : Addr} {cdg : Value} {q : Str} {k : Nat} (XB : Ct X.K X.mg "BadNumber" CN ["what", "number"]) (TX : Txt X.mg) (free : X.A.guards = some []) (hr : Room (k + 2) X.A) :
    GivesTo X nRf "_law_refused" (defScope (top 74)) g cdg (defBody (top 74)) "_law_call" q (TRf X.K CN) := by
  intro f c' s H Q tl act hc h
  have nd := scRf.nd
  have hu := (hr.deeper (envOfC "_law_refused" (defScope (top 74)) s.heap.objs.size g cdg)).units
  have no1 := XB.no "what" (by simp)
  have no2 := XB.no "number" (by simp)
  refine ⟨_, C8.pss_cut (ps_try_as (i := 1) (tb := fun W D σ H => ∃ Ech : XK, (∀ cls d σ' H', Ech cls d H' → σ'.length = 2 → W cls d σ' H') ∧ σ[0]? = some (some (.ref f)) ∧ H c' = some (CodeO c' q) ∧ tl Ech H (fun _ H' => D.nx σ H'))
      (ts := fun a cls d => tRet (tTup (tCons (tXf a cls d CN "what" (tVar 1)) (tCons (tCB (rShowV X.K) (tCons (tXf a cls d CN "number" (tVar 1)) tNil)) tNil)))) (Wout := fun _ _ _ _ => False)
      rfl rfl nd rfl rfl ⟨rfl, by decide, .inl XB.mgx⟩ L2.takes0 (fun W pn xe tk _ => ?_)
      (fun a oe cls d pn hz hf => pss_one (ps_ret (pe_tup (pa_cons (pe_xf XB.xf no1 hz hf (pv 1)) (pa_cons (pe_callB (call_showV free hu) (by rfl) TX.repr (by decide +kernel) (pa_cons (pe_xf XB.xf no2 hz hf (pv 1)) pa_nil)) pa_nil))))))
    (pss_one (ps_ret pe_non)), ?_⟩
  · refine ⟨fun pins s' σ H' D I h' => ?_⟩
    obtain ⟨Ech, hW, h1, h2, h3⟩ := h'
    exact (pss_one (ps_expr (act _ pn xe Ech _ _ (takes_len tk rfl) hW))).run pins s' σ H' D I ⟨h1, h2, h3⟩
  · refine ⟨fun σ H1 => Q .non H1, ?_, ?_⟩
    · refine ⟨fun cls d H' => cls = .ref CN ∧ ∃ dd v x z, d = some dd ∧ H' dd = some (.xd [("number", v), ("what", .str x)]) ∧ Shd X.K H' v z ∧ ∀ p, H' p = none → Q (.ref p) (upd H' p (.tup [.str x, .str z])), ?_, rfl, hc, h⟩
      rintro cls d σ' H' ⟨rfl, dd, v, x, z, rfl, e1, ⟨dt, hd, h1, h2, h3, h4, rfl⟩, qq⟩ sl
      obtain ⟨y0, y1, rfl⟩ : ∃ y0 y1, σ' = [y0, y1] := by
        match σ', sl with
        | [y0, y1], _ => exact ⟨y0, y1, rfl⟩
      refine ⟨true, XB.ex, fun _ ea na => ?_, fun h => nomatch h⟩
      refine ⟨_, rfl, rfl, rfl, dd, _, _, rfl, e1, rfl, _, rfl, rfl, rfl, dd, _, _, rfl, e1, rfl, v, dt, rfl, hd, h1, h2, h3, h4, (by show 2 ≤ sizeLine; decide), fun p np => qq p np⟩
    · exact fun σ H1 qq => qq
end K23

set_option Elab.async false
set_option linter.all false
set_option maxRecDepth 100000
set_option maxHeartbeats 4000000
namespace K23
open PySem PySem.Spec PyProof.Rows L2 Pen Tr AK LamX RL RU
theorem bulk_all {b : Nat} : ∀ {ds : List PyData}, (∀ d ∈ ds, d.bulk ≤ b) → PyData.bulkAll ds ≤ ds.length * (b + 1)
  | [], _ => Nat.zero_le _
  | d :: ds, h => by
    have h1 := h d (List.mem_cons_self ..)
    have i := bulk_all (ds := ds) fun e he => h e (List.mem_cons_of_mem _ he)
    rw [List.length_cons, Nat.succ_mul]
    simp only [PyData.bulkAll]
    omega
theorem bulk_tup {b n : Nat} {ds : List PyData} (h : ∀ d ∈ ds, d.bulk ≤ b) (l : ds.length ≤ n) : (PyData.tuple ds).bulk ≤ n * (b + 1) := by
  have i := bulk_all h
  have m := Nat.mul_le_mul_right (b + 1) l
  simp only [PyData.bulk]
  omega
theorem depth_all {m : Nat} : ∀ {ds : List PyData}, (∀ d ∈ ds, d.depth ≤ m) → PyData.depthAll ds ≤ m
  | [], _ => Nat.zero_le _
  | d :: ds, h => by
    have h1 := h d (List.mem_cons_self ..)
    have h2 := depth_all (ds := ds) fun e he => h e (List.mem_cons_of_mem _ he)
    simp only [PyData.depthAll]
    omega
theorem depth_tup {m : Nat} {ds : List PyData} (h : ∀ d ∈ ds, d.depth ≤ m) : (PyData.tuple ds).depth ≤ m + 1 := by
  have := depth_all h
  simp only [PyData.depth]
  omega
/-! ### what is refused -/
inductive Lf
  | i (z : Int)
  | n
  | s
  | b (c : Bool)
def Lf.v : Lf → V
  | .i z => .int z
  | .n => .non
  | .s => .str "1"
  | .b c => .bl c
def Lf.d : Lf → PyData
  | .i z => .int z
  | .n => .none
  | .s => .str "1"
  | .b c => .bool c
def Lf.sm : Lf → Prop
  | .i z => z.natAbs < 10 ^ 13
  | _ => True
def Shw (d : PyData) : Prop := d.leavesShort 14 = true ∧ d.showable = true ∧ d.hasDict = false
theorem lf_dp {K : PySem.W.Frag} {H : Hp} : ∀ e : Lf, Dp K H e.v e.d
  | .i z => .int z
  | .n => .non
  | .s => .str _
  | .b c => .bl c
theorem lfs_dp {K : PySem.W.Frag} {H : Hp} : ∀ es : List Lf, DpAll K H (es.map Lf.v) (es.map Lf.d)
  | [] => .nil
  | e :: es => .cons (lf_dp e) (lfs_dp es)
theorem lf_shw : ∀ e : Lf, e.sm → Shw e.d ∧ e.d.bulk ≤ 14 ∧ e.d.depth ≤ 0 ∧ ∀ k, 0x110000 ≤ k → k ∉ e.d.shown.cps.toList
  | .i z, h => by
    refine ⟨⟨?_, ?_, rfl⟩, ?_, Nat.zero_le _, fun k hk => shown_int_free' (by omega) z⟩
    · show decide ((PyData.shown (.int z)).length ≤ 14) = true
      refine decide_eq_true ?_
      have e := PySem.int_text_length_le10 (k := 13) (by decide) h
      show (Str.ofString (toString z)).length ≤ 14
      rw [PySem.ofString_length]
      exact e
    · unfold PyData.showable Lf.d
      refine decide_eq_true ?_
      by_cases y : z.natAbs = 0
      · rw [y]
        decide
      · exact (Nat.log2_lt y).mpr (Nat.lt_of_lt_of_le h (show 10 ^ 13 ≤ 2 ^ 1920 by decide +kernel))
    · simp only [Lf.d, PyData.bulk]
      omega
  | .n, _ => ⟨⟨by decide +kernel, by decide +kernel, by decide +kernel⟩, by decide +kernel, by decide +kernel, fun k hk h => by
      have a : ∀ c ∈ (PyData.none).shown.cps.toList, c < 0x110000 := by decide +kernel
      have := a k h
      omega⟩
  | .s, _ => ⟨⟨by decide +kernel, by decide +kernel, by decide +kernel⟩, by decide +kernel, by decide +kernel, fun k hk h => by
      have a : ∀ c ∈ (PyData.str "1").shown.cps.toList, c < 0x110000 := by decide +kernel
      have := a k h
      omega⟩
  | .b c, _ => ⟨⟨by cases c <;> decide +kernel, by cases c <;> decide +kernel, by cases c <;> decide +kernel⟩, by cases c <;> decide +kernel, by cases c <;> decide +kernel, fun k hk h => by
      have a : ∀ y ∈ (PyData.bool c).shown.cps.toList, y < 0x110000 := by cases c <;> decide +kernel
      have := a k h
      omega⟩
theorem shw_all : ∀ {ds : List PyData}, (∀ d ∈ ds, Shw d) → PyData.leavesShortAll 14 ds = true ∧ PyData.showableAll ds = true ∧ PyData.hasDictAll ds = false
  | [], _ => ⟨rfl, rfl, rfl⟩
  | d :: ds, h => by
    obtain ⟨h1, h2, h3⟩ := h d (List.mem_cons_self ..)
    obtain ⟨i1, i2, i3⟩ := shw_all (ds := ds) fun e he => h e (List.mem_cons_of_mem _ he)
    refine ⟨?_, ?_, ?_⟩
    · simp only [PyData.leavesShortAll, h1, i1, Bool.and_self]
    · simp only [PyData.showableAll, h2, i2, Bool.and_self]
    · simp only [PyData.hasDictAll, h3, i3, Bool.or_self]
def sqD (l : Bool) (ds : List PyData) : PyData := if l = true then .list ds else .tuple ds
/-- repr of it: told, short, signs that may stand in a text -/
structure ShOk (d : PyData) : Prop where
  s : d.showable = true
  h : d.hasDict = false
  p : d.depth ≤ 60
  len : d.shown.length ≤ sizeLine
  lay : PyData.canLay0 (.str d.shown) = true
theorem lay_of {x : Str} (h : ∀ k, 0x110000 ≤ k → k ∉ x.cps.toList) : PyData.canLay0 (.str x) = true := by
  unfold PyData.canLay0 PyData.strOk
  exact (Array.all_eq_true_iff_forall_mem).mpr fun c hc => decide_eq_true (by
    by_cases z : c < 0x110000
    · exact z
    · exact absurd (Array.mem_toList_iff.mpr hc) (h c (by omega)))
theorem sh_leaf {e : Lf} (h : e.sm) : ShOk e.d := by
  obtain ⟨⟨h1, h2, h3⟩, h4, h5, h6⟩ := lf_shw e h
  refine ⟨h2, h3, by omega, ?_, lay_of h6⟩
  have := PyData.shown_le_bulk 14 (by decide) e.d h1
  rw [sizeLine_eq]
  omega
theorem sh_seq {l : Bool} {es : List Lf} (sm : ∀ e ∈ es, e.sm) (few : es.length ≤ 4) : ShOk (sqD l (es.map Lf.d)) := by
  have all : ∀ d ∈ es.map Lf.d, Shw d ∧ d.bulk ≤ 14 ∧ d.depth ≤ 0 ∧ ∀ k, 0x110000 ≤ k → k ∉ d.shown.cps.toList := fun d hd => by
    obtain ⟨e, he, rfl⟩ := List.mem_map.mp hd
    exact lf_shw e (sm e he)
  have ln : (es.map Lf.d).length ≤ 4 := by rw [List.length_map]; exact few
  generalize es.map Lf.d = ds at all ln
  obtain ⟨a1, a2, a3⟩ := shw_all fun d hd => (all d hd).1
  have bk := bulk_all fun d hd => (all d hd).2.1
  have dp := depth_all fun d hd => (all d hd).2.2.1
  have m := Nat.mul_le_mul_right (14 + 1) ln
  have fr : ∀ k, 0x110000 ≤ k → ∀ t ∈ PyData.shownAll ds, k ∉ t.cps.toList := fun k hk => shownAll_free fun x hx => (all x hx).2.2.2 k hk
  cases l with
  | true =>
    show ShOk (.list ds)
    refine ⟨by simpa only [PyData.showable] using a2, by simpa only [PyData.hasDict] using a3, by simp only [PyData.depth]; omega, ?_, lay_of fun k hk hm => ?_⟩
    · have := PyData.shown_le_bulk 14 (by decide) (.list ds) (by simpa only [PyData.leavesShort] using a1)
      simp only [PyData.bulk] at this
      rw [sizeLine_eq]
      omega
    · rw [PyData.shown_list, mem_cps_append, mem_cps_append, signs_lbrack, signs_rbrack, mem_join, signs_sep] at hm
      simp only [List.mem_cons, List.not_mem_nil, or_false] at hm
      rcases hm with (h | ⟨t, ht, hc⟩ | ⟨_, h⟩) | h
      · omega
      · exact fr k hk t ht hc
      · omega
      · omega
  | false =>
    show ShOk (.tuple ds)
    refine ⟨by simpa only [PyData.showable] using a2, by simpa only [PyData.hasDict] using a3, by simp only [PyData.depth]; omega, ?_, lay_of fun k hk hm => ?_⟩
    · have := PyData.shown_le_bulk 14 (by decide) (.tuple ds) (by simpa only [PyData.leavesShort] using a1)
      simp only [PyData.bulk] at this
      rw [sizeLine_eq]
      omega
    · rw [PyData.shown_tuple, mem_cps_append, mem_cps_append, signs_lparen, mem_join, signs_sep, signs_tuple_end] at hm
      simp only [List.mem_cons, List.not_mem_nil, or_false] at hm
      rcases hm with (h | ⟨t, ht, hc⟩ | ⟨_, h⟩) | h
      · omega
      · exact fr k hk t ht hc
      · omega
      · split at h
        · simp only [List.mem_cons, List.not_mem_nil, or_false] at h
          omega
        · simp only [List.mem_cons, List.not_mem_nil, or_false] at h
          omega
/-- values that are refused, and can be shown -/
def OddV (K : PySem.W.Frag) (H : Hp) (nr : Nat) (v : V) (d : PyData) : Prop := (v = .non ∧ d = .none) ∨ (v = .int 5 ∧ d = .int 5) ∨ (v = .str "1" ∧ d = .str "1") ∨
  ∃ b l, ∃ es : List Lf, v = .ref b ∧ d = sqD l (es.map Lf.d) ∧ (if l = true then SqL K H b (es.map Lf.v) else SqT K H b (es.map Lf.v)) ∧ es.length ≤ 4 ∧ (∀ e ∈ es, e.sm) ∧ ¬ (es.length = nr ∧ (es.map Lf.d).all numOk = true)
theorem OddV.kp {K : PySem.W.Frag} {H H' : Hp} {nr : Nat} {v : V} {d : PyData} (o : OddV K H nr v d) (k : Kp H H') : OddV K H' nr v d := by
  rcases o with h | h | h | ⟨b, l, es, e, e2, hs, h⟩
  · exact .inl h
  · exact .inr (.inl h)
  · exact .inr (.inr (.inl h))
  · refine .inr (.inr (.inr ⟨b, l, es, e, e2, ?_, h⟩))
    cases l with
    | true => exact k.sql hs
    | false => exact k.sqt hs
theorem OddV.dp {K : PySem.W.Frag} {H : Hp} {nr : Nat} {v : V} {d : PyData} (o : OddV K H nr v d) : Dp K H v d := by
  rcases o with ⟨rfl, rfl⟩ | ⟨rfl, rfl⟩ | ⟨rfl, rfl⟩ | ⟨b, l, es, rfl, rfl, hs, _⟩
  · exact .non
  · exact .int _
  · exact .str _
  · cases l with
    | true => exact .lst hs (lfs_dp es)
    | false => exact .tup hs (lfs_dp es)
theorem OddV.ok {K : PySem.W.Frag} {H : Hp} {nr : Nat} {v : V} {d : PyData} (o : OddV K H nr v d) : ShOk d := by
  rcases o with ⟨rfl, rfl⟩ | ⟨rfl, rfl⟩ | ⟨rfl, rfl⟩ | ⟨b, l, es, rfl, rfl, hs, few, sm, _⟩
  · exact sh_leaf (e := .n) trivial
  · exact sh_leaf (e := .i 5) (by show (5 : Int).natAbs < _; decide)
  · exact sh_leaf (e := .s) trivial
  · exact sh_seq sm few
theorem OddV.bad {K : PySem.W.Frag} {H : Hp} {nr : Nat} {v : V} {d : PyData} (o : OddV K H nr v d) : BadVs K H nr v := by
  rcases o with ⟨rfl, rfl⟩ | ⟨rfl, rfl⟩ | ⟨rfl, rfl⟩ | ⟨b, l, es, rfl, rfl, hs, few, sm, no⟩
  · exact .inl (.inl rfl)
  · exact .inl (.inr (.inl ⟨_, rfl⟩))
  · exact .inl (.inr (.inr ⟨_, rfl⟩))
  · refine .inr ⟨b, es.map Lf.v, es.map Lf.d, rfl, ?_, lfs_dp es, by rw [List.length_map]; omega, by rw [List.length_map]; exact no⟩
    cases l with
    | true => exact .inl hs
    | false => exact .inr hs
/-- a bound that is none -/
def OddM (K : PySem.W.Frag) (H : Hp) (v : V) (d : PyData) : Prop := (∃ e : Lf, v = e.v ∧ d = e.d ∧ e.sm ∧ numD d = false) ∨ (v = .str "3" ∧ d = .str "3") ∨ ∃ b, v = .ref b ∧ d = .tuple [.int 1] ∧ SqT K H b [.int 1]
theorem OddM.kp {K : PySem.W.Frag} {H H' : Hp} {v : V} {d : PyData} (o : OddM K H v d) (k : Kp H H') : OddM K H' v d := by
  rcases o with h | h | ⟨b, e, e2, hs⟩
  · exact .inl h
  · exact .inr (.inl h)
  · exact .inr (.inr ⟨b, e, e2, k.sqt hs⟩)
theorem OddM.dp {K : PySem.W.Frag} {H : Hp} {v : V} {d : PyData} (o : OddM K H v d) : Dp K H v d := by
  rcases o with ⟨e, rfl, rfl, _⟩ | ⟨rfl, rfl⟩ | ⟨b, rfl, rfl, hs⟩
  · exact lf_dp e
  · exact .str _
  · exact .tup hs (.cons (.int _) .nil)
theorem OddM.no {K : PySem.W.Frag} {H : Hp} {v : V} {d : PyData} (o : OddM K H v d) : numD d = false := by
  rcases o with ⟨e, rfl, rfl, _, h⟩ | ⟨rfl, rfl⟩ | ⟨b, rfl, rfl, hs⟩
  · exact h
  · rfl
  · rfl
theorem OddM.ok {K : PySem.W.Frag} {H : Hp} {v : V} {d : PyData} (o : OddM K H v d) : ShOk d := by
  rcases o with ⟨e, rfl, rfl, h, _⟩ | ⟨rfl, rfl⟩ | ⟨b, rfl, rfl, hs⟩
  · exact sh_leaf h
  · exact ⟨by decide +kernel, by decide +kernel, by decide +kernel, by decide +kernel, by decide +kernel⟩
  · exact sh_seq (l := false) (es := [.i 1]) (fun e he => by rw [List.mem_singleton.mp he]; show (1 : Int).natAbs < _; decide) (by decide)
theorem Shd.of {K : PySem.W.Frag} {H : Hp} {v : V} {d : PyData} (h : Dp K H v d) (o : ShOk d) : Shd K H v d.shown := ⟨d, h, o.s, o.h, o.p, o.len, rfl⟩
end K23

set_option Elab.async false
set_option linter.all false
set_option maxRecDepth 100000
set_option maxHeartbeats 4000000
namespace K23
open PySem PySem.Spec PyProof.Rows L2 Pen Tr AK LamX RL RU
abbrev rShr : R2 := fun x y H Q => ∃ (i : Int) (k : Nat), x = .int i ∧ y = .int (k : Int) ∧ Q (.int (i / 2 ^ k)) H
abbrev rOdd : R2 := fun x y H Q => ∃ n : Nat, x = .int (n : Int) ∧ y = .int 1 ∧ Q (.int ((n % 2 : Nat) : Int)) H
/-- a comprehension over a list or a tuple that tells one value for each -/
theorem lc_seq {K : PySem.W.Frag} {H : Hp} {σ : L2.St} {Q : VK} {a : Addr} {i : Nat} {xs ys : List V} {tl te : TE} (ly : ys.length = xs.length) (hx : SqL K H a xs ∨ SqT K H a xs) (few : xs.length ≤ 1000) (htl : ∀ R : VK, R (.ref a) H → tl σ H R) (hw : ∀ x, wipe ((wipe σ [i]).set i (some x)) [i] = wipe σ [i])
    (hs : ∀ (j : Nat) x y H1 (R : VK), xs[j]? = some x → ys[j]? = some y → R y H1 → te ((wipe σ [i]).set i (some x)) H1 R) (q : ∀ D H', Same H H' → H D = none → H' D = some (.lst ys) → Q (.ref D) H') : tLc (fun σ H R => iList K tl σ H R ∨ iTup K tl σ H R) (gName i) tYes te [i] σ H Q := by
  have go : ∀ D, H D = none → ∀ (j : Nat) (x : V) (H2 : Hp), xs[j]? = some x → (Same H H2 ∧ H2 D = some (.lst (ys.take j))) → te ((wipe σ [i]).set i (some x)) H2 fun y H4 => ∃ acc, H4 D = some (.lst acc) ∧ acc.length < sizeLine ∧ (fun j H' => Same H H' ∧ H' D = some (.lst (ys.take j))) (j + 1) (upd H4 D (.lst (acc ++ [y]))) := fun D nD j x H2 hj ⟨s, e⟩ => by
    have jl := (List.getElem?_eq_some_iff.mp hj).1
    have ey : ys[j]? = some ys[j] := List.getElem?_eq_getElem (by omega)
    refine hs j x _ H2 _ hj ey ⟨_, e, by rw [List.length_take, sizeLine_eq]; omega, fun b o e2 => ?_, ?_⟩
    · rw [upd_ne (ne_of_none e2 nD)]
      exact s _ _ e2
    · rw [upd_same, List.take_add_one, ey]
      rfl
  rcases hx with hx | hx
  · refine .inl (htl _ ⟨a, rfl, ⟨xs, hx⟩, fun D nD => ?_⟩)
    refine lc_it (walk_list (K := K) (a := a) (xs := xs)) (fun j H' => Same H H' ∧ H' D = some (.lst (ys.take j))) ⟨same_upd nD, upd_same⟩ (fun j H' _ p => Kp.sql (Kp.same p.1) hx) ?_ ?_
    · rintro j x H3 H2 hj p ⟨rfl, hx2⟩
      exact ⟨hw x, yes_if (go D nD j x _ hx2 p)⟩
    · rintro H2 ⟨s, e⟩
      rw [← ly, List.take_length] at e
      exact q D H2 s nD e
  · refine .inr (htl _ ⟨a, rfl, ⟨xs, hx⟩, fun D nD => ?_⟩)
    refine lc_it (walk_tup (K := K) (a := a) (xs := xs)) (fun j H' => Same H H' ∧ H' D = some (.lst (ys.take j))) ⟨same_upd nD, upd_same⟩ (fun j H' _ p => SqT.tups (same_tups p.1) hx) ?_ ?_
    · rintro j x H3 H2 hj p ⟨rfl, hx2⟩
      exact ⟨hw x, yes_if (go D nD j x _ hx2 p)⟩
    · rintro H2 ⟨s, e⟩
      rw [← ly, List.take_length] at e
      exact q D H2 s nD e
/-- how long the first row is -/
def lenR (ns : List Nat) : Nat := ns.foldl (fun m z => max m (bitsN z)) 2
theorem lenR_go : ∀ (ns : List Nat) (m : Nat), m ≤ ns.foldl (fun m z => max m (bitsN z)) m ∧ (∀ z ∈ ns, bitsN z ≤ ns.foldl (fun m z => max m (bitsN z)) m) ∧ (ns.foldl (fun m z => max m (bitsN z)) m = m ∨ ∃ z ∈ ns, ns.foldl (fun m z => max m (bitsN z)) m = bitsN z)
  | [], m => ⟨Nat.le_refl _, fun _ h => absurd h List.not_mem_nil, .inl rfl⟩
  | n :: ns, m => by
    obtain ⟨h1, h2, h3⟩ := lenR_go ns (max m (bitsN n))
    rw [List.foldl_cons]
    generalize ns.foldl (fun m z => max m (bitsN z)) (max m (bitsN n)) = r at h1 h2 h3
    refine ⟨by omega, fun z hz => ?_, ?_⟩
    · rcases List.mem_cons.mp hz with rfl | hz
      · omega
      · exact h2 z hz
    · rcases h3 with h3 | ⟨z, hz, h3⟩
      · by_cases c : bitsN n ≤ m
        · exact .inl (by omega)
        · exact .inr ⟨n, List.mem_cons_self .., by omega⟩
      · exact .inr ⟨z, List.mem_cons_of_mem _ hz, h3⟩
theorem lenR_of {ns : List Nat} {m : Nat} (h1 : 2 ≤ m) (h2 : ∀ z ∈ ns, bitsN z ≤ m) (h3 : m = 2 ∨ ∃ z ∈ ns, m = bitsN z) : m = lenR ns := by
  obtain ⟨g1, g2, g3⟩ := lenR_go ns 2
  unfold lenR
  generalize ns.foldl (fun m z => max m (bitsN z)) 2 = r at g1 g2 g3
  rcases h3 with h3 | ⟨z, hz, h3⟩
  · rcases g3 with g3 | ⟨y, hy, g3⟩
    · omega
    · have := h2 y hy
      omega
  · have := g2 z hz
    rcases g3 with g3 | ⟨y, hy, g3⟩
    · omega
    · have := h2 y hy
      omega
theorem lenR_le {ns : List Nat} {b : Nat} (hb : 2 ≤ b) (h : ∀ z ∈ ns, bitsN z ≤ b) : lenR ns ≤ b := by
  obtain ⟨g1, g2, g3⟩ := lenR_go ns 2
  unfold lenR
  generalize ns.foldl (fun m z => max m (bitsN z)) 2 = r at g1 g2 g3
  rcases g3 with g3 | ⟨y, hy, g3⟩
  · omega
  · have := h y hy
    omega
theorem lenR_ge (ns : List Nat) : 2 ≤ lenR ns := (lenR_go ns 2).1
theorem bits_le {z b : Nat} (h : z < 2 ^ b) : bitsN z ≤ b := by
  by_cases c : b < bitsN z
  · have := (bitsN_lt z b).mp c
    omega
  · omega
theorem PrAt.kp {K : PySem.W.Frag} {CP : Addr} {H H' : Hp} {a : Addr} {t : Str} {rs cs : List Str} {os : List (List V)} (h : PrAt K CP H a t rs cs os) (k : Kp H H') : PrAt K CP H' a t rs cs os := by
  obtain ⟨dx, pr, pc, po, xs, ha, hpr, hpc, hpo, hos⟩ := h
  exact ⟨dx, pr, pc, po, xs, k.ins ha, k.sqt hpr, k.sqt hpc, k.sqt hpo, hos.tups k.tups⟩
def natI (ns : List Nat) : List Int := ns.map fun z : Nat => (z : Int)
theorem natI_at {ns : List Nat} {j : Nat} {x : V} (h : ((natI ns).map V.int)[j]? = some x) : ∃ z : Nat, z ∈ ns ∧ x = .int z ∧ ns[j]? = some z := by
  unfold natI at h
  rw [List.map_map, List.getElem?_map] at h
  obtain ⟨z, hz, rfl⟩ := Option.map_eq_some_iff.mp h
  exact ⟨z, List.mem_of_getElem? hz, rfl, hz⟩
def firstR (ns : List Nat) (c : Str) : List (List Int × Str) := rowM ns (List.replicate (lenR ns) c)
section
variable {P : Program} {w : World} {K : PySem.W.Frag} {mg : Str → Option PySem.Value} {base : Heap} {f fCv CP CN : Addr} {fd fdCv : FuncData} {H H' : Hp}
def spFr (K : PySem.W.Frag) (CP CN : Addr) : Sp := fun vs H Q E => ∃ a t rs cs os v, vs = [.ref a, v] ∧ PrAt K CP H a t rs cs os ∧ 1 ≤ rs.length ∧ rs.length ≤ 3 ∧ cs ≠ [] ∧
  ((BadVs K H rs.length v ∧ NumE CN E H "values" v) ∨ ∃ ns : List Nat, GoodVs K H rs.length v (natI ns) ∧ ∀ p H', Same H H' → RowT K H' p (firstR ns (cs.getD 0 "")) → Q (.ref p) H')
abbrev nFr : List Str := ["program", "values", "length", "colour", "value", "column"]
theorem scFr : FnScope nFr ["program", "values"] (defScope (top 45)) := ⟨rfl, rfl, rfl, by decide +kernel, rfl, by decide +kernel, by decide +kernel⟩
theorem ok_Fr (F : FnT K "first_row" 45 f fd) (TX : Txt mg) (PF : PrF K CP)
    (FCv : FnT K "check_values" 30 fCv fdCv) (gCv : mg "check_values" = some (.ref fCv)) (GCv : FnOk P w K mg base (L2.CX P w) 3 fCv fdCv ["program", "values"] (spCv K CP CN)) : FnOk P w K mg base (L2.CX P w) 4 f fd ["program", "values"] (spFr K CP CN) := by
  refine F.ok scFr (fun vs H Q E h => by obtain ⟨a, t, rs, cs, os, v, rfl, _⟩ := h; rfl) (fun cdv A outer s0 H vs Q E hr h => ?_)
  obtain ⟨a, t, rs, cs, os, v, rfl, pa, r1, r3, cne, q⟩ := h
  have nd := scFr.nd
  have hu := hr.units
  have hu1 := hu_of hr
  have bCv : L2.Binds K fdCv ["program", "values"] [] := FunD.bindsN FCv fun _ _ _ _ _ _ us hl => match us, hl with | [_, _], _ => rfl
  refine ⟨_, pss_cons (ps_expr (pe_callS GCv (hr.mono (by decide)) (by rfl) gCv FCv.kp bCv (fun σ => passAt (takes_of rfl rfl rfl rfl) σ) (pa_cons (pv 0) (pa_cons (pv 1) pa_nil))))
    (pss_cons (ps_asg (pe_callB (call_max2 rfl) (by rfl) TX.max (by decide +kernel) (pa_cons pe_int (pa_cons (pe_callB (cr_max rfl) (by rfl) TX.max (by decide +kernel) (pa_cons (pe_lc (own := [("value", 4)]) (g := gName 4) (tt := tYes) (te := tBits (tVar 4)) (by rfl) nd (pi_or (pi_list (pv 1)) (pi_tup (pv 1))) (blkOk_by (own := [("value", 4)]) (by kernel_rfl)) (fun _ _ _ _ _ => (pg_name (i := 4) nd rfl (.inl rfl))) (fun _ _ _ _ _ => pts_nil) (fun _ _ _ _ _ => (pe_bits (pv 4)))) pa_nil)) pa_nil))) (pg_name (i := 2) nd rfl (.inl rfl)))
    (pss_cons (ps_asg (pe_ix ix_tup (pe_fld (pv 0) rfl) pe_int (fun _ _ => rfl)) (pg_name (i := 3) nd rfl (.inr rfl)))
    (pss_one (ps_ret (pe_callTy call_tupR (by rfl) TX.tuple (by decide +kernel) (pa_cons (pe_lc (own := [("column", 5)]) (g := gName 5) (tt := tYes) (te := (tTup (tCons (tCB (rTupOf K) (tCons (tLc (fun σ H R => iList K (tVar 1) σ H R ∨ iTup K (tVar 1) σ H R) (gName 4) tYes (tOp rOdd (tOp rShr (tVar 4) (tVar 5)) (tC (.int 1))) [4]) tNil)) (tCons (tVar 3) tNil)))) (by rfl) nd (pi_range1 (by rfl) TX.range (pa_cons (pv 2) pa_nil)) (blkOk_by (own := [("column", 5)]) (N := nFr) (sc := defScope (top 45)) (by decide +kernel)) (fun _ _ _ _ _ => (pg_name (i := 5) nd rfl (.inr rfl))) (fun _ _ _ _ _ => pts_nil) (fun _ _ _ _ _ => (pe_tup (pa_cons (pe_callTy call_tupR (by rfl) TX.tuple (by decide +kernel) (pa_cons (pe_lc (own := [("value", 4)]) (g := gName 4) (tt := tYes) (te := (tOp rOdd (tOp rShr (tVar 4) (tVar 5)) (tC (.int 1)))) (by rfl) nd (pi_or (pi_list (pv 1)) (pi_tup (pv 1))) (blkOk_by (own := [("value", 4)]) (by kernel_rfl)) (fun _ _ _ _ _ => (pg_name (i := 4) nd rfl (.inl rfl))) (fun _ _ _ _ _ => pts_nil) (fun _ _ _ _ _ => (pe_op op_odd (pe_op op_shrN (pv 4) (pv 5)) pe_int))) pa_nil)) (pa_cons (pv 3) pa_nil))))) pa_nil)))))), ?_⟩
  clear bCv
  have oR : ∀ H1, Same H H1 → PrAt K CP H1 a t rs cs os := fun H1 s => pa.kp (.same s)
  rcases q with ⟨bad, ne⟩ | ⟨ns, ⟨⟨b, rfl, hb⟩, hlen, hnum⟩, q⟩
  · refine ⟨_, rfl, _, rfl, a, t, rs, cs, os, v, rfl, pa, ?_⟩
    rcases bad with h | ⟨b, ys, ds, e, h1, h2, h3, h4⟩
    · exact .inl ⟨h, fun dd H' s e => ne dd H' s e⟩
    · exact .inr ⟨b, ys, ds, e, h1, h2, h3, by rw [if_neg h4]; exact fun dd H' s e => ne dd H' s e⟩
  · have ni : (natI ns).length = ns.length := List.length_map _
    have nl : ns.length = rs.length := by rw [← hlen, ni]
    have nl2 : ((natI ns).map V.int).length = ns.length := by rw [List.length_map, ni]
    refine ⟨_, rfl, _, rfl, a, t, rs, cs, os, _, rfl, pa, .inr ⟨b, (natI ns).map V.int, (natI ns).map PyData.int, rfl, hb, dp_ints _, by rw [List.length_map]; omega, ?_⟩⟩
    rw [if_pos ⟨by rw [List.length_map, hlen], ints_all hnum⟩]
    intro H1 s1
    have hb1 : SqL K H1 b ((natI ns).map V.int) ∨ SqT K H1 b ((natI ns).map V.int) := hb.imp (fun h => Kp.sql (Kp.same s1) h) (fun h => SqT.tups (same_tups s1) h)
    dsimp only
    refine RP.sq_asg (RP.cb_ (RP.tc_ (RP.cst_ (RP.tc_ (RP.cb_ (RP.tc_ ?_))))))
    refine lc_seq (a := b) (xs := (natI ns).map V.int) (tl := tVar 1) (i := 4) (ys := (ns.map fun z : Nat => V.int ((bitsN z : Nat) : Int))) (by rw [List.length_map, nl2]) hb1 (by rw [nl2]; omega) ?_ ?_ ?_ ?_
    · exact fun R r => ⟨_, rfl, r⟩
    · exact fun _ => rfl
    · intro j x y H2 R hx hy r
      obtain ⟨z, hz, rfl, hz2⟩ := natI_at hx
      rw [List.getElem?_map, hz2] at hy
      obtain rfl := Option.some.inj hy
      exact ⟨_, rfl, _, rfl, r⟩
    · intro D H2 s2 nD hD
      refine ⟨D, ns.map fun z => ((bitsN z : Nat) : Int), rfl, SqL.of (by rw [List.map_map]; exact hD), by rw [List.length_map]; omega, fun m hm hall => ⟨_, _, rfl, ?_⟩⟩
      obtain ⟨z0, hz0, rfl⟩ := List.mem_map.mp hm
      have eL : (if ((bitsN z0 : Nat) : Int) > 2 then ((bitsN z0 : Nat) : Int) else 2) = ((lenR ns : Nat) : Int) := by
        have := lenR_of (ns := ns) (m := max 2 (bitsN z0)) (by omega) (fun z hz => by have := hall _ (List.mem_map.mpr ⟨z, hz, rfl⟩); omega) (by
          by_cases c : bitsN z0 ≤ 2
          · exact .inl (by omega)
          · exact .inr ⟨z0, hz0, by omega⟩)
        split <;> omega
      rw [eL]
      have few : lenR ns ≤ 40 := lenR_le (by decide) fun z hz => bits_le (by
        have := (hnum z (List.mem_map.mpr ⟨z, hz, rfl⟩)).2
        have e : (2 : Int) ^ 40 = ((2 ^ 40 : Nat) : Int) := by decide
        omega)
      have s02 := same_trans s1 s2
      obtain ⟨dx, pr, pc, po, xs, ha, hpr, hpc, hpo, hos⟩ := oR H2 s02
      obtain ⟨c0, ct, rfl⟩ : ∃ c0 ct, cs = c0 :: ct := by
        cases cs with
        | nil => exact absurd rfl cne
        | cons c0 ct => exact ⟨c0, ct, rfl⟩
      refine ⟨_, rfl, a, CP, dx, _, .ref pc, rfl, ha, PF.cl, PF.co, rfl, pc, _, ((0 : Nat) : Int), .str c0, rfl, rfl, hpc, L2.atI_nat rfl, ?_⟩
      have hb2 : SqL K H2 b ((natI ns).map V.int) ∨ SqT K H2 b ((natI ns).map V.int) := hb1.imp (fun h => Kp.sql (Kp.same s2) h) (fun h => SqT.tups (same_tups s2) h)
      refine ⟨_, rfl, lenR ns, rfl, by omega, by omega, fun D2 nD2 => ?_⟩
      change H2 D2 = none at nD2
      have rl : (firstR ns c0).length = lenR ns := by
        unfold firstR rowM
        rw [List.length_map, List.length_range, List.length_replicate]
      refine lc_it (walk_range (lo := 0) (n := lenR ns)) (fun i H' => Same H2 H' ∧ ∃ xs, H' D2 = some (.lst xs) ∧ RowV K H' ((firstR ns c0).take i) xs ∧ xs.length = i) ⟨same_upd nD2, [], upd_same, .nil, rfl⟩ (fun _ _ _ _ => trivial) ?_ ?_
      · rintro i x H3 H4 hi ⟨s3, xs, hD2, rv, xl⟩ ⟨rfl, rfl⟩
        refine ⟨rfl, yes_if ?_⟩
        have hb3 : SqL K H4 b ((natI ns).map V.int) ∨ SqT K H4 b ((natI ns).map V.int) := hb2.imp (fun h => Kp.sql (Kp.same s3) h) (fun h => SqT.tups (same_tups s3) h)
        have lc : ((cellD ns i).map V.int).length = ns.length := by
          rw [List.length_map]
          exact List.length_map _
        show tTup _ _ _ _
        refine RP.tup_ (RP.tc_ (RP.cb_ (RP.tc_ ?_)))
        refine lc_seq (a := b) (xs := (natI ns).map V.int) (tl := tVar 1) (i := 4) (ys := (cellD ns i).map V.int) (by rw [lc, nl2]) hb3 (by rw [nl2]; omega) ?_ ?_ ?_ ?_
        · exact fun R r => ⟨_, rfl, r⟩
        · exact fun _ => rfl
        · intro j x y H5 R hx hy r
          obtain ⟨z, hz, rfl, hz2⟩ := natI_at hx
          have ey : y = .int ((z / 2 ^ i % 2 : Nat) : Int) := by
            unfold cellD at hy
            rw [List.map_map, List.getElem?_map, hz2] at hy
            exact (Option.some.inj hy).symm
          subst ey
          refine ⟨_, rfl, _, rfl, _, i, rfl, congrArg V.int (Int.zero_add _), z / 2 ^ i, congrArg V.int ?_, rfl, r⟩
          rw [Int.natCast_ediv, Int.natCast_pow]
          rfl
        · intro D3 H5 s5 nD3 hD3
          refine ⟨D3, _, rfl, .inl (SqL.of hD3), fun r2 H6 s6 h6 => ⟨_, rfl, (by show 2 ≤ sizeLine; decide), fun r nr => ?_⟩⟩
          have s7 := same_upd (o := .tup [.ref r2, .str c0]) nr
          have s47 := same_trans s5 (same_trans s6 s7)
          have hD7 := s47 _ _ hD2
          have tu := Tups.upd (o := .lst (xs ++ [.ref r])) (lst_ntup hD7)
          refine ⟨xs, hD7, by rw [xl, sizeLine_eq]; omega, fun b o e => ?_, xs ++ [.ref r], upd_same, ?_, by rw [List.length_append, xl]; rfl⟩
          · rw [upd_ne (ne_of_none e nD2)]
            exact s47 _ _ (s3 _ _ e)
          · have er : (firstR ns c0)[i]? = some (cellD ns i, c0) := by
              unfold firstR rowM
              rw [List.length_replicate, List.getElem?_map, List.getElem?_range hi, Option.map_some, List.getD_eq_getElem?_getD, List.getElem?_replicate, if_pos hi]
              rfl
            rw [List.take_add_one, er]
            exact paired_app ((rv.tups (same_tups s47)).tups tu) (.cons ⟨r, r2, rfl, SqT.tups tu (SqT.of upd_same), SqT.tups tu (SqT.tups (same_tups s7) h6)⟩ .nil)
      · rintro H3 ⟨s3, xs, hD2, rv, xl⟩
        refine ⟨D2, _, rfl, .inl (SqL.of hD2), fun p H4 s4 hp => q p H4 (same_trans s02 (same_trans s3 s4)) ⟨xs, hp, ?_⟩⟩
        rw [← rl, List.take_length] at rv
        exact rv.tups (same_tups s4)
end
end K23

set_option Elab.async false
set_option linter.all false
set_option maxRecDepth 100000
set_option maxHeartbeats 4000000
namespace K23
open PySem PySem.Spec PyProof.Rows L2 Pen Tr AK LamX RL RU
theorem natI_of : ∀ {ns : List Int}, (∀ z ∈ ns, 0 ≤ z ∧ z < 2 ^ 40) → ∃ ms : List Nat, ns = natI ms ∧ ms.length = ns.length ∧ ∀ z ∈ ms, z < 2 ^ 40
  | [], _ => ⟨[], rfl, rfl, fun _ h => absurd h List.not_mem_nil⟩
  | n :: ns, h => by
    obtain ⟨ms, e, l, lt⟩ := natI_of (ns := ns) fun z hz => h z (List.mem_cons_of_mem _ hz)
    obtain ⟨h0, h1⟩ := h n (List.mem_cons_self ..)
    have e40 : (2 : Int) ^ 40 = ((2 ^ 40 : Nat) : Int) := by decide
    refine ⟨n.toNat :: ms, ?_, by rw [List.length_cons, List.length_cons, l], fun z hz => ?_⟩
    · show n :: ns = ((n.toNat : Nat) : Int) :: natI ms
      rw [← e, show ((n.toNat : Nat) : Int) = n from Int.toNat_of_nonneg h0]
    · rcases List.mem_cons.mp hz with rfl | hz
      · omega
      · exact lt z hz
theorem val_rng {ns : List Nat} {k : Nat} (hk : k < ns.length) (f : Nat → Str) : ∀ m i, valN k ((List.range' i m).map fun j => (cellD ns j, f j)) = ((ns[k] / 2 ^ i % 2 ^ m : Nat) : Int)
  | 0, i => by
    rw [Nat.pow_zero, Nat.mod_one]
    rfl
  | m + 1, i => by
    rw [List.range'_succ, List.map_cons]
    show 2 * valN k ((List.range' (i + 1) m).map fun j => (cellD ns j, f j)) + (cellD ns i).getD k 0 = _
    rw [val_rng hk f m (i + 1)]
    have e : (cellD ns i).getD k 0 = ((ns[k] / 2 ^ i % 2 : Nat) : Int) := by
      unfold cellD
      rw [List.getD_eq_getElem?_getD, List.getElem?_map, List.getElem?_eq_getElem hk]
      rfl
    rw [e, Nat.pow_succ 2 i, ← Nat.div_div_eq_div_mul]
    generalize ns[k] / 2 ^ i = z
    have h := Nat.mod_mul (a := 2) (b := 2 ^ m) (x := z)
    rw [Nat.pow_succ, Nat.mul_comm (2 ^ m) 2, h]
    omega
theorem val_first {ns : List Nat} {k : Nat} (hk : k < ns.length) (c : Str) : valN k (firstR ns c) = ((ns[k] : Nat) : Int) := by
  unfold firstR rowM
  rw [List.length_replicate, List.range_eq_range', val_rng hk _ _ 0, Nat.pow_zero, Nat.div_one]
  have h1 := (lenR_go ns 2).2.1 ns[k] (List.getElem_mem hk)
  have h2 : ns[k] < 2 ^ lenR ns := by
    by_cases c : 2 ^ lenR ns ≤ ns[k]
    · have := (bitsN_lt ns[k] (lenR ns)).mpr c
      unfold lenR at this
      omega
    · omega
  rw [Nat.mod_eq_of_lt h2]
theorem vals_first {ns : List Nat} (c : Str) : valsN ns.length (firstR ns c) = natI ns := by
  unfold valsN natI
  refine List.ext_getElem (by rw [List.length_map, List.length_map, List.length_range]) fun i h1 h2 => ?_
  have hi : i < ns.length := by rwa [List.length_map] at h2
  rw [List.getElem_map, List.getElem_map, List.getElem_range, val_first hi]
theorem tot_val (k : Nat) : ∀ (cs : List (List Int × Str)) (i : Nat), (∀ c ∈ cs, ∃ d, c.1[k]? = some d ∧ (d = 0 ∨ d = 1)) → totN k cs i = 2 ^ i * valN k cs
  | [], i, _ => by
    show (0 : Int) = _ * 0
    rw [Int.mul_zero]
  | c :: r, i, h => by
    obtain ⟨d, e, hd⟩ := h c (List.mem_cons_self ..)
    have ih := tot_val k r (i + 1) fun c hc => h c (List.mem_cons_of_mem _ hc)
    show (if c.1[k]? = some 1 then (2 : Int) ^ i else 0) + totN k r (i + 1) = 2 ^ i * (2 * valN k r + c.1.getD k 0)
    rw [ih, List.getD_eq_getElem?_getD, e, Int.pow_succ]
    generalize (2 : Int) ^ i = t
    generalize valN k r = v
    rcases hd with rfl | rfl
    · rw [if_neg (by decide)]
      show 0 + t * 2 * v = t * (2 * v + 0)
      rw [Int.zero_add, Int.add_zero, Int.mul_assoc]
    · rw [if_pos rfl]
      show t + t * 2 * v = t * (2 * v + 1)
      rw [Int.mul_add, Int.mul_one, Int.mul_assoc, Int.add_comm]
/-! ### rows as data -/
def rowD (cs : List (List Int × Str)) : PyData := .tuple (cs.map fun c => .tuple [.tuple (c.1.map .int), .str c.2])
theorem rows_dp {K : PySem.W.Frag} {H : Hp} : ∀ {cs : List (List Int × Str)} {xs : List V}, RowV K H cs xs → DpAll K H xs (cs.map fun c => .tuple [.tuple (c.1.map .int), .str c.2])
  | _, _, .nil => .nil
  | _, _, .cons ⟨r, r2, e, h1, h2⟩ hs => by
    subst e
    exact .cons (.tup h1 (.cons (.tup h2 (dp_ints _)) (.cons (.str _) .nil))) (rows_dp hs)
theorem row_dp {K : PySem.W.Frag} {H : Hp} {p : Addr} {cs : List (List Int × Str)} (h : RowT K H p cs) : Dp K H (.ref p) (rowD cs) := by
  obtain ⟨xs, h1, h2⟩ := h
  exact .tup h1 (rows_dp h2)
theorem lay_tup {m : Nat} {ds : List PyData} (h : ∀ d ∈ ds, d.canLay0 = true ∧ d.depth ≤ m) : PyData.canLay0 (.tuple ds) = true ∧ (PyData.tuple ds).depth ≤ m + 1 := by
  obtain ⟨h1, h2⟩ := lay_all h
  refine ⟨by simpa only [PyData.canLay0] using h1, by simp only [PyData.depth]; omega⟩
theorem ints_lay (ns : List Int) : PyData.canLay0 (.tuple (ns.map .int)) = true ∧ (PyData.tuple (ns.map .int)).depth ≤ 1 := lay_tup (m := 0) fun d hd => by
  obtain ⟨z, _, rfl⟩ := List.mem_map.mp hd
  exact ⟨rfl, Nat.le_refl _⟩
theorem ints_shT (ns : List Int) : SeqAt.shaped (.tuple (ns.map .int)) = true := shaped_tuple fun d hd => by
  obtain ⟨z, _, rfl⟩ := List.mem_map.mp hd
  exact ⟨rfl, Nat.zero_le _⟩
theorem row_sh {cs : List (List Int × Str)} (h : ∀ c ∈ cs, PyData.canLay0 (.str c.2) = true) : SeqAt.shaped (rowD cs) = true := shaped_tuple fun d hd => by
  obtain ⟨c, hc, rfl⟩ := List.mem_map.mp hd
  have a := lay_tup (m := 1) (ds := [.tuple (c.1.map .int), .str c.2]) fun d hd => by
    simp only [List.mem_cons, List.not_mem_nil, or_false] at hd
    rcases hd with rfl | rfl
    · exact ints_lay _
    · exact ⟨h c hc, Nat.zero_le _⟩
  exact ⟨a.1, Nat.le_trans a.2 (by decide)⟩
theorem sign_small : ∀ c ∈ (lowS.cps.toList ++ figS.cps.toList), c < 0x110000 := by decide +kernel
theorem nm_lay {x : Str} (h : isNm x = true) : PyData.canLay0 (.str x) = true := lay_of fun k hk hm => by
  unfold isNm at h
  have h2 := (Bool.and_eq_true_iff.mp (Bool.and_eq_true_iff.mp h).2).2
  have h3 := List.all_eq_true.mp h2 k hm
  unfold signOk at h3
  have m : k ∈ lowS.cps.toList ++ figS.cps.toList := List.mem_append.mpr ((Bool.or_eq_true_iff.mp h3).imp of_decide_eq_true of_decide_eq_true)
  have := sign_small k m
  omega
end K23

set_option Elab.async false
set_option linter.all false
set_option maxRecDepth 100000
set_option maxHeartbeats 4000000
namespace K23
open PySem PySem.Spec PyProof.Rows L2 Pen Tr AK LamX RL RU
section
variable {P : Program} {w : World} {K : PySem.W.Frag} {mg : Str → Option PySem.Value} {base : Heap} {f fFr CP CN : Addr} {fd fdFr : FuncData} {H H' : Hp}
/-- numbers that are refused -/
def spSw (K : PySem.W.Frag) (CP CN : Addr) : Sp := fun vs H Q E => ∃ a t rs cs os v, vs = [.ref a, v] ∧ PrAt K CP H a t rs cs os ∧ 1 ≤ rs.length ∧ rs.length ≤ 3 ∧ cs ≠ [] ∧ BadVs K H rs.length v ∧ NumE CN E H "values" v
abbrev nSw : List Str := ["program", "values", "first", "letters", "begin", "steps", "turns", "todo", "state", "direction", "letter"]
theorem scSw : FnScope nSw ["program", "values"] (defScope (top 49)) := ⟨rfl, rfl, rfl, by decide +kernel, rfl, by decide +kernel, by decide +kernel⟩
theorem ok_Sw (F : FnT K "sweeps_of" 49 f fd) (TX : Txt mg)
    (FFr : FnT K "first_row" 45 fFr fdFr) (gFr : mg "first_row" = some (.ref fFr)) (GFr : FnOk P w K mg base (L2.CX P w) 4 fFr fdFr ["program", "values"] (spFr K CP CN)) : FnOk P w K mg base (L2.CX P w) 5 f fd ["program", "values"] (spSw K CP CN) := by
  refine F.ok scSw (fun vs H Q E h => by obtain ⟨a, t, rs, cs, os, v, rfl, _⟩ := h; rfl) (fun cdv A outer s0 H vs Q E hr h => ?_)
  obtain ⟨a, t, rs, cs, os, v, rfl, pa, r1, r3, cne, bad, ne⟩ := h
  have nd := scSw.nd
  have bFr : L2.Binds K fdFr ["program", "values"] [] := FunD.bindsN FFr fun _ _ _ _ _ _ us hl => match us, hl with | [_, _], _ => rfl
  refine ⟨_, pss_cons (ps_asg (pe_callS GFr (hr.mono (by decide)) (by rfl) gFr FFr.kp bFr (fun σ => passAt (takes_of rfl rfl rfl rfl) σ) (pa_cons (pv 0) (pa_cons (pv 1) pa_nil))) (pg_name (i := 2) nd rfl (.inl rfl))) L2.pss_never, ?_⟩
  exact ⟨_, rfl, _, rfl, a, t, rs, cs, os, v, rfl, pa, r1, r3, cne, .inl ⟨bad, fun dd H' s e => ne dd H' s e⟩⟩
end
end K23

set_option Elab.async false
set_option linter.all false
set_option maxRecDepth 100000
set_option maxHeartbeats 4000000
namespace K23
open PySem PySem.Spec PyProof.Rows L2 Pen
def spDrW : Sp := fun vs H Q _ => ∃ (p l : Addr) (n : Nat) (m : Int), vs = [.ref p, .int m] ∧ PenAt H p l n ∧ n ≤ 1000000 ∧ 1 ≤ m ∧ m < 2 ^ 60 ∧
  ∀ r H', 0 ≤ r → r < m → PenAt H' p l (n + 1) → But p H H' → Q (.int r) H'
section
variable {P : Program} {w : World} {K : PySem.W.Frag} {mg : Str → Option PySem.Value} {base : Heap} {f : Addr} {fd : FuncData}
theorem ok_drawW (F : FnP K "_law_draw" sDraw f fd) (T : Txt mg) : FnOk P w K mg base CX0 1 f fd ["_law_pen_here", "_law_many"] spDrW := by
  refine F.ok scDraw (fun vs H Q E h => ?_) (fun cdv A outer s H vs Q E hr h => ?_)
  · obtain ⟨a, _, ns, _, rfl, _⟩ := h
    rfl
  · obtain ⟨p, l, n, m, rfl, ⟨cells, at_, dg, ct, fo, PV, cn⟩, hn, m1, m2, k⟩ := h
    have nd := scDraw.nd
    have hu := hu_of hr
    suffices z : ∃ t, PSs (cxOf CX0 P w K mg base nDraw "_law_draw" (defScope sDraw) f cdv A outer s H E).nox (defBody sDraw) t ∧ t { nx := fun _ H' => Q .non H', rt := Q } (start nDraw [.ref p, .int m]) H by
      obtain ⟨t, h1, h2⟩ := z
      exact ⟨t, h1.nox, h2⟩
    refine ⟨_, pss_cons (ps_dput hu (pv 0) pe_str (pe_op op_add (pe_dget hu (pv 0) pe_str (fun _ _ => rfl)) pe_int) rfl)
      (C8.pss_cut (ps_if (PW.pt (pw_and (pt_cmpR op_eq (pe_dget hu (pv 0) pe_str (fun _ _ => rfl)) pe_int (nomark _))
          (pw_and1 (pt_cmpR op_lt (pe_dget hu (pv 0) pe_str (fun _ _ => rfl)) (pe_callB call_len_seq (by rfl) T.len PySem.boot_len (pa_cons (pe_dget hu (pv 0) pe_str (fun _ _ => rfl)) pa_nil)) (nomark _)))))
        (pss_cons (ps_set (i := 2) nd rfl (.inl rfl) (pe_ix ix_list (pe_dget hu (pv 0) pe_str (fun _ _ => rfl)) (pe_dget hu (pv 0) pe_str (fun _ _ => rfl)) (fun _ _ => rfl)))
        (pss_cons (ps_dput hu (pv 0) pe_str (pe_op op_add (pe_dget hu (pv 0) pe_str (fun _ _ => rfl)) pe_int) rfl)
        (pss_one (ps_if (pt_cmpR op_ge (pv 2) (pe_op op_pow pe_int pe_int) (nomark _))
          (pss_one (ps_dput hu (pv 0) pe_str (pe_op op_sub (pv 2) (pe_op op_pow pe_int pe_int)) rfl))
          (pss_one (ps_dput hu (pv 0) pe_str (pe_op op_mod (pe_callTy call_int1 (by rfl) T.int (by decide +kernel) (pa_cons (pe_op op_add (pe_op op_mul (pe_dget hu (pv 0) pe_str (fun _ _ => rfl)) pe_int) (pv 2)) pa_nil)) pe_int) rfl))))))
        pss_nil)
      (pss_cons (ps_if (pt_cmpR op_gt (pe_dget hu (pv 0) pe_str (fun _ _ => rfl)) pe_int (nomark _))
        (pss_cons (ps_set (i := 3) nd rfl (.inl rfl) (pe_op op_mod (pe_callTy call_int1 (by rfl) T.int (by decide +kernel) (pa_cons (pe_dget hu (pv 0) pe_str (fun _ _ => rfl)) pa_nil)) (pv 1)))
        (pss_cons (ps_dput hu (pv 0) pe_str (pe_op op_fdivW (pe_dget hu (pv 0) pe_str (fun _ _ => rfl)) (pv 1)) rfl)
        (pss_one (ps_ret (pv 3)))))
        pss_nil)
      (pss_cons (ps_set (i := 4) nd rfl (.inl rfl) (pe_op op_add (pe_op op_add (pe_dget hu (pv 0) pe_str (fun _ _ => rfl)) (pe_op op_mul (pe_dget hu (pv 0) pe_str (fun _ _ => rfl)) pe_int)) pe_int))
      (pss_one (ps_ret (pe_op op_mod (pe_op op_fdiv (pe_callTy call_int1 (by rfl) T.int (by decide +kernel) (pa_cons (pe_op op_mod (pe_op op_pow (pv 4) pe_int) pe_int) pa_nil)) pe_int) (pv 1))))))), ?_⟩
    -- count
    refine ⟨_, rfl, p, _, rfl, gCount PV.di, _, _, rfl, rfl, _, rfl, p, _, rfl, pCount PV.di, ?_⟩
    have P1 := PV.set (c' := ct + 1) PV.a0 PV.d0 (by have := PV.c0; omega) PV.f0 PV.f1
    -- behind the draw of a cell
    refine ⟨fun σ H2 => ∃ (v : Option V) (a d f : Int), σ = [some (.ref p), some (.int m), v, none, none] ∧ PenV H2 p l cells a d (ct + 1) f ∧ But p H H2, ?_, ?_⟩
    · refine ⟨_, rfl, p, _, rfl, gDigits P1.di, rfl, _, rfl, ?_⟩
      by_cases hd : dg = 0
      · subst hd
        refine iteT ⟨_, rfl, p, _, rfl, gAt P1.di, _, rfl, p, _, rfl, gCells P1.di, l, _, rfl, .inl (.of P1.li), _, _, rfl, rfl, _, rfl, ?_⟩
        by_cases hlt : at_ < ((cells.map V.int).length : Int)
        · rw [decide_eq_true hlt]
          refine iteT ?_
          have a0 := PV.a0
          have hlt2 : at_.toNat < cells.length := by
            rw [List.length_map] at hlt
            omega
          obtain ⟨z, item⟩ : ∃ z, L2.atI (cells.map V.int) at_ = some (.int z) := by
            obtain ⟨i, rfl⟩ : ∃ i : Nat, at_ = (i : Int) := ⟨at_.toNat, by omega⟩
            exact ⟨cells[i]'hlt2, atI_nat (by rw [List.getElem?_map, List.getElem?_eq_getElem (show i < cells.length from hlt2)] <;> rfl)⟩
          refine ⟨_, rfl, p, _, rfl, gCells P1.di, _, rfl, p, _, rfl, gAt P1.di, l, _, _, _, rfl, rfl, .of P1.li, item, ?_⟩
          refine ⟨_, rfl, p, _, rfl, gAt P1.di, _, _, rfl, rfl, _, rfl, p, _, rfl, pAt P1.di, ?_⟩
          have P2 := P1.set (a' := at_ + 1) (by omega) P1.d0 P1.c0 P1.f0 P1.f1
          refine ⟨_, rfl, _, _, rfl, rfl, ⟨by decide, by decide, by decide⟩, _, _, rfl, rfl, _, rfl, ?_⟩
          refine ite2 (fun hbig => ?_) (fun _ => ?_)
          · refine ⟨_, rfl, _, _, rfl, rfl, ⟨by decide, by decide, by decide⟩, _, _, rfl, rfl, _, rfl, p, _, rfl, pDigits P2.di, ?_⟩
            have big := of_decide_eq_true hbig
            exact ⟨_, _, _, _, rfl, P2.set P2.a0 (by omega) P2.c0 P2.f0 P2.f1, But.refl.upd.upd.upd⟩
          · refine ⟨_, rfl, p, _, rfl, gFold P2.di, _, _, rfl, rfl, .inr ⟨by decide, by decide⟩, _, rfl, _, _, rfl, rfl, .inl ⟨_, rfl, _, _, rfl, rfl, (by show (0 : Int) < 2147483587; decide), _, rfl, p, _, rfl, pFold P2.di, ?_⟩⟩
            exact ⟨_, _, _, _, rfl, P2.set P2.a0 P2.d0 P2.c0 (Int.emod_nonneg _ (by decide)) (by have := Int.emod_lt_of_pos (fo * 69069 + z) (show (0 : Int) < 2147483587 by decide); omega), But.refl.upd.upd.upd⟩
        · rw [decide_eq_false hlt]
          exact iteF ⟨_, _, _, _, rfl, P1, But.refl.upd⟩
      · have e : decide (V.int dg = V.int 0) = false := decide_eq_false (fun z => hd (by injection z))
        rw [e]
        exact iteF ⟨_, _, _, _, rfl, P1, But.refl.upd⟩
    · rintro σ H2 ⟨v, a, d, f, rfl, P2, b2⟩
      refine ⟨_, rfl, p, _, rfl, gDigits P2.di, _, _, rfl, rfl, _, rfl, ?_⟩
      refine ite2 (fun hpos => ?_) (fun _ => ?_)
      · have pos := of_decide_eq_true hpos
        refine ⟨_, rfl, p, _, rfl, gDigits P2.di, .inl ⟨_, rfl, _, rfl, _, _, rfl, rfl, (by omega), ?_⟩⟩
        refine ⟨_, rfl, p, _, rfl, gDigits P2.di, _, rfl, _, _, rfl, rfl, wide_div (b := 60) (by omega) (by omega) (by decide) (by decide), _, rfl, p, _, rfl, pDigits P2.di, ?_⟩
        refine ⟨_, rfl, ?_⟩
        refine k _ _ (Int.emod_nonneg _ (by omega)) (Int.emod_lt_of_pos _ (by omega)) ⟨cells, _, _, _, _, P2.set P2.a0 (Int.ediv_nonneg P2.d0 (by omega)) P2.c0 P2.f0 P2.f1, by omega⟩ b2.upd
      · have c0 := P2.c0
        have f0 := P2.f0
        have f1 := P2.f1
        refine ⟨_, rfl, p, _, rfl, gFold P2.di, _, rfl, p, _, rfl, gCount P2.di, _, _, rfl, rfl, .inr ⟨by decide, by decide⟩, _, _, rfl, rfl, _, _, rfl, rfl, ?_⟩
        refine ⟨_, rfl, _, _, rfl, rfl, ⟨by decide, by decide, by omega⟩, _, _, rfl, rfl, (by show (0 : Int) < 2305843009213693951; decide), .inl ⟨_, rfl, _, _, rfl, rfl, ⟨by decide, by decide⟩, _, rfl, _, _, rfl, rfl, (by omega), ?_⟩⟩
        exact k _ _ (Int.emod_nonneg _ (by omega)) (Int.emod_lt_of_pos _ (by omega)) ⟨cells, _, _, _, _, P2, by omega⟩ b2
end
end K23
namespace K23
open PySem PySem.Spec PyProof.Rows L2 Pen Tr AK LamX RL RU
section
variable {P : Program} {w : World} {K : PySem.W.Frag} {mg : Str → Option PySem.Value} {base : Heap} {f fP fD : Addr} {fd fdP fdD : FuncData} {H H' : Hp}
def spSv (K : PySem.W.Frag) : Sp := fun vs H Q _ => ∃ p pl n, ∃ many : Nat, vs = [.ref p, .int many] ∧ PenAt H p pl n ∧ n ≤ 900000 ∧ many ≤ 3 ∧ ∀ b (ns : List Int) H', But p H H' → PenAt H' p pl (n + 9) → SqT K H' b (ns.map V.int) → ns.length = many → (∀ z ∈ ns, 0 ≤ z ∧ z < 2 ^ 40) → Q (.ref b) H'
abbrev nSv : List Str := ["_law_pen_here", "_law_many", "_law_lap"]
theorem scSv : FnScope nSv ["_law_pen_here", "_law_many"] (defScope (top 69)) := ⟨rfl, rfl, rfl, by decide +kernel, rfl, by decide +kernel, by decide +kernel⟩
theorem ok_Sv (F : FnT K "_law_some_values" 69 f fd) (TX : Txt mg)
    (FP : FnT K "_law_pick" 59 fP fdP) (gP : mg "_law_pick" = some (.ref fP)) (GP : FnOk P w K mg base CX0 2 fP fdP ["_law_pen_here", "_law_some"] (spPick K))
    (FD : FnT K "_law_draw" 58 fD fdD) (gD : mg "_law_draw" = some (.ref fD)) (GD : FnOk P w K mg base CX0 1 fD fdD ["_law_pen_here", "_law_many"] spDraw) : FnOk P w K mg base CX0 3 f fd ["_law_pen_here", "_law_many"] (spSv K) := by
  refine F.ok scSv (fun vs H Q E h => by obtain ⟨p, pl, n, many, rfl, _⟩ := h; rfl) (fun cdv A outer s0 H vs Q E hr h => ?_)
  obtain ⟨p, pl, n, many, rfl, PA, hn, h3, q⟩ := h
  have nd := scSv.nd
  have hu := hr.units
  have hu1 := hu_of hr
  have bP : L2.Binds K fdP ["_law_pen_here", "_law_some"] [] := FunD.bindsN FP fun _ _ _ _ _ _ us hl => match us, hl with | [_, _], _ => rfl
  have bD : L2.Binds K fdD ["_law_pen_here", "_law_many"] [] := FunD.bindsN FD fun _ _ _ _ _ _ us hl => match us, hl with | [_, _], _ => rfl
  suffices z : ∃ tt, PSs (cxOf CX0 P w K mg base nSv "_law_some_values" (defScope (top 69)) f cdv A outer s0 H E).nox (defBody (top 69)) tt ∧ tt { nx := fun _ H' => Q .non H', rt := Q } (start nSv [.ref p, .int many]) H by
    obtain ⟨tt, h1, h2⟩ := z
    exact ⟨tt, h1.nox, h2⟩
  refine ⟨_, pss_one (ps_ret (pe_callTy call_tupR (by rfl) TX.tuple (by decide +kernel) (pa_cons (pe_lc (own := [("_law_lap", 2)]) (g := gName 2) (tt := tYes) (te := (tCall (spPick K) [] E0 (tCons (tVar 0) (tCons (tLst (tCons (tC (.int 0)) (tCons (tC (.int 1)) (tCons (tC (.int 2)) (tCons (tC (.int 3)) (tCons (tCall (spDraw) [] E0 (tCons (tVar 0) (tCons (tC (.int 16)) tNil))) (tCons (tCall (spDraw) [] E0 (tCons (tVar 0) (tCons (tC (.int 200)) tNil))) tNil))))))) tNil)))) (by rfl) nd (pi_range1 (by rfl) TX.range (pa_cons (pv 1) pa_nil)) (blkOk_by (own := [("_law_lap", 2)]) (N := nSv) (sc := defScope (top 69)) (by decide +kernel)) (fun _ _ _ _ _ => (pg_name (i := 2) nd rfl (.inl rfl))) (fun _ _ _ _ _ => pts_nil) (fun _ _ _ _ _ => (pe_call GP (hr.mono (by decide)) (by rfl) gP FP.kp bP .nil pass0 (pa_cons (pv 0) (pa_cons (pe_lst (pa_cons pe_int (pa_cons pe_int (pa_cons pe_int (pa_cons pe_int (pa_cons (pe_call GD (hr.mono (by decide)) (by rfl) gD FD.kp bD .nil pass0 (pa_cons (pv 0) (pa_cons pe_int pa_nil))) (pa_cons (pe_call GD (hr.mono (by decide)) (by rfl) gD FD.kp bD .nil pass0 (pa_cons (pv 0) (pa_cons pe_int pa_nil))) pa_nil))))))) pa_nil))))) pa_nil))), ?_⟩
  clear bP bD
  refine ⟨_, rfl, many, rfl, by omega, by omega, fun D nD => ?_⟩
  change H D = none at nD
  have u0 := same_upd (o := .lst ([] : List V)) nD
  obtain ⟨Dp0, Dpl⟩ := nap_ PA nD
  refine lc_it (walk_range (lo := 0) (n := many)) (fun j H' => ∃ ns : List Int, ns.length = j ∧ (∀ z ∈ ns, 0 ≤ z ∧ z < 2 ^ 40) ∧ PenAt H' p pl (n + 3 * j) ∧ But p H H' ∧ H' D = some (.lst (ns.map V.int)))
    ⟨[], rfl, fun _ h => absurd h List.not_mem_nil, PA.keep u0, But.same u0, upd_same⟩ (fun _ _ _ _ => trivial) ?_ ?_
  · rintro j x H3 H2 hj ⟨ns, nl, ok, PA2, b2, hD2⟩ ⟨rfl, rfl⟩
    refine ⟨rfl, yes_if ⟨_, rfl, _, rfl, p, pl, _, 16, rfl, PA2, by omega, by decide, by decide, fun r1 H4 r10 r11 PA4 b4 => ⟨_, rfl, p, pl, _, 200, rfl, PA4, by omega, by decide, by decide, fun r2 H5 r20 r21 PA5 b5 => ⟨(by show 6 ≤ sizeLine; decide), fun l nl6 => ?_⟩⟩⟩⟩
    have s6 := same_upd (o := .lst [.int 0, .int 1, .int 2, .int 3, .int r1, .int r2]) nl6
    obtain ⟨lp, _⟩ := nap_ PA5 nl6
    refine ⟨p, pl, l, _, _, rfl, PA5.keep s6, by omega, SqL.of upd_same, (fun z => nomatch z), (by show 6 < 1073741824; decide), lp, fun ip v H7 hv PA7 b7 => ?_⟩
    obtain ⟨m, hm, rfl⟩ := RM.pick_int (ns := [0, 1, 2, 3, r1, r2]) hv
    have bm : 0 ≤ m ∧ m < 2 ^ 40 := by
      simp only [List.mem_cons, List.not_mem_nil, or_false] at hm
      omega
    have hD7 := b7 _ _ (s6 _ _ (b5 _ _ (b4 _ _ hD2 Dp0) Dp0)) Dp0
    have b27 := But.trans b4 (But.trans b5 (But.trans (But.same s6) b7))
    refine ⟨_, hD7, by rw [List.length_map, nl, sizeLine_eq]; omega, ns ++ [m], by rw [List.length_append, nl]; rfl, fun z hz => ?_, (PA7.other Dp0 Dpl).mono (by omega), fun b o e n1 => ?_, ?_⟩
    · rcases List.mem_append.mp hz with h | h
      · exact ok z h
      · rw [List.mem_singleton.mp h]
        exact bm
    · rw [upd_ne (ne_of_none e nD)]
      exact b27 _ _ (b2 _ _ e n1) n1
    · rw [upd_same, List.map_append]
      rfl
  · rintro H2 ⟨ns, nl, ok, PA2, b2, hD2⟩
    refine ⟨D, _, rfl, .inl (SqL.of hD2), fun b H3 s3 hb => q b ns H3 (But.trans b2 (But.same s3)) ((PA2.keep s3).mono (by omega)) hb nl ok⟩
end
end K23

set_option Elab.async false
set_option linter.all false
set_option maxRecDepth 100000
set_option maxHeartbeats 4000000
namespace K23
open PySem PySem.Spec PyProof.Rows L2 Pen Tr AK LamX RL
/-! ### the names of places -/
section
variable {P : Program} {w : World} {K : PySem.W.Frag} {mg : Str → Option PySem.Value} {base : Heap} {f fD fP fLp fPg : Addr} {fd fdD fdP fdLp fdPg : FuncData} {H H' : Hp}
def spAp (K : PySem.W.Frag) : Sp := fun vs H Q _ => ∃ p pl n, vs = [.ref p, .int 4] ∧ PenAt H p pl n ∧ n ≤ 600000 ∧ ∀ d x H', DrOk x → DrAt K H' d x → PenAt H' p pl (n + 1001) → But p H H' → H d = none → Q (.ref d) H'
abbrev nAp : List Str := ["_law_pen_here", "_law_most"]
theorem scAp : FnScope nAp ["_law_pen_here", "_law_most"] (defScope (top 64)) := ⟨rfl, rfl, rfl, by decide +kernel, rfl, by decide +kernel, by decide +kernel⟩
theorem ok_Ap (F : FnT K "_law_any_program" 64 f fd) (TX : Txt mg)
    (FLp : FnT K "_law_loop" 63 fLp fdLp) (gLp : mg "_law_loop" = some (.ref fLp)) (GLp : FnOk P w K mg base CX0 5 fLp fdLp ["_law_pen_here"] (spLp K))
    (FPg : FnT K "_law_program" 62 fPg fdPg) (gPg : mg "_law_program" = some (.ref fPg)) (GPg : FnOk P w K mg base CX0 5 fPg fdPg ["_law_pen_here", "_law_most"] (spPg K))
    (FD : FnT K "_law_draw" 58 fD fdD) (gD : mg "_law_draw" = some (.ref fD)) (GD : FnOk P w K mg base CX0 1 fD fdD ["_law_pen_here", "_law_many"] spDraw) : FnOk P w K mg base CX0 6 f fd ["_law_pen_here", "_law_most"] (spAp K) := by
  refine F.ok scAp (fun vs H Q E h => by obtain ⟨p, pl, n, rfl, _⟩ := h; rfl) (fun cdv A outer s0 H vs Q E hr h => ?_)
  obtain ⟨p, pl, n, rfl, PA, hn, q⟩ := h
  have nd := scAp.nd
  have hu := hr.units
  have hu1 := hu_of hr
  have bLp : L2.Binds K fdLp ["_law_pen_here"] [] := FunD.bindsN FLp fun _ _ _ _ _ _ us hl => match us, hl with | [_], _ => rfl
  have bPg : L2.Binds K fdPg ["_law_pen_here", "_law_most"] [] := FunD.bindsN FPg fun _ _ _ _ _ _ us hl => match us, hl with | [_, _], _ => rfl
  have bD : L2.Binds K fdD ["_law_pen_here", "_law_many"] [] := FunD.bindsN FD fun _ _ _ _ _ _ us hl => match us, hl with | [_, _], _ => rfl
  suffices z : ∃ tt, PSs (cxOf CX0 P w K mg base nAp "_law_any_program" (defScope (top 64)) f cdv A outer s0 H E).nox (defBody (top 64)) tt ∧ tt { nx := fun _ H' => Q .non H', rt := Q } (start nAp [.ref p, .int 4]) H by
    obtain ⟨tt, h1, h2⟩ := z
    exact ⟨tt, h1.nox, h2⟩
  refine ⟨_, pss_one (ps_ret (pe_ifExp (pt_cmpR op_eq (pe_call GD (hr.mono (by decide)) (by rfl) gD FD.kp bD .nil pass0 (pa_cons (pv 0) (pa_cons pe_int pa_nil))) pe_int (nomark _)) (pe_call GLp (hr.mono (by decide)) (by rfl) gLp FLp.kp bLp .nil pass0 (pa_cons (pv 0) pa_nil)) (pe_call GPg (hr.mono (by decide)) (by rfl) gPg FPg.kp bPg .nil pass0 (pa_cons (pv 0) (pa_cons (pv 1) pa_nil))))), ?_⟩
  clear bLp bPg bD
  refine ⟨_, rfl, p, pl, n, 2, rfl, PA, by omega, by decide, by decide, fun r H1 r0 r1 PA1 b1 => ?_⟩
  refine ⟨rfl, decide (V.int r = V.int 0), rfl, ?_⟩
  have fin : PgQ K H1 p pl (n + 1) Q := fun d x H' ok at_ PA2 b2 nd => q d x H' ok at_ (PA2.mono (by omega)) (But.trans b1 b2) (none_back b1 (nap_ PA1 nd).1 nd)
  exact ite2 (fun _ => ⟨_, rfl, p, pl, n + 1, rfl, PA1, by omega, fin⟩) (fun _ => ⟨_, rfl, _, rfl, p, pl, n + 1, rfl, PA1, by omega, fin⟩)
end
end K23
namespace K23
open PySem PySem.Spec PyProof.Rows L2 Pen Tr AK LamX RL
def basesM : List Str := ["l", "inc", "at", "a", "end"]
def numS (c : Nat) : Str := Str.ofString (toString ((c : Nat) : Int))
def digs (x : Str) : List Nat := (tl x).filter fun c => decide (48 ≤ c) && decide (c ≤ 57)
theorem digs_num (c : Nat) : digs (numS c) = tl (numS c) := by
  unfold digs
  rw [List.filter_eq_self]
  intro x hx
  have h := TL.numL_digits c x (by rw [← TL.tl_num]; exact hx)
  have := h
  simp only [Bool.and_eq_true, decide_eq_true_eq]
  exact this
theorem digs_base : ∀ b ∈ basesM, digs b = [] := by decide +kernel
theorem digs_name {b : Str} (hb : b ∈ basesM) (c : Nat) : digs (b ++ numS c) = tl (numS c) := by
  have e : digs (b ++ numS c) = digs b ++ digs (numS c) := by
    unfold digs
    rw [tl_app, List.filter_append]
  rw [e, digs_base b hb, digs_num]
  rfl
theorem name_inj {b b' : Str} (hb : b ∈ basesM) (hb' : b' ∈ basesM) {c c' : Nat} (h : b ++ numS c = b' ++ numS c') : c = c' := by
  have e := congrArg digs h
  rw [digs_name hb, digs_name hb'] at e
  have t : ∀ n, tl (numS n) = TL.numL n := fun n => TL.tl_num n
  rw [t, t] at e
  exact TL.numL_inj e
theorem base_nm : ∀ b ∈ basesM, (∃ c r, tl b = c :: r ∧ c ∈ lowS.cps.toList) ∧ (∀ c ∈ tl b, signOk c = true) ∧ (tl b).length ≤ 3 := by
  intro b hb
  simp only [basesM, List.mem_cons, List.not_mem_nil, or_false] at hb
  rcases hb with rfl | rfl | rfl | rfl | rfl
  · exact ⟨⟨108, [], by kernel_rfl, by decide +kernel⟩, by decide +kernel, by decide +kernel⟩
  · exact ⟨⟨105, [110, 99], by kernel_rfl, by decide +kernel⟩, by decide +kernel, by decide +kernel⟩
  · exact ⟨⟨97, [116], by kernel_rfl, by decide +kernel⟩, by decide +kernel, by decide +kernel⟩
  · exact ⟨⟨97, [], by kernel_rfl, by decide +kernel⟩, by decide +kernel, by decide +kernel⟩
  · exact ⟨⟨101, [110, 100], by kernel_rfl, by decide +kernel⟩, by decide +kernel, by decide +kernel⟩
theorem fig_sign {c : Nat} (h : 48 ≤ c ∧ c ≤ 57) : signOk c = true := by
  obtain ⟨k, rfl⟩ : ∃ k, c = 48 + k := ⟨c - 48, by omega⟩
  have hk : k < 10 := by omega
  have all : ∀ k, k < 10 → signOk (48 + k) = true := by decide +kernel
  exact all k hk
theorem mark_nm {b : Str} (hb : b ∈ basesM) {c : Nat} (hc : c < 100) : NmL (tl (b ++ numS c)) 5 := by
  obtain ⟨h1, h2, h3⟩ := base_nm b hb
  have n : NmL (tl b) 3 := ⟨h1, h2, h3⟩
  rw [tl_app]
  refine NmL.app (k := 2) n (fun x hx => ?_) ?_
  · have h := TL.numL_digits c x (by rw [← TL.tl_num]; exact hx)
    exact fig_sign h
  · rw [show tl (numS c) = TL.numL c from TL.tl_num c]
    exact TL.numL_len (by decide) hc
structure MkT (N : List Str) (count : Nat) : Prop where
  nd : N.Nodup
  of : ∀ x ∈ N, ∃ b ∈ basesM, ∃ c, c < count ∧ x = b ++ numS c
theorem MkT.add {N : List Str} {count : Nat} (h : MkT N count) {b : Str} (hb : b ∈ basesM) : MkT (N ++ [b ++ numS count]) (count + 1) := by
  refine ⟨List.nodup_append.mpr ⟨h.nd, List.nodup_cons.mpr ⟨List.not_mem_nil, List.nodup_nil⟩, fun x hx y hy e => ?_⟩, fun x hx => ?_⟩
  · rw [List.mem_singleton.mp hy] at e
    obtain ⟨b', hb', c, hc, rfl⟩ := h.of x hx
    have := name_inj hb' hb e
    omega
  · rcases List.mem_append.mp hx with hx | hx
    · obtain ⟨b', hb', c, hc, e⟩ := h.of x hx
      exact ⟨b', hb', c, by omega, e⟩
    · exact ⟨b, hb, count, Nat.lt_succ_self _, List.mem_singleton.mp hx⟩
/-- the dict of names of places -/
def MkAt (H : Hp) (d : Addr) (NA : Nat → List Str) (n : Nat) : Prop := ∃ kvs : List (Key × V), H d = some (.dK kvs) ∧ kvs.length ≤ n ∧ ∀ j : Nat, (NA j = [] ∧ valV kvs (Sum.inl (j : Int)) = none) ∨ ∃ a, NA j ≠ [] ∧ valV kvs (Sum.inl (j : Int)) = some (.ref a) ∧ H a = some (.lst ((NA j).map V.str))
def allM (NA : Nat → List Str) (m : Nat) : List Str := (List.range m).flatMap NA
/-- an order that names a place -/
def isL (o : List V) : Bool := match o with
  | .str w :: _ => (["jump", "ifzero", "ifsame"] : List Str).contains w
  | _ => false
structure MkOk (dr : Dr) (NA : Nat → List Str) : Prop where
  t : MkT (allM NA (dr.ords.length + 1)) 24
  has : ∀ o ∈ dr.ords, isL o = true → ∀ k : Nat, o.getLast? = some (V.int (k : Nat)) → NA k ≠ []
  few : ∀ j, (NA j).length ≤ 2
theorem inV_nat (x : Nat) (l : List Nat) : inV (.int (x : Nat)) (l.map fun n : Nat => V.int (n : Nat)) = l.contains x := by
  induction l with
  | nil => rfl
  | cons y l ih =>
    rw [List.map_cons, List.contains_cons, ← ih]
    show (eqV (.int (y : Nat)) (.int (x : Nat)) || inV (.int (x : Nat)) (l.map fun n : Nat => V.int (n : Nat))) = _
    congr 1
    show (((y : Nat) : Int) == (x : Nat)) = (x == y)
    rw [Bool.beq_eq_decide_eq, Bool.beq_eq_decide_eq]
    exact decide_eq_decide.mpr ⟨fun h => (Int.ofNat_inj.mp h).symm, fun h => by rw [h]⟩
theorem flat_nats (l : List Nat) : (l.map fun n : Nat => V.int (n : Nat)).all flatV = true := by
  rw [List.all_map]
  exact List.all_eq_true.mpr fun _ _ => rfl
theorem ord_head {nr nc no : Nat} {o : List V} (h : OrdG nr nc no o) : ∃ w rest, o = V.str w :: rest ∧ isL o = (["jump", "ifzero", "ifsame"] : List Str).contains w := by
  obtain ⟨w, k, as, h1, rfl, h3, h4⟩ := h
  exact ⟨w, _, rfl, rfl⟩
theorem ord_last {nr nc no : Nat} {o : List V} (h : OrdG nr nc no o) (hl : isL o = true) : ∃ (l0 : List V) (k : Nat), o = l0 ++ [V.int (k : Nat)] ∧ k ≤ no := by
  obtain ⟨w, k, as, h1, rfl, h3, h4⟩ := h
  have hl : (["jump", "ifzero", "ifsame"] : List Str).contains w = true := hl
  have hw := List.contains_iff_mem.mp hl
  simp only [List.mem_cons, List.not_mem_nil, or_false] at hw
  have fin : ∀ (cs : List Nat), k.cps.toList = cs → cs.getLast? = some 76 → ∃ (l0 : List V) (k : Nat), V.str w :: as.map (fun n : Nat => V.int (n : Nat)) = l0 ++ [V.int (k : Nat)] ∧ k ≤ no := by
    intro cs hc hcl
    rw [hc] at h3 h4
    have ne : cs ≠ [] := fun e => by rw [e] at hcl; cases hcl
    have nea : as ≠ [] := fun e => by rw [e] at h3; exact ne (List.length_eq_zero_iff.mp h3.symm)
    have l0 := List.length_pos_iff.mpr ne
    rw [List.getLast?_eq_getElem?] at hcl
    have hal : as[cs.length - 1]? = some (as[cs.length - 1]'(by omega)) := List.getElem?_eq_getElem (by omega)
    have hb := (h4 (cs.length - 1) 76 _ hcl hal).2.2 rfl
    refine ⟨V.str w :: as.dropLast.map fun n : Nat => V.int (n : Nat), as[cs.length - 1]'(by omega), ?_, hb⟩
    have e2 : as = as.dropLast ++ [as[cs.length - 1]'(by omega)] := by
      have e3 := (List.dropLast_concat_getLast nea).symm
      rw [List.getLast_eq_getElem] at e3
      simpa [h3] using e3
    rw [List.cons_append]
    congr 1
    conv => lhs; rw [e2]
    rw [List.map_append]
    rfl
  rcases hw with rfl | rfl | rfl
  · rw [show kindO "jump" = some "L" by decide +kernel] at h1
    cases h1
    exact fin [76] (by decide +kernel) rfl
  · rw [show kindO "ifzero" = some "RL" by decide +kernel] at h1
    cases h1
    exact fin [82, 76] (by decide +kernel) rfl
  · rw [show kindO "ifsame" = some "RRL" by decide +kernel] at h1
    cases h1
    exact fin [82, 82, 76] (by decide +kernel) rfl
theorem allM_succ (NA : Nat → List Str) (i : Nat) : allM NA (i + 1) = allM NA i ++ NA i := by
  unfold allM
  rw [List.range_succ, List.flatMap_append]
  simp
theorem allM_congr {NA NB : Nat → List Str} {i : Nat} (h : ∀ j, j < i → NA j = NB j) : allM NA i = allM NB i := by
  induction i with
  | zero => rfl
  | succ i ih => rw [allM_succ, allM_succ, ih fun j hj => h j (by omega), h i (by omega)]
theorem cnt_log : ∀ c, c < 24 → ((c : Nat) : Int).natAbs.log2 < 1920 := by decide +kernel
def updN (NB : Nat → List Str) (i : Nat) (l : List Str) (j : Nat) : List Str := if j = i then l else NB j
theorem updN_same {NB : Nat → List Str} {i : Nat} {l : List Str} : updN NB i l i = l := if_pos rfl
theorem updN_ne {NB : Nat → List Str} {i j : Nat} {l : List Str} (h : j ≠ i) : updN NB i l j = NB j := if_neg h
theorem putK_len {κ : Type} [DecidableEq κ] (kvs : List (κ × V)) (k : κ) (v : V) : (putK kvs k v).length ≤ kvs.length + 1 := by
  unfold putK
  split
  · rw [List.length_map]
    exact Nat.le_succ _
  · rw [List.length_append]
    exact Nat.le_refl _
section
variable {P : Program} {w : World} {K : PySem.W.Frag} {mg : Str → Option PySem.Value} {base : Heap} {f fP : Addr} {fd fdP : FuncData} {H H' : Hp}
def spMk (K : PySem.W.Frag) : Sp := fun vs H Q _ => ∃ p pl n d dr, vs = [.ref p, .ref d] ∧ PenAt H p pl n ∧ n ≤ 900000 ∧ DrOk dr ∧ DrAt K H d dr ∧ d ≠ p ∧ ∀ a NA H', MkOk dr NA → MkAt H' a NA 100 → PenAt H' p pl (n + 60) → But p H H' → H a = none → Q (.ref a) H'
abbrev nMk : List Str := ["_law_pen_here", "_law_program_here", "_law_named", "_law_found", "_law_count", "_law_number", "_law_many", "_law_lap", "_law_order"]
theorem scMk : FnScope nMk ["_law_pen_here", "_law_program_here"] (defScope (top 65)) := ⟨rfl, rfl, rfl, by decide +kernel, rfl, by decide +kernel, by decide +kernel⟩
theorem ok_Mk (F : FnT K "_law_marks" 65 f fd) (TX : Txt mg)
    (FP : FnT K "_law_pick" 59 fP fdP) (gP : mg "_law_pick" = some (.ref fP)) (GP : FnOk P w K mg base CX0 2 fP fdP ["_law_pen_here", "_law_some"] (spPick K)) : FnOk P w K mg base CX0 3 f fd ["_law_pen_here", "_law_program_here"] (spMk K) := by
  refine F.ok scMk (fun vs H Q E h => by obtain ⟨p, pl, n, d, x, rfl, _⟩ := h; rfl) (fun cdv A outer s0 H vs Q E hr h => ?_)
  obtain ⟨p, pl, n, d, dr, rfl, PA, hn, ok, at_, dp, q⟩ := h
  have nd := scMk.nd
  have hu := hr.units
  have hu1 := hu_of hr
  have bP : L2.Binds K fdP ["_law_pen_here", "_law_some"] [] := FunD.bindsN FP fun _ _ _ _ _ _ us hl => match us, hl with | [_, _], _ => rfl
  suffices z : ∃ tt, PSs (cxOf CX0 P w K mg base nMk "_law_marks" (defScope (top 65)) f cdv A outer s0 H E).nox (defBody (top 65)) tt ∧ tt { nx := fun _ H' => Q .non H', rt := Q } (start nMk [.ref p, .ref d]) H by
    obtain ⟨tt, h1, h2⟩ := z
    exact ⟨tt, h1.nox, h2⟩
  refine ⟨_, pss_cons (ps_setLc (i := 2) (own := [("_law_order", 8)]) (g := gName 8) (tt := (tTest (tOp (rIn K false) (tOp (rIxT K) (tVar 8) (tC (.int 0))) (tLst (tCons (tC (.str "jump")) (tCons (tC (.str "ifzero")) (tCons (tC (.str "ifsame")) tNil))))))) (te := (tOp (rIxT K) (tVar 8) (tUn (rU fun i => .int (-i)) (tC (.int 1))))) (by rfl) nd rfl (by rfl) (by rfl) (pi_list (pe_dget hu1 (pv 1) pe_str (fun _ _ => rfl))) (blkOk_by (own := [("_law_order", 8)]) (N := nMk) (sc := defScope (top 65)) (by decide +kernel)) (fun _ _ _ _ _ => (pg_name (i := 8) nd rfl (.inl rfl))) (fun _ _ _ _ _ => (pts_one (pt_cmpR op_in_seq (pe_ix ix_tup (pv 8) pe_int (fun _ _ => rfl)) (pe_lst (pa_cons pe_str (pa_cons pe_str (pa_cons pe_str pa_nil)))) (by rfl)))) (fun _ _ _ _ _ => (pe_ix ix_tup (pv 8) (pe_un un_neg pe_int) (fun _ _ => rfl))))
    (pss_cons (ps_par (i := 3) (j := 4) (by rfl) nd rfl rfl (by decide) rfl rfl (pa_cons pe_dnewK (pa_cons pe_int pa_nil)) (by rfl))
    (pss_cons (ps_for PassesOwn.never rfl (pi_range1 (by rfl) TX.range (pa_cons (pe_op op_add (pe_callB call_len_seq (by rfl) TX.len PySem.boot_len (pa_cons (pe_dget hu1 (pv 1) pe_str (fun _ _ => rfl)) pa_nil)) pe_int) pa_nil)) (pg_name (i := 5) nd rfl (.inl rfl))
    (pss_cons (ps_asg (RM.pe_cut (pe_ifExp (pt_cmpR op_in_seq (pv 5) (pv 2) (by rfl)) pe_int pe_int)) (pg_name (i := 6) nd rfl (.inl rfl)))
    (pss_one (ps_for PassesOwn.never rfl (pi_range1 (by rfl) TX.range (pa_cons (pe_op op_add (pv 6) (pe_call GP (hr.mono (by decide)) (by rfl) gP FP.kp bP .nil pass0 (pa_cons (pv 0) (pa_cons (pe_lst (pa_cons pe_int (pa_cons pe_int (pa_cons pe_int (pa_cons pe_int pa_nil))))) pa_nil)))) pa_nil)) (pg_name (i := 7) nd rfl (.inl rfl))
    (pss_cons (ps_dput hu1 (pv 3) (pv 5) (pe_op op_cat (pe_dget2 hu1 (pv 3) (pv 5) (pe_lst pa_nil) ⟨rfl, rfl, rfl, rfl⟩) (pe_lst (pa_cons (pe_op op_add_str (pe_call GP (hr.mono (by decide)) (by rfl) gP FP.kp bP .nil pass0 (pa_cons (pv 0) (pa_cons (pe_lst (pa_cons pe_str (pa_cons pe_str (pa_cons pe_str (pa_cons pe_str (pa_cons pe_str pa_nil)))))) pa_nil))) (pe_callTy call_str_int (by rfl) TX.str (by decide +kernel) (pa_cons (pv 4) pa_nil))) pa_nil))) rfl)
    (pss_one (ps_asg (pe_op op_add (pv 4) pe_int) (pg_name (i := 4) nd rfl (.inl rfl)))))))))
    (pss_one (ps_ret (pv 3))))), ?_⟩
  clear bP
  obtain ⟨ar, ac, ao, zs, hd, har, hac, hao, hos⟩ := at_
  have zl := Paired.length hos
  have few := ok.few
  refine ⟨_, rfl, d, .ref ao, rfl, .inl ⟨_, .inr "orders", .inl hd, rfl, by kernel_rfl⟩, ao, rfl, ⟨_, SqL.of hao⟩, fun D nD => ?_⟩
  obtain ⟨Dp, Dpl⟩ := nap_ PA nD
  have nDH : ∀ b o, H b = some o → b ≠ D := fun b o e => ne_of_none e nD
  refine lc_it (walk_list (K := K) (a := ao) (xs := zs)) (fun j H' => Same H H' ∧ ∃ ns : List Nat, H' D = some (.lst (ns.map fun n : Nat => V.int (n : Nat))) ∧ ns.length ≤ j ∧ ∀ o ∈ dr.ords.take j, isL o = true → ∀ k : Nat, o.getLast? = some (V.int (k : Nat)) → k ∈ ns)
    ⟨same_upd nD, [], upd_same, Nat.le_refl _, fun _ h => absurd h List.not_mem_nil⟩ (fun j H' _ p => SqL.of (p.1 _ _ hao)) ?_ ?_
  · rintro j y H3 H2 hj ⟨s2, ns, hD, nl, hns⟩ ⟨rfl, hy⟩
    obtain ⟨o, ho, qo, rfl, hqo⟩ := pairW hos hy
    have mo := List.mem_of_getElem? ho
    have og := ok.ord o mo
    obtain ⟨wd, rest, eo, eL⟩ := ord_head og
    have tk : dr.ords.take (j + 1) = dr.ords.take j ++ [o] := by
      rw [List.take_add_one, ho]
      rfl
    have hq2 := SqT.tups (same_tups s2) hqo
    refine ⟨rfl, _, rfl, qo, o, 0, .str wd, rfl, rfl, hq2, atI_nat (j := 0) (by rw [eo]; rfl), (by show 3 ≤ sizeLine; decide), fun l nl3 => ⟨l, [.str "jump", .str "ifzero", .str "ifsame"], rfl, .inl (SqL.of upd_same), rfl, rfl, _, rfl, ?_⟩⟩
    have s3 := same_upd (o := .lst [.str "jump", .str "ifzero", .str "ifsame"]) nl3
    have hD3 := s3 _ _ hD
    have hq3 := SqT.tups (same_tups s3) hq2
    have s23 := same_trans s2 s3
    generalize upd H2 l (.lst [.str "jump", .str "ifzero", .str "ifsame"]) = H4 at s23 hD3 hq3 ⊢
    rw [if_neg Bool.false_ne_true, show [V.str "jump", V.str "ifzero", V.str "ifsame"] = (["jump", "ifzero", "ifsame"] : List Str).map V.str from rfl, inV_str, ← eL]
    cases c : isL o with
    | false =>
      refine iteF ⟨s23, ns, hD3, by omega, fun o' ho' hl => ?_⟩
      rw [tk] at ho'
      rcases List.mem_append.mp ho' with h | h
      · exact hns o' h hl
      · rw [List.mem_singleton.mp h, c] at hl
        cases hl
    | true =>
      obtain ⟨l0, k, el, kl⟩ := ord_last og c
      refine iteT ⟨_, rfl, 1, rfl, qo, o, -1, .int (k : Nat), rfl, rfl, hq3, by rw [el]; exact atI_last _ _, _, hD3, ?_, fun b u e => ?_, ns ++ [k], ?_, ?_, fun o' ho' hl k' hk' => ?_⟩
      · have : zs.length ≤ 10 := by omega
        rw [List.length_map, sizeLine_eq]
        omega
      · rw [upd_ne (nDH b u e)]
        exact s23 _ _ e
      · rw [upd_same, List.map_append]
        rfl
      · rw [List.length_append]
        exact Nat.succ_le_succ nl
      · rw [tk] at ho'
        rcases List.mem_append.mp ho' with h | h
        · exact List.mem_append_left _ (hns o' h hl k' hk')
        · rw [List.mem_singleton.mp h, el, List.getLast?_append] at hk'
          have : some (V.int (k : Nat)) = some (V.int (k' : Nat)) := hk'
          injection this with this
          injection this with this
          rw [show k' = k by omega]
          exact List.mem_append_right _ (List.mem_singleton.mpr rfl)
  rintro H2 ⟨s2, ns, hD, nl, hns⟩
  rw [← zl, List.take_length] at hns
  rw [← zl] at nl
  intro fa nfa
  have PA2 := PA.keep s2
  obtain ⟨fp, fpl⟩ := nap_ PA2 nfa
  have nfH : ∀ b o, H2 b = some o → b ≠ fa := fun b o e => ne_of_none e nfa
  have nfaH : H fa = none := none_back (But.same s2) fp nfa
  have fD : fa ≠ D := Ne.symm (nfH _ _ hD)
  have s3 := same_upd (o := .dK []) nfa
  have hf3 := upd_same (H := H2) (a := fa) (o := .dK [])
  have s03 := same_trans s2 s3
  have hD3 := s3 _ _ hD
  have PA3 := PA2.keep s3
  generalize upd H2 fa (.dK []) = H3 at s03 hf3 hD3 PA3 ⊢
  refine ⟨_, _, rfl, ?_⟩
  refine ⟨_, rfl, d, .ref ao, rfl, .inl ⟨_, .inr "orders", .inl (s03 _ _ hd), rfl, by kernel_rfl⟩, ao, _, rfl, .inl (SqL.of (s03 _ _ hao)), _, 1, rfl, rfl, ((zs.length + 1 : Nat) : Int), rfl, by omega, by omega, ?_⟩
  have nfaHb : ∀ b o, H b = some o → b ≠ fa := fun b o e z => by rw [z, nfaH] at e; cases e
  clear s2 s3 hD nfa nfH PA2
  refine for_it (walk_range (lo := 0) (n := zs.length + 1)) (fun i σ H' => ∃ o5 o6 o7 NA count, σ = [some (.ref p), some (.ref d), some (.ref D), some (.ref fa), some (.int (count : Nat)), o5, o6, o7, none] ∧ PenAt H' p pl (n + 4 * i) ∧ (∀ b o, H b = some o → b ≠ p → H' b = some o) ∧ H' D = some (.lst (ns.map fun n : Nat => V.int (n : Nat))) ∧
      MkAt H' fa NA count ∧ MkT (allM NA i) count ∧ count ≤ 2 * i ∧ (∀ j, i ≤ j → NA j = []) ∧ (∀ j, (NA j).length ≤ 2) ∧ ∀ j, j < i → j ∈ ns → NA j ≠ [])
    ⟨none, none, none, fun _ => [], 0, rfl, PA3, fun b o e _ => s03 _ _ e, hD3, ⟨[], hf3, Nat.le_refl _, fun j => .inl ⟨rfl, rfl⟩⟩, ⟨List.nodup_nil, fun _ h => absurd h List.not_mem_nil⟩, Nat.le_refl _, fun _ _ => rfl, fun _ => Nat.zero_le _, fun j h => absurd h (Nat.not_lt_zero _)⟩ (fun _ _ _ _ _ => trivial) ?_ ?_
  · rintro i y σ H8 H7 hi ⟨o5, o6, o7, NA, count, rfl, PA7, b7, hD7, mk7, mt7, cl, nai, na2, nah⟩ ⟨rfl, rfl⟩
    have hi9 : i ≤ 10 := by omega
    refine ⟨fun v H' => ∃ m : Nat, v = .int (m : Nat) ∧ m ≤ 1 ∧ (i ∈ ns → m = 1) ∧ H7 = H', ?_, ?_⟩
    · refine ⟨_, rfl, _, rfl, D, _, rfl, .inl (SqL.of hD7), rfl, flat_nats _, _, rfl, ?_⟩
      show (if inV (V.int (0 + (i : Nat))) (ns.map fun n : Nat => V.int (n : Nat)) = true then _ else _)
      rw [Int.zero_add, inV_nat]
      cases c : ns.contains i with
      | true => exact iteT ⟨1, rfl, Nat.le_refl _, fun _ => rfl, rfl⟩
      | false => exact iteF ⟨0, rfl, Nat.zero_le _, (fun h => absurd (List.contains_iff_mem.mpr h) (by rw [c]; exact Bool.false_ne_true)), rfl⟩
    rintro v H8 ⟨m, rfl, m1, mn, rfl⟩
    refine ⟨_, rfl, _, rfl, (by show 4 ≤ sizeLine; decide), fun l nl4 => ?_⟩
    have s9 := same_upd (o := .lst [.int 0, .int 0, .int 0, .int 1]) nl4
    refine ⟨p, pl, l, _, _, rfl, PA7.keep s9, by omega, SqL.of upd_same, (fun z => nomatch z), (by show 4 < 1073741824; decide), (nap_ PA7 nl4).1, fun ip v H10 hv PA10 b10 => ?_⟩
    obtain ⟨m2, hm2, rfl⟩ := RM.pick_int (ns := [0, 0, 0, 1]) hv
    obtain ⟨m2, rfl, hm2⟩ : ∃ k : Nat, m2 = (k : Int) ∧ k ≤ 1 := by
      simp only [List.mem_cons, List.not_mem_nil, or_false] at hm2
      exact ⟨m2.toNat, by omega, by omega⟩
    have b10 := but_of_same s9 b10
    obtain ⟨kvs7, hf7, kl7, look7⟩ := mk7
    have lst10 : ∀ q ys, H7 q = some (.lst ys) → H10 q = some (.lst ys) := fun q ys e => by
      obtain ⟨kv, hp⟩ := PA7.is
      exact b10 _ _ e (ne_of e hp fun z => nomatch z)
    have mk10 : MkAt H10 fa NA count := ⟨kvs7, b10 _ _ hf7 fp, kl7, fun j => (look7 j).imp id fun ⟨a, h1, h2, h3⟩ => ⟨a, h1, h2, lst10 _ _ h3⟩⟩
    refine ⟨_, _, rfl, rfl, ((m + m2 : Nat) : Int), rfl, by omega, by omega, ?_⟩
    refine for_it (walk_range (lo := 0) (n := m + m2)) (fun t σ H' => ∃ o7 NB count', σ = [some (.ref p), some (.ref d), some (.ref D), some (.ref fa), some (.int (count' : Nat)), some (.int (0 + (i : Nat))), some (.int (m : Nat)), o7, none] ∧ PenAt H' p pl (n + 4 * i + 1 + t) ∧ (∀ b o, H b = some o → b ≠ p → H' b = some o) ∧ H' D = some (.lst (ns.map fun n : Nat => V.int (n : Nat))) ∧
        MkAt H' fa NB count' ∧ MkT (allM NB (i + 1)) count' ∧ count' = count + t ∧ (∀ j, j ≠ i → NB j = NA j) ∧ (NB i).length = t)
      ⟨_, NA, count, rfl, PA10, fun b o e n1 => b10 _ _ (b7 _ _ e n1) n1, lst10 _ _ hD7, mk10, by rw [allM_succ, nai i (Nat.le_refl i), List.append_nil]; exact mt7, rfl, fun _ _ => rfl, by rw [nai i (Nat.le_refl i)]; rfl⟩ (fun _ _ _ _ _ => trivial) ?_ ?_
    · rintro t y σ H12 H11 ht ⟨o7', NB, count', rfl, PA11, b11, hD11, ⟨kvs, hf11, kl, look⟩, mt, ec, same, lt⟩ ⟨rfl, rfl⟩
      have cl' : count' < 24 := by omega
      refine ⟨_, rfl, fa, rfl, .inl ⟨_, .inl hf11⟩, _, rfl, (by show 0 ≤ sizeLine; exact Nat.zero_le _), fun l0 nl0 => ?_⟩
      change H11 l0 = none at nl0
      have s12 := same_upd (o := .lst ([] : List V)) nl0
      have hl0 := upd_same (H := H11) (a := l0) (o := .lst ([] : List V))
      have PA12 := PA11.keep s12
      generalize upd H11 l0 (.lst ([] : List V)) = H12 at s12 hl0 PA12 ⊢
      refine ⟨valV kvs (.inl (0 + (i : Nat))), .inl ⟨_, .inl (0 + (i : Nat)), .inl (s12 _ _ hf11), rfl, rfl⟩, ?_⟩
      obtain ⟨la, ela, hla⟩ : ∃ la, (valV kvs (.inl (0 + (i : Nat)))).getD (.ref l0) = .ref la ∧ H12 la = some (.lst ((NB i).map V.str)) := by
        rw [Int.zero_add]
        rcases look i with ⟨h1, h2⟩ | ⟨a, h1, h2, h3⟩
        · rw [h2, h1]
          exact ⟨l0, rfl, hl0⟩
        · rw [h2]
          exact ⟨a, rfl, s12 _ _ h3⟩
      rw [ela]
      refine ⟨_, rfl, (by show 5 ≤ sizeLine; decide), fun lb nlb => ?_⟩
      have s13 := same_upd (o := .lst [.str "l", .str "inc", .str "at", .str "a", .str "end"]) nlb
      refine ⟨p, pl, lb, _, _, rfl, PA12.keep s13, by omega, SqL.of upd_same, (fun z => nomatch z), (by show 5 < 1073741824; decide), (nap_ PA12 nlb).1, fun ip v H14 hv PA14 b14 => ?_⟩
      obtain ⟨bs, hbs, rfl⟩ := RM.pick_str (ns := basesM) hv
      have b14 := but_of_same s13 b14
      have lst14 : ∀ q ys, H12 q = some (.lst ys) → H14 q = some (.lst ys) := fun q ys e => by
        obtain ⟨kv, hp⟩ := PA12.is
        exact b14 _ _ e (ne_of e hp fun z => nomatch z)
      have nmx := mark_nm hbs (c := count') (by omega)
      have fx := nmx.few
      refine ⟨_, rfl, _, rfl, cnt_log count' cl', bs, numS count', rfl, rfl, ?_, (by show 1 ≤ sizeLine; decide), fun lc nlc => ?_⟩
      · rw [tl_len, tl_len, sizeLine_eq]
        rw [tl_app, List.length_append] at fx
        omega
      have s15 := same_upd (o := .lst [.str (bs ++ numS count')]) nlc
      refine ⟨la, lc, _, _, rfl, rfl, s15 _ _ (lst14 _ _ hla), upd_same, ?_, fun ln nln => ?_⟩
      · rw [List.length_map, lt, sizeLine_eq]
        show t + 1 ≤ _
        omega
      have s16 := same_upd (o := .lst ((NB i).map V.str ++ [.str (bs ++ numS count')])) nln
      have hln := upd_same (H := upd H14 lc (.lst [.str (bs ++ numS count')])) (a := ln) (o := .lst ((NB i).map V.str ++ [.str (bs ++ numS count')]))
      have s1416 := same_trans s15 s16
      generalize upd (upd H14 lc (.lst [.str (bs ++ numS count')])) ln (.lst ((NB i).map V.str ++ [.str (bs ++ numS count')])) = H16 at s1416 hln ⊢
      have hf16 := s1416 _ _ (b14 _ _ (s12 _ _ hf11) fp)
      refine ⟨_, rfl, _, rfl, fa, _, rfl, .inl ⟨kvs, .inl (0 + (i : Nat)), hf16, rfl, by rw [sizeLine_eq]; omega, rfl⟩, ?_⟩
      rw [Int.zero_add]
      have lst16 : ∀ q ys, H11 q = some (.lst ys) → q ≠ fa → upd H16 fa (.dK (putK kvs (.inl (i : Nat)) (.ref ln))) q = some (.lst ys) := fun q ys e n1 => by
        rw [upd_ne n1]
        exact s1416 _ _ (lst14 _ _ (s12 _ _ e))
      have lnf : ln ≠ fa := ne_of hln hf16 fun z => nomatch z
      have lf : ∀ q ys, H11 q = some (.lst ys) → q ≠ fa := fun q ys e => ne_of e hf11 fun z => nomatch z
      refine ⟨_, rfl, _, 1, rfl, rfl, _, updN NB i (NB i ++ [bs ++ numS count']), count' + 1, rfl, ?_, fun b o e n1 => ?_, lst16 _ _ hD11 (Ne.symm fD), ⟨_, upd_same, ?_, fun j => ?_⟩, ?_, by omega, fun j hj => ?_, ?_⟩
      · exact ((PA14.keep s1416).other fp fpl).mono (by omega)
      · rw [upd_ne (nfaHb b o e)]
        exact s1416 _ _ (b14 _ _ (s12 _ _ (b11 _ _ e n1)) n1)
      · have := putK_len kvs (Sum.inl ((i : Nat) : Int)) (V.ref ln)
        omega
      · rw [valV_put]
        by_cases hj : j = i
        · subst hj
          rw [if_pos rfl, updN_same]
          refine .inr ⟨ln, by simp, rfl, ?_⟩
          rw [upd_ne lnf, hln, List.map_append]
          rfl
        · rw [updN_ne hj, if_neg (fun z => hj (by injection z with z; omega))]
          exact (look j).imp id fun ⟨a, h1, h2, h3⟩ => ⟨a, h1, h2, lst16 _ _ h3 (lf _ _ h3)⟩
      · have e : allM (updN NB i (NB i ++ [bs ++ numS count'])) (i + 1) = allM NB (i + 1) ++ [bs ++ numS count'] := by
          rw [allM_succ, allM_succ, allM_congr (NB := NB) fun j hj => updN_ne (by omega), updN_same, List.append_assoc]
        rw [e]
        exact mt.add hbs
      · rw [updN_ne hj]
        exact same j hj
      · rw [updN_same, List.length_append, lt]
        rfl
    · rintro σ H11 ⟨o7', NB, count', rfl, PA11, b11, hD11, mk11, mt, ec, same, lt⟩
      refine ⟨_, _, _, NB, count', rfl, PA11.mono (by omega), b11, hD11, mk11, mt, by omega, fun j hj => ?_, fun j => ?_, fun j hj hn => ?_⟩
      · rw [same j (by omega)]
        exact nai j (by omega)
      · by_cases h : j = i
        · rw [h, lt]
          omega
        · rw [same j h]
          exact na2 j
      · by_cases h : j = i
        · subst h
          have := mn hn
          intro e
          rw [e] at lt
          simp only [List.length_nil] at lt
          omega
        · rw [same j h]
          exact nah j (by omega) hn
  · rintro σ H7 ⟨o5, o6, o7, NA, count, rfl, PA7, b7, hD7, mk7, mt7, cl, nai, na2, nah⟩
    obtain ⟨kvs7, hf7, kl7, look7⟩ := mk7
    refine ⟨_, rfl, q fa NA H7 ⟨⟨?_, fun x hx => ?_⟩, fun o ho hl k hk => ?_, na2⟩ ⟨kvs7, hf7, by omega, look7⟩ (PA7.mono (by omega)) b7 nfaH⟩
    · rw [zl]
      exact mt7.nd
    · rw [zl] at hx
      obtain ⟨b, hb, c, hc, e⟩ := mt7.of x hx
      exact ⟨b, hb, c, by omega, e⟩
    · obtain ⟨l0, k', el, kl⟩ := ord_last (ok.ord o ho) hl
      have : k = k' := by
        rw [el, List.getLast?_append] at hk
        have hk : some (V.int (k' : Nat)) = some (V.int (k : Nat)) := hk
        injection hk with hk
        injection hk with hk
        omega
      exact nah k (by omega) (hns o ho hl k hk)
end
end K23

set_option Elab.async false
set_option linter.all false
set_option maxRecDepth 100000
set_option maxHeartbeats 4000000
namespace K23
open PySem PySem.Spec PyProof.Rows L2 Pen Tr AK LamX RL
/-! ### the words of an order -/
def RowOf (dr : Dr) (NA : Nat → List Str) (o : List V) (row : List Str) : Prop := ∃ (w k : Str) (as : List Nat) (xs : List Str), kindO w = some k ∧ o = V.str w :: as.map (fun n : Nat => V.int (n : Nat)) ∧ row = w :: xs ∧ as.length = k.cps.toList.length ∧ xs.length = as.length ∧
  ∀ (i c a : Nat) (x : Str), k.cps.toList[i]? = some c → as[i]? = some a → xs[i]? = some x → (c = 82 → dr.regs[a]? = some x) ∧ (c = 67 → dr.cols[a]? = some x) ∧ (c = 76 → x ∈ NA a)
theorem kind_mem {w k : Str} (h : kindO w = some k) : (w, k) ∈ ordK := by
  unfold kindO at h
  obtain ⟨e, he, rfl⟩ := Option.map_eq_some_iff.mp h
  have m := List.mem_of_find?_eq_some he
  have := List.find?_some he
  have e1 := of_decide_eq_true this
  rw [← e1]
  exact m
theorem kind_jump {w k : Str} (h : kindO w = some k) (e : w = "jump") : k.cps.toList = [76] := by
  have all : ∀ e ∈ ordK, e.1 = "jump" → e.2.cps.toList = [76] := by decide +kernel
  exact all _ (kind_mem h) e
theorem kind_if {w k : Str} (h : kindO w = some k) (e : (["ifzero", "ifsame"] : List Str).contains w = true) : k.cps.toList = List.replicate (k.cps.toList.length - 1) 82 ++ [76] := by
  have all : ∀ e ∈ ordK, (["ifzero", "ifsame"] : List Str).contains e.1 = true → e.2.cps.toList = List.replicate (e.2.cps.toList.length - 1) 82 ++ [76] := by decide +kernel
  exact all _ (kind_mem h) e
theorem kind_else {w k : Str} (h : kindO w = some k) (e1 : w ≠ "jump") (e2 : (["ifzero", "ifsame"] : List Str).contains w = false) : ∀ c ∈ k.cps.toList, c = if w = "paint" then 67 else 82 := by
  have all : ∀ e ∈ ordK, e.1 ≠ "jump" → (["ifzero", "ifsame"] : List Str).contains e.1 = false → ∀ c ∈ e.2.cps.toList, c = if e.1 = "paint" then 67 else 82 := by decide +kernel
  exact all _ (kind_mem h) e1 e2
theorem cut_one (x : V) (l : List V) : cutV (x :: l) (some 1) none = l := by
  have e := cut_drop (xs := x :: l) (n := 1) (by simp)
  rw [show ((1 : Nat) : Int) = 1 from rfl] at e
  rw [e]
  rfl
theorem cut_midL (x y : V) (l : List V) : cutV (x :: (l ++ [y])) (some 1) (some (-1)) = l := by
  unfold cutV HT.sIx
  simp
  rw [show (-1 + ((l.length : Int) + 1 + 1)).toNat = l.length + 1 by omega]
  simp
section
variable {P : Program} {w : World} {K : PySem.W.Frag} {mg : Str → Option PySem.Value} {base : Heap} {f fP : Addr} {fd fdP : FuncData} {H H' : Hp}
/-- names by their places -/
theorem lc_places {H : Hp} {D : Addr} {xs : List Str} {as : List Nat} {qa : Addr} {Qd : Hp → Prop} {te : TE} {σ : L2.St} {vs : List Nat} {i : Nat} (hq : SqT K H qa (as.map fun n : Nat => V.int (n : Nat))) (nD : H D = none) (hlt : ∀ a ∈ as, a < xs.length) (few : as.length ≤ 1000) (vse : vs = [i])
    (hw : ∀ x, wipe ((wipe σ [i]).set i (some x)) [i] = wipe σ [i])
    (hte : ∀ (a : Nat) x H1 (R : VK), Same H H1 → xs[a]? = some x → R (.str x) H1 → te ((wipe σ [i]).set i (some (V.int (a : Nat)))) H1 R)
    (q : ∀ H' ys, Same H H' → H' D = some (.lst ((ys : List Str).map V.str)) → ys.length = as.length → (∀ (j a : Nat) (y : Str), as[j]? = some a → ys[j]? = some y → xs[a]? = some y) → Qd H') :
    ∃ W : Nat → Nat → Hp → Prop, (∃ m, W 0 m (upd H D (.lst []))) ∧ ∀ j m H', W j m H' →
      ((Itt K qa).stop j H' ∧ Qd H') ∨ ((Itt K qa).go j H' ∧ ∃ Nx : Hp → Prop, (∀ H'', Nx H'' → ∃ m', m' < m ∧ W (j + 1) m' H'') ∧ ∀ x H'', (Itt K qa).yld j H' x H'' → gName i x (wipe σ vs) H'' fun σ2 H2 => wipe σ2 vs = wipe σ vs ∧ tYes σ2 H2 fun b H3 =>
        if b = true then te σ2 H3 fun y H4 => ∃ acc, H4 D = some (.lst acc) ∧ acc.length < sizeLine ∧ Nx (upd H4 D (.lst (acc ++ [y]))) else Nx H3) := by
  subst vse
  refine lc_it (walk_tup (K := K) (a := qa) (xs := as.map fun n : Nat => V.int (n : Nat))) (fun j H' => Same H H' ∧ ∃ ys : List Str, H' D = some (.lst (ys.map V.str)) ∧ ys.length = (as.take j).length ∧ ∀ (j' a : Nat) (y : Str), (as.take j)[j']? = some a → ys[j']? = some y → xs[a]? = some y)
    ⟨same_upd nD, [], upd_same, rfl, fun _ _ _ h => by simp at h⟩ (fun j H' _ p => SqT.tups (same_tups p.1) hq) ?_ ?_
  · rintro j y H3 H2 hj ⟨s2, ys, hD, yl, hys⟩ ⟨rfl, hy⟩
    rw [List.getElem?_map] at hy
    obtain ⟨a, ha, rfl⟩ := Option.map_eq_some_iff.mp hy
    have ma := hlt a (List.mem_of_getElem? ha)
    have hx : xs[a]? = some xs[a] := List.getElem?_eq_getElem ma
    rw [List.length_map] at hj
    have tk : as.take (j + 1) = as.take j ++ [a] := by
      rw [List.take_add_one, ha]
      rfl
    have lj : (as.take j).length = j := by rw [List.length_take]; omega
    refine ⟨hw _, yes_if (hte a xs[a] _ _ s2 hx ⟨_, hD, ?_, fun b u e => ?_, ys ++ [xs[a]], ?_, ?_, fun j' a' y' h1 h2 => ?_⟩)⟩
    · rw [List.length_map, sizeLine_eq]
      omega
    · rw [upd_ne (ne_of_none e nD)]
      exact s2 _ _ e
    · rw [upd_same, List.map_append]
      rfl
    · rw [List.length_append, tk, List.length_append, yl]
      rfl
    · rw [tk] at h1
      by_cases c : j' < j
      · rw [List.getElem?_append_left (by omega)] at h1 h2
        exact hys j' a' y' h1 h2
      · rw [List.getElem?_append_right (by omega), yl, lj] at h2
        rw [List.getElem?_append_right (by omega), lj] at h1
        cases e : j' - j with
        | zero =>
          rw [e] at h1 h2
          cases h1
          cases h2
          exact hx
        | succ m =>
          rw [e] at h1
          cases h1
  · rintro H2 ⟨s2, ys, hD, yl, hys⟩
    rw [List.length_map, List.take_length] at yl hys
    exact q H2 ys s2 hD yl hys
def spOw (K : PySem.W.Frag) : Sp := fun vs H Q _ => ∃ p pl n d dm qo dr NA o, vs = [.ref p, .ref d, .ref dm, .ref qo] ∧ PenAt H p pl n ∧ n ≤ 900000 ∧ DrOk dr ∧ DrAt K H d dr ∧ MkOk dr NA ∧ MkAt H dm NA 100 ∧ SqT K H qo o ∧ o ∈ dr.ords ∧ d ≠ p ∧ dm ≠ p ∧
  ∀ a row H', RowOf dr NA o row → PenAt H' p pl (n + 1) → But p H H' → H a = none → H' a = some (.lst (row.map V.str)) → Q (.ref a) H'
abbrev nOw : List Str := ["_law_pen_here", "_law_program_here", "_law_marks_here", "_law_order", "_law_named", "_law_names_here", "_law_place"]
theorem scOw : FnScope nOw ["_law_pen_here", "_law_program_here", "_law_marks_here", "_law_order"] (defScope (top 66)) := ⟨rfl, rfl, rfl, by decide +kernel, rfl, by decide +kernel, by decide +kernel⟩
theorem ok_Ow (F : FnT K "_law_order_words" 66 f fd) (TX : Txt mg)
    (FP : FnT K "_law_pick" 59 fP fdP) (gP : mg "_law_pick" = some (.ref fP)) (GP : FnOk P w K mg base CX0 2 fP fdP ["_law_pen_here", "_law_some"] (spPick K)) : FnOk P w K mg base CX0 3 f fd ["_law_pen_here", "_law_program_here", "_law_marks_here", "_law_order"] (spOw K) := by
  refine F.ok scOw (fun vs H Q E h => by obtain ⟨p, pl, n, d, dm, qo, dr, NA, o, rfl, _⟩ := h; rfl) (fun cdv A outer s0 H vs Q E hr h => ?_)
  obtain ⟨p, pl, n, d, dm, qo, dr, NA, o, rfl, PA, hn, ok, at_, mo, ⟨kvs, hdm, kl, look⟩, hqo, io, dp, dmp, q⟩ := h
  have nd := scOw.nd
  have hu := hr.units
  have hu1 := hu_of hr
  have bP : L2.Binds K fdP ["_law_pen_here", "_law_some"] [] := FunD.bindsN FP fun _ _ _ _ _ _ us hl => match us, hl with | [_, _], _ => rfl
  suffices z : ∃ tt, PSs (cxOf CX0 P w K mg base nOw "_law_order_words" (defScope (top 66)) f cdv A outer s0 H E).nox (defBody (top 66)) tt ∧ tt { nx := fun _ H' => Q .non H', rt := Q } (start nOw [.ref p, .ref d, .ref dm, .ref qo]) H by
    obtain ⟨tt, h1, h2⟩ := z
    exact ⟨tt, h1.nox, h2⟩
  refine ⟨_, pss_cons (ps_if (pt_cmpR op_eq (pe_ix ix_tup (pv 3) pe_int (fun _ _ => rfl)) pe_str (nomark _)) (pss_one (ps_ret (pe_lst (pa_cons pe_str (pa_cons (pe_call GP (hr.mono (by decide)) (by rfl) gP FP.kp bP .nil pass0 (pa_cons (pv 0) (pa_cons (pe_dget hu1 (pv 2) (pe_ix ix_tup (pv 3) pe_int (fun _ _ => rfl)) (fun _ _ => rfl)) pa_nil))) pa_nil))))) pss_nil)
    (pss_cons (ps_if (pt_cmpR op_in_seq (pe_ix ix_tup (pv 3) pe_int (fun _ _ => rfl)) (pe_lst (pa_cons pe_str (pa_cons pe_str pa_nil))) (by rfl)) (pss_cons (ps_setLc (i := 4) (own := [("_law_place", 6)]) (g := gName 6) (tt := tYes) (te := (tOp (rIxL K) (tDGet (tVar 1) (tC (.str "registers"))) (tVar 6))) (by rfl) nd rfl (by rfl) (by rfl) (pi_tup (pe_slice sl_tup (pv 3) (po_some pe_int) (po_some (pe_un un_neg pe_int)))) (blkOk_by (own := [("_law_place", 6)]) (N := nOw) (sc := defScope (top 66)) (by decide +kernel)) (fun _ _ _ _ _ => (pg_name (i := 6) nd rfl (.inl rfl))) (fun _ _ _ _ _ => pts_nil) (fun _ _ _ _ _ => (pe_ix ix_list (pe_dget hu1 (pv 1) pe_str (fun _ _ => rfl)) (pv 6) (fun _ _ => rfl))))
    (pss_one (ps_ret (pe_op op_cat (pe_op op_cat (pe_lst (pa_cons (pe_ix ix_tup (pv 3) pe_int (fun _ _ => rfl)) pa_nil)) (pv 4)) (pe_lst (pa_cons (pe_call GP (hr.mono (by decide)) (by rfl) gP FP.kp bP .nil pass0 (pa_cons (pv 0) (pa_cons (pe_dget hu1 (pv 2) (pe_ix ix_tup (pv 3) (pe_un un_neg pe_int) (fun _ _ => rfl)) (fun _ _ => rfl)) pa_nil))) pa_nil)))))) pss_nil)
    (pss_cons (ps_asg (RM.pe_cut (pe_ifExp (pt_cmpR op_eq (pe_ix ix_tup (pv 3) pe_int (fun _ _ => rfl)) pe_str (nomark _)) (pe_dget hu1 (pv 1) pe_str (fun _ _ => rfl)) (pe_dget hu1 (pv 1) pe_str (fun _ _ => rfl)))) (pg_name (i := 5) nd rfl (.inr rfl)))
    (pss_one (ps_ret (pe_op op_cat (pe_lst (pa_cons (pe_ix ix_tup (pv 3) pe_int (fun _ _ => rfl)) pa_nil)) (pe_lc (own := [("_law_place", 6)]) (g := gName 6) (tt := tYes) (te := (tOp (rIxL K) (tVar 5) (tVar 6))) (by rfl) nd (pi_tup (pe_slice sl_tup (pv 3) (po_some pe_int) po_none)) (blkOk_by (own := [("_law_place", 6)]) (N := nOw) (sc := defScope (top 66)) (by decide +kernel)) (fun _ _ _ _ _ => (pg_name (i := 6) nd rfl (.inl rfl))) (fun _ _ _ _ _ => pts_nil) (fun _ _ _ _ _ => (pe_ix ix_list (pv 5) (pv 6) (fun _ _ => rfl))))))))), ?_⟩
  clear bP
  obtain ⟨ar, ac, ao, zs, hd, har, hac, hao, hos⟩ := at_
  have og := ok.ord o io
  have og2 := og
  obtain ⟨wd, k, as, hk, eo, hl, hs⟩ := og
  have hq : SqT K H qo (V.str wd :: as.map fun n : Nat => V.int (n : Nat)) := by rw [← eo]; exact hqo
  have at0 : atI (V.str wd :: as.map fun n : Nat => V.int (n : Nat)) 0 = some (V.str wd) := atI_nat (j := 0) rfl
  have NAat : ∀ j, NA j ≠ [] → ∃ a, valV kvs (Sum.inl (j : Nat)) = some (.ref a) ∧ H a = some (.lst ((NA j).map V.str)) := fun j hj => by
    rcases look j with ⟨h1, _⟩ | ⟨a, _, h2, h3⟩
    · exact absurd h1 hj
    · exact ⟨a, h2, h3⟩
  have lsp : ∀ q ys, H q = some (.lst ys) → q ≠ p := fun q ys e => by
    obtain ⟨kv, hp⟩ := PA.is
    exact ne_of e hp fun z => nomatch z
  refine ⟨_, rfl, qo, _, 0, .str wd, rfl, rfl, hq, at0, rfl, decide (V.str wd = V.str "jump"), rfl, ?_⟩
  by_cases c1 : wd = "jump"
  · rw [decide_eq_true (congrArg V.str c1)]
    have hc := kind_jump hk c1
    rw [hc] at hl hs
    obtain ⟨a, rfl⟩ : ∃ a, as = [a] := by
      match as, hl with
      | [a], _ => exact ⟨a, rfl⟩
    have lo : isL o = true := by
      rw [eo, c1]
      rfl
    have ne := mo.has o io lo a (by rw [eo]; rfl)
    obtain ⟨am, hv, ham⟩ := NAat a ne
    refine iteT ⟨_, rfl, _, rfl, _, rfl, qo, _, 1, .int (a : Nat), rfl, rfl, hq, atI_nat (j := 1) rfl, dm, .ref am, rfl, .inl ⟨kvs, .inl (a : Nat), .inl hdm, rfl, hv.symm⟩, p, pl, am, n, _, rfl, PA, by omega, SqL.of ham, by simp [ne], by rw [List.length_map]; have := mo.few a; omega, lsp _ _ ham, fun ix v H1 hv PA1 b1 => ?_⟩
    obtain ⟨x, hx, rfl⟩ := RM.pick_str hv
    refine ⟨(by show 2 ≤ sizeLine; decide), fun r nr => ?_⟩
    have s2 := same_upd (o := .lst [.str "jump", .str x]) nr
    obtain ⟨rp, _⟩ := nap_ PA1 nr
    refine q r ["jump", x] _ ⟨wd, k, [a], [x], hk, eo, by rw [c1], by rw [hc]; rfl, rfl, fun i c a' x' hci hai hxi => ?_⟩ (PA1.keep s2) (But.trans b1 (But.same s2)) (none_back b1 rp nr) upd_same
    rw [hc] at hci
    match i with
    | 0 =>
      cases hci
      cases hai
      cases hxi
      exact ⟨fun z => absurd z (by decide), fun z => absurd z (by decide), fun _ => hx⟩
    | i + 1 => cases hci
  · rw [decide_eq_false (fun z => c1 (by injection z))]
    refine iteF ⟨_, rfl, qo, _, 0, .str wd, rfl, rfl, hq, at0, (by show 2 ≤ sizeLine; decide), fun l nl2 => ⟨l, [.str "ifzero", .str "ifsame"], rfl, .inl (SqL.of upd_same), rfl, rfl, _, rfl, ?_⟩⟩
    have s1 := same_upd (o := .lst [.str "ifzero", .str "ifsame"]) nl2
    generalize upd H l (.lst [.str "ifzero", .str "ifsame"]) = H1 at s1 ⊢
    rw [if_neg Bool.false_ne_true, show [V.str "ifzero", V.str "ifsame"] = (["ifzero", "ifsame"] : List Str).map V.str from rfl, inV_str]
    cases c2 : (["ifzero", "ifsame"] : List Str).contains wd with
    | true =>
      have hc := kind_if hk c2
      have lo : isL o = true := by
        rw [eo]
        show (["jump", "ifzero", "ifsame"] : List Str).contains wd = true
        rw [List.contains_cons, show (["ifzero", "ifsame"] : List Str).contains wd = true from c2, Bool.or_true]
      have lk0 : k.cps.toList.length ≠ 0 := fun e => by
        have := congrArg List.length hc
        rw [List.length_append, List.length_replicate] at this
        simp only [List.length_cons, List.length_nil] at this
        omega
      obtain ⟨a0, b0, rfl⟩ : ∃ a0 b0, as = a0 ++ [b0] := by
        have ne : as ≠ [] := fun e => by rw [e] at hl; exact lk0 hl.symm
        exact ⟨as.dropLast, as.getLast ne, (List.dropLast_concat_getLast ne).symm⟩
      rw [List.length_append] at hl
      have hl : a0.length + 1 = k.cps.toList.length := hl
      generalize hm : k.cps.toList.length - 1 = m at hc
      have hm : a0.length = m := by omega
      have emap : (a0 ++ [b0]).map (fun n : Nat => V.int (n : Nat)) = a0.map (fun n : Nat => V.int (n : Nat)) ++ [V.int (b0 : Nat)] := by
        rw [List.map_append]
        rfl
      rw [emap] at hq at0
      have hlt : ∀ a ∈ a0, a < dr.regs.length := fun a ha => by
        obtain ⟨i, hi, rfl⟩ := List.getElem_of_mem ha
        refine (hs i 82 a0[i] ?_ ?_).1 rfl
        · rw [hc, List.getElem?_append_left (by rw [List.length_replicate]; omega), List.getElem?_replicate, if_pos (by omega)]
        · rw [List.getElem?_append_left hi, List.getElem?_eq_getElem hi]
      have few0 : a0.length ≤ 1000 := by
        have : ∀ e ∈ ordK, e.2.cps.toList.length ≤ 3 := by decide +kernel
        have := this _ (kind_mem hk)
        simp only at this
        omega
      refine iteT ⟨_, rfl, 1, rfl, 1, rfl, -1, rfl, qo, _, rfl, SqT.tups (same_tups s1) hq, (by intro z; have := z.1; simp [HT.sIx] at this), fun ps nps => ⟨ps, rfl, ⟨_, SqT.of upd_same⟩, fun D nD => ?_⟩⟩
      rw [cut_midL]
      have s2 := same_upd (o := .tup (a0.map fun n : Nat => V.int (n : Nat))) nps
      have hps : SqT K (upd H1 ps (.tup (a0.map fun n : Nat => V.int (n : Nat)))) ps (a0.map fun n : Nat => V.int (n : Nat)) := SqT.of upd_same
      rw [cut_midL] at nD
      generalize upd H1 ps (.tup (a0.map fun n : Nat => V.int (n : Nat))) = H2 at s2 hps nD ⊢
      have s02 := same_trans s1 s2
      refine lc_places (xs := dr.regs) hps nD hlt few0 rfl (fun _ => rfl) (fun a x H3 R s3 hx r => ⟨_, rfl, d, .ref ar, rfl, .inl ⟨_, .inr "registers", .inl (s3 _ _ (s02 _ _ hd)), rfl, by kernel_rfl⟩, _, rfl, ar, _, (a : Nat), .str x, rfl, rfl, SqL.of (s3 _ _ (s02 _ _ har)), atI_nat (by rw [List.getElem?_map, hx]; rfl), r⟩) (fun H3 ys s3 hD yl hys => ?_)
      have s03 := same_trans s02 s3
      have PA3 := PA.keep s03
      refine ⟨_, rfl, qo, _, 0, .str wd, rfl, rfl, SqT.tups (same_tups s03) hq, at0, (by show 1 ≤ sizeLine; decide), fun l1 nl1 => ?_⟩
      have s4 := same_upd (o := .lst [.str wd]) nl1
      refine ⟨_, rfl, l1, D, _, _, rfl, rfl, upd_same, s4 _ _ hD, by rw [List.length_map, yl, sizeLine_eq]; show 1 + _ ≤ _; omega, fun l2 nl2 => ?_⟩
      have s5 := same_upd (o := .lst ([.str wd] ++ ys.map V.str)) nl2
      have hl2 := upd_same (H := upd H3 l1 (.lst [.str wd])) (a := l2) (o := .lst ([.str wd] ++ ys.map V.str))
      have s05 := same_trans s03 (same_trans s4 s5)
      generalize upd (upd H3 l1 (.lst [.str wd])) l2 (.lst ([.str wd] ++ ys.map V.str)) = H5 at s05 hl2 ⊢
      have PA5 := PA.keep s05
      have ne := mo.has o io lo b0 (by rw [eo, emap, ← List.cons_append, List.getLast?_append]; rfl)
      obtain ⟨am, hv, ham⟩ := NAat b0 ne
      refine ⟨_, rfl, _, rfl, _, rfl, 1, rfl, qo, _, -1, .int (b0 : Nat), rfl, rfl, SqT.tups (same_tups s05) hq, by rw [← List.cons_append]; exact atI_last _ _, dm, .ref am, rfl, .inl ⟨kvs, .inl (b0 : Nat), .inl (s05 _ _ hdm), rfl, hv.symm⟩, p, pl, am, n, _, rfl, PA5, by omega, SqL.of (s05 _ _ ham), by simp [ne], by rw [List.length_map]; have := mo.few b0; omega, lsp _ _ ham, fun ix v H6 hv6 PA6 b6 => ?_⟩
      obtain ⟨x, hx, rfl⟩ := RM.pick_str hv6
      refine ⟨(by show 1 ≤ sizeLine; decide), fun l3 nl3 => ?_⟩
      have s7 := same_upd (o := .lst [.str x]) nl3
      have l2p : l2 ≠ p := by
        obtain ⟨kv, hp⟩ := PA5.is
        exact ne_of hl2 hp fun z => nomatch z
      refine ⟨l2, l3, _, _, rfl, rfl, s7 _ _ (b6 _ _ hl2 l2p), upd_same, by rw [List.length_append, List.length_map, yl, sizeLine_eq]; show 1 + _ + 1 ≤ _; omega, fun r nr => ?_⟩
      have s8 := same_upd (o := .lst (([.str wd] ++ ys.map V.str) ++ [.str x])) nr
      have b06 : But p H H6 := But.trans (But.same s05) b6
      have PA7 := PA6.keep s7
      obtain ⟨rp, _⟩ := nap_ PA7 nr
      refine q r (wd :: (ys ++ [x])) _ ⟨wd, k, a0 ++ [b0], ys ++ [x], hk, eo, rfl, by rw [List.length_append]; exact hl, by rw [List.length_append, List.length_append, yl]; rfl, fun i c a' x' hci hai hxi => ?_⟩ (PA7.keep s8) (But.trans b06 (But.same (same_trans s7 s8))) (none_back (But.trans b06 (But.same s7)) rp nr) ?_
      · rw [hc] at hci
        by_cases ci : i < m
        · rw [List.getElem?_append_left (by rw [List.length_replicate]; exact ci), List.getElem?_replicate, if_pos ci] at hci
          cases hci
          rw [List.getElem?_append_left (by omega)] at hai
          rw [List.getElem?_append_left (by omega)] at hxi
          exact ⟨fun _ => hys i a' x' hai hxi, fun z => absurd z (by decide), fun z => absurd z (by decide)⟩
        · rw [List.getElem?_append_right (by rw [List.length_replicate]; omega), List.length_replicate] at hci
          rw [List.getElem?_append_right (by omega), hm] at hai
          rw [List.getElem?_append_right (by omega), yl, hm] at hxi
          cases e : i - m with
          | zero =>
            rw [e] at hci hai hxi
            cases hci
            cases hai
            cases hxi
            exact ⟨fun z => absurd z (by decide), fun z => absurd z (by decide), fun _ => hx⟩
          | succ j =>
            rw [e] at hci
            cases hci
      · rw [upd_same, List.map_cons, List.map_append]
        rfl
    | false =>
      have hc := kind_else hk c1 c2
      refine iteF ?_
      refine ⟨fun v H' => ∃ an, v = .ref an ∧ H1 = H' ∧ H an = some (.lst ((if wd = "paint" then dr.cols else dr.regs).map V.str)), ?_, ?_⟩
      · refine ⟨_, rfl, qo, _, 0, .str wd, rfl, rfl, SqT.tups (same_tups s1) hq, at0, rfl, decide (V.str wd = V.str "paint"), rfl, ?_⟩
        by_cases c3 : wd = "paint"
        · rw [decide_eq_true (congrArg V.str c3), if_pos c3]
          exact iteT ⟨_, rfl, d, .ref ac, rfl, .inl ⟨_, .inr "colours", .inl (s1 _ _ hd), rfl, by kernel_rfl⟩, ac, rfl, rfl, hac⟩
        · rw [decide_eq_false (fun z => c3 (by injection z)), if_neg c3]
          exact iteF ⟨_, rfl, d, .ref ar, rfl, .inl ⟨_, .inr "registers", .inl (s1 _ _ hd), rfl, by kernel_rfl⟩, ar, rfl, rfl, har⟩
      rintro v H2 ⟨an, rfl, rfl, han⟩
      have hlt : ∀ a ∈ as, a < (if wd = "paint" then dr.cols else dr.regs).length := fun a ha => by
        obtain ⟨i, hi, rfl⟩ := List.getElem_of_mem ha
        have hki : k.cps.toList[i]? = some (k.cps.toList[i]'(by omega)) := List.getElem?_eq_getElem (by omega)
        have h2 := hs i _ as[i] hki (List.getElem?_eq_getElem hi)
        have h3 := hc _ (List.mem_of_getElem? hki)
        by_cases c3 : wd = "paint"
        · rw [if_pos c3] at h3 ⊢
          exact h2.2.1 h3
        · rw [if_neg c3] at h3 ⊢
          exact h2.1 h3
      have few0 : as.length ≤ 3 := by
        have : ∀ e ∈ ordK, e.2.cps.toList.length ≤ 3 := by decide +kernel
        have := this _ (kind_mem hk)
        simp only at this
        omega
      refine ⟨_, rfl, qo, _, 0, .str wd, rfl, rfl, SqT.tups (same_tups s1) hq, at0, (by show 1 ≤ sizeLine; decide), fun l1 nl1 => ?_⟩
      have s2 := same_upd (o := .lst [.str wd]) nl1
      have hl1 := upd_same (H := H1) (a := l1) (o := .lst [.str wd])
      have s02 := same_trans s1 s2
      generalize upd H1 l1 (.lst [.str wd]) = H2 at s02 hl1 ⊢
      refine ⟨_, rfl, 1, rfl, qo, _, rfl, SqT.tups (same_tups s02) hq, (by intro z; have := z.1; simp [HT.sIx] at this), fun ps nps => ⟨ps, rfl, ⟨_, SqT.of upd_same⟩, fun D nD => ?_⟩⟩
      rw [cut_one] at nD ⊢
      have s3 := same_upd (o := .tup (as.map fun n : Nat => V.int (n : Nat))) nps
      have hps : SqT K (upd H2 ps (.tup (as.map fun n : Nat => V.int (n : Nat)))) ps (as.map fun n : Nat => V.int (n : Nat)) := SqT.of upd_same
      have hl1 := s3 _ _ hl1
      have s03 := same_trans s02 s3
      generalize upd H2 ps (.tup (as.map fun n : Nat => V.int (n : Nat))) = H3 at s03 hps nD hl1 ⊢
      refine lc_places (xs := if wd = "paint" then dr.cols else dr.regs) hps nD hlt (by omega) rfl (fun _ => rfl) (fun a x H4 R s4 hx r => ⟨_, rfl, _, rfl, an, _, (a : Nat), .str x, rfl, rfl, SqL.of (s4 _ _ (s03 _ _ han)), atI_nat (by rw [List.getElem?_map, hx]; rfl), r⟩) (fun H4 ys s4 hD yl hys => ?_)
      refine ⟨l1, D, _, _, rfl, rfl, s4 _ _ hl1, hD, by rw [List.length_map, yl, sizeLine_eq]; show 1 + _ ≤ _; omega, fun r nr => ?_⟩
      have s5 := same_upd (o := .lst ([.str wd] ++ ys.map V.str)) nr
      have s04 := same_trans s03 s4
      have s05 := same_trans s04 s5
      have PA4 := PA.keep s04
      obtain ⟨rp, _⟩ := nap_ PA4 nr
      refine q r (wd :: ys) _ ⟨wd, k, as, ys, hk, eo, rfl, hl, yl, fun i c a' x' hci hai hxi => ?_⟩ ((PA.keep s05).mono (by omega)) (But.same s05) (none_back (But.same s04) rp nr) upd_same
      have h3 := hc c (List.mem_of_getElem? hci)
      have h4 := hys i a' x' hai hxi
      by_cases c3 : wd = "paint"
      · rw [if_pos c3] at h3 h4
        subst h3
        exact ⟨fun z => absurd z (by decide), fun _ => h4, fun z => absurd z (by decide)⟩
      · rw [if_neg c3] at h3 h4
        subst h3
        exact ⟨fun _ => h4, fun z => absurd z (by decide), fun z => absurd z (by decide)⟩
end
end K23

set_option Elab.async false
set_option linter.all false
set_option maxRecDepth 100000
set_option maxHeartbeats 4000000
namespace K23
open PySem PySem.Spec PyProof.Rows L2 Pen Tr AK LamX RL
/-! ### the lines of a text of a program -/
def atR (x : Str) : List Str := ["at", x]
def rowsB (NA : Nat → List Str) (rw : List (List Str)) (i : Nat) : List (List Str) := (List.range i).flatMap fun k => (NA k).map atR ++ rw[k]?.toList
theorem rowsB_succ (NA : Nat → List Str) (rw : List (List Str)) (i : Nat) : rowsB NA rw (i + 1) = rowsB NA rw i ++ ((NA i).map atR ++ rw[i]?.toList) := by
  unfold rowsB
  rw [List.range_succ, List.flatMap_append]
  simp
theorem rowsB_app (NA : Nat → List Str) (rw : List (List Str)) (r : List Str) : ∀ i, i ≤ rw.length → rowsB NA (rw ++ [r]) i = rowsB NA rw i
  | 0, _ => rfl
  | i + 1, h => by
    rw [rowsB_succ, rowsB_succ, rowsB_app NA rw r i (by omega), List.getElem?_append_left (by omega)]
def headRows (dr : Dr) : List (List Str) := ["registers" :: dr.regs, "colours" :: dr.cols]
def RwOk (dr : Dr) (NA : Nat → List Str) (rw : List (List Str)) : Prop := ∀ (k : Nat) (o : List V) (r : List Str), dr.ords[k]? = some o → rw[k]? = some r → RowOf dr NA o r
theorem LnT.len {H : Hp} {a : Addr} {rows : List (List Str)} (l : LnT H a rows) : ∃ xs, H a = some (.lst xs) ∧ xs.length = rows.length := by
  obtain ⟨xs, h1, h2⟩ := l
  exact ⟨xs, h1, (Paired.length h2).symm⟩
theorem LnT.pen {H H' : Hp} {a p pl : Addr} {n : Nat} {rows : List (List Str)} (l : LnT H a rows) (PA : PenAt H p pl n) (b : But p H H') : LnT H' a rows := by
  obtain ⟨kv, hp⟩ := PA.is
  exact l.but hp (fun _ z => nomatch z) b
section
variable {P : Program} {w : World} {K : PySem.W.Frag} {mg : Str → Option PySem.Value} {base : Heap} {f fMk fOw : Addr} {fd fdMk fdOw : FuncData} {H H' : Hp}
theorem MkAt.pen {d p pl : Addr} {NA : Nat → List Str} {n m : Nat} (h : MkAt H d NA m) (PA : PenAt H p pl n) (b : But p H H') (dp : d ≠ p) : MkAt H' d NA m := by
  obtain ⟨kvs, h1, h2, h3⟩ := h
  obtain ⟨kv, hp⟩ := PA.is
  exact ⟨kvs, b _ _ h1 dp, h2, fun j => (h3 j).imp id fun ⟨a, e1, e2, e3⟩ => ⟨a, e1, e2, b _ _ e3 (ne_of e3 hp fun z => nomatch z)⟩⟩
def spPl (K : PySem.W.Frag) : Sp := fun vs H Q _ => ∃ p pl n d dr, vs = [.ref p, .ref d] ∧ PenAt H p pl n ∧ n ≤ 800000 ∧ DrOk dr ∧ DrAt K H d dr ∧ d ≠ p ∧
  ∀ a NA rw H', MkOk dr NA → rw.length = dr.ords.length → RwOk dr NA rw → LnT H' a (headRows dr ++ rowsB NA rw (dr.ords.length + 1)) → PenAt H' p pl (n + 100) → But p H H' → H a = none → Q (.ref a) H'
abbrev nPl : List Str := ["_law_pen_here", "_law_program_here", "_law_lines", "_law_marks_here", "_law_number", "_law_name_here"]
theorem scPl : FnScope nPl ["_law_pen_here", "_law_program_here"] (defScope (top 67)) := ⟨rfl, rfl, rfl, by decide +kernel, rfl, by decide +kernel, by decide +kernel⟩
theorem ok_Pl (F : FnT K "_law_program_lines" 67 f fd) (TX : Txt mg)
    (FMk : FnT K "_law_marks" 65 fMk fdMk) (gMk : mg "_law_marks" = some (.ref fMk)) (GMk : FnOk P w K mg base CX0 3 fMk fdMk ["_law_pen_here", "_law_program_here"] (spMk K))
    (FOw : FnT K "_law_order_words" 66 fOw fdOw) (gOw : mg "_law_order_words" = some (.ref fOw)) (GOw : FnOk P w K mg base CX0 3 fOw fdOw ["_law_pen_here", "_law_program_here", "_law_marks_here", "_law_order"] (spOw K)) : FnOk P w K mg base CX0 4 f fd ["_law_pen_here", "_law_program_here"] (spPl K) := by
  refine F.ok scPl (fun vs H Q E h => by obtain ⟨p, pl, n, d, dr, rfl, _⟩ := h; rfl) (fun cdv A outer s0 H vs Q E hr h => ?_)
  obtain ⟨p, pl, n, d, dr, rfl, PA, hn, ok, at_, dp, q⟩ := h
  have nd := scPl.nd
  have hu := hr.units
  have hu1 := hu_of hr
  have bMk : L2.Binds K fdMk ["_law_pen_here", "_law_program_here"] [] := FunD.bindsN FMk fun _ _ _ _ _ _ us hl => match us, hl with | [_, _], _ => rfl
  have bOw : L2.Binds K fdOw ["_law_pen_here", "_law_program_here", "_law_marks_here", "_law_order"] [] := FunD.bindsN FOw fun _ _ _ _ _ _ us hl => match us, hl with | [_, _, _, _], _ => rfl
  suffices z : ∃ tt, PSs (cxOf CX0 P w K mg base nPl "_law_program_lines" (defScope (top 67)) f cdv A outer s0 H E).nox (defBody (top 67)) tt ∧ tt { nx := fun _ H' => Q .non H', rt := Q } (start nPl [.ref p, .ref d]) H by
    obtain ⟨tt, h1, h2⟩ := z
    exact ⟨tt, h1.nox, h2⟩
  refine ⟨_, pss_cons (ps_asg (pe_lst (pa_cons (pe_op op_cat (pe_lst (pa_cons pe_str pa_nil)) (pe_dget hu1 (pv 1) pe_str (fun _ _ => rfl))) (pa_cons (pe_op op_cat (pe_lst (pa_cons pe_str pa_nil)) (pe_dget hu1 (pv 1) pe_str (fun _ _ => rfl))) pa_nil))) (pg_name (i := 2) nd rfl (.inl rfl)))
    (pss_cons (ps_asg (pe_call GMk (hr.mono (by decide)) (by rfl) gMk FMk.kp bMk .nil pass0 (pa_cons (pv 0) (pa_cons (pv 1) pa_nil))) (pg_name (i := 3) nd rfl (.inl rfl)))
    (pss_cons (ps_for PassesOwn.never rfl (pi_range1 (by rfl) TX.range (pa_cons (pe_op op_add (pe_callB call_len_seq (by rfl) TX.len PySem.boot_len (pa_cons (pe_dget hu1 (pv 1) pe_str (fun _ _ => rfl)) pa_nil)) pe_int) pa_nil)) (pg_name (i := 4) nd rfl (.inl rfl))
    (pss_cons (ps_asg (pe_op op_cat (pv 2) (pe_lc (own := [("_law_name_here", 5)]) (g := gName 5) (tt := tYes) (te := (tLst (tCons (tC (.str "at")) (tCons (tVar 5) tNil)))) (by rfl) nd (pi_list (pe_dget2 hu1 (pv 3) (pv 4) (pe_lst pa_nil) ⟨rfl, rfl, rfl, rfl⟩)) (blkOk_by (own := [("_law_name_here", 5)]) (N := nPl) (sc := defScope (top 67)) (by decide +kernel)) (fun _ _ _ _ _ => (pg_name (i := 5) nd rfl (.inl rfl))) (fun _ _ _ _ _ => pts_nil) (fun _ _ _ _ _ => (pe_lst (pa_cons pe_str (pa_cons (pv 5) pa_nil)))))) (pg_name (i := 2) nd rfl (.inl rfl)))
    (pss_one (ps_if (pt_cmpR op_lt (pv 4) (pe_callB call_len_seq (by rfl) TX.len PySem.boot_len (pa_cons (pe_dget hu1 (pv 1) pe_str (fun _ _ => rfl)) pa_nil)) (nomark _)) (pss_one (ps_expr (pe_bm PySem.F.plainAttrs_list PySem.F.slot_list_append PySem.F.type_list_append mt_append (pv 2) (pa_cons (pe_call GOw (hr.mono (by decide)) (by rfl) gOw FOw.kp bOw .nil pass0 (pa_cons (pv 0) (pa_cons (pv 1) (pa_cons (pv 3) (pa_cons (pe_ix ix_list (pe_dget hu1 (pv 1) pe_str (fun _ _ => rfl)) (pv 4) (fun _ _ => rfl)) pa_nil))))) pa_nil)))) pss_nil))))
    (pss_one (ps_ret (pv 2))))), ?_⟩
  clear bMk bOw
  have at0 := at_
  obtain ⟨ar, ac, ao, zs, hd, har, hac, hao, hos⟩ := at_
  have zl := Paired.length hos
  have few := ok.few
  have r3 := ok.r3
  have c3 := ok.c3
  refine ⟨(by show 1 ≤ sizeLine; decide), fun l1 nl1 => ?_⟩
  have s1 := same_upd (o := .lst [.str "registers"]) nl1
  refine ⟨_, rfl, d, .ref ar, rfl, .inl ⟨_, .inr "registers", .inl (s1 _ _ hd), rfl, by kernel_rfl⟩, l1, ar, _, _, rfl, rfl, upd_same, s1 _ _ har, by rw [List.length_map, sizeLine_eq]; show 1 + _ ≤ _; omega, fun q1 nq1 => ?_⟩
  have s2 := same_upd (o := .lst ([.str "registers"] ++ dr.regs.map V.str)) nq1
  have hq1 := upd_same (H := upd H l1 (.lst [.str "registers"])) (a := q1) (o := .lst ([.str "registers"] ++ dr.regs.map V.str))
  have s02 := same_trans s1 s2
  generalize upd (upd H l1 (.lst [.str "registers"])) q1 (.lst ([.str "registers"] ++ dr.regs.map V.str)) = H2 at s02 hq1 ⊢
  refine ⟨(by show 1 ≤ sizeLine; decide), fun l2 nl2 => ?_⟩
  have s3 := same_upd (o := .lst [.str "colours"]) nl2
  refine ⟨_, rfl, d, .ref ac, rfl, .inl ⟨_, .inr "colours", .inl (s3 _ _ (s02 _ _ hd)), rfl, by kernel_rfl⟩, l2, ac, _, _, rfl, rfl, upd_same, s3 _ _ (s02 _ _ hac), by rw [List.length_map, sizeLine_eq]; show 1 + _ ≤ _; omega, fun q2 nq2 => ?_⟩
  have s4 := same_upd (o := .lst ([.str "colours"] ++ dr.cols.map V.str)) nq2
  have hq2 := upd_same (H := upd H2 l2 (.lst [.str "colours"])) (a := q2) (o := .lst ([.str "colours"] ++ dr.cols.map V.str))
  have s24 := same_trans s3 s4
  generalize upd (upd H2 l2 (.lst [.str "colours"])) q2 (.lst ([.str "colours"] ++ dr.cols.map V.str)) = H4 at s24 hq2 ⊢
  refine ⟨(by show 2 ≤ sizeLine; decide), fun L nL => ?_⟩
  have s5 := same_upd (o := .lst [.ref q1, .ref q2]) nL
  have s05 := same_trans s02 (same_trans s24 s5)
  have ln5 : LnT (upd H4 L (.lst [.ref q1, .ref q2])) L (headRows dr) := ⟨[.ref q1, .ref q2], upd_same, .cons ⟨q1, rfl, s5 _ _ (s24 _ _ hq1)⟩ (.cons ⟨q2, rfl, s5 _ _ hq2⟩ .nil)⟩
  have PA4 := PA.keep (same_trans s02 s24)
  obtain ⟨Lp, Lpl⟩ := nap_ PA4 nL
  have LH : H L = none := none_back (But.same (same_trans s02 s24)) Lp nL
  have PA5 := PA4.keep s5
  generalize upd H4 L (.lst [.ref q1, .ref q2]) = H5 at s05 ln5 PA5 ⊢
  clear s1 s2 s3 s4 s5 s24 s02 hq1 hq2 nl1 nl2 nq1 nq2 nL PA4 H2 H4
  refine ⟨_, rfl, _, rfl, p, pl, n, d, dr, rfl, PA5, by omega, ok, at0.same s05, dp, fun dm NA H6 mo mk6 PA6 b6 nd6 => ?_⟩
  obtain ⟨dmp, dmpl⟩ := nap_ PA5 nd6
  have ln6 := ln5.pen PA5 b6
  have b06 := But.trans (But.same s05) b6
  have at6 := at0.but PA b06 dp
  have lsp : ∀ q ys, H q = some (.lst ys) → q ≠ p := fun q ys e => by
    obtain ⟨kv, hp⟩ := PA.is
    exact ne_of e hp fun z => nomatch z
  have hd6 := b06 _ _ hd dp
  have hao6 := b06 _ _ hao (lsp _ _ hao)
  refine ⟨_, rfl, d, .ref ao, rfl, .inl ⟨_, .inr "orders", .inl hd6, rfl, by kernel_rfl⟩, ao, _, rfl, .inl (SqL.of hao6), _, 1, rfl, rfl, ((zs.length + 1 : Nat) : Int), rfl, by omega, by omega, ?_⟩
  refine for_it (walk_range (lo := 0) (n := zs.length + 1)) (fun i σ H' => ∃ L rw o4, σ = [some (.ref p), some (.ref d), some (.ref L), some (.ref dm), o4, none] ∧ PenAt H' p pl (n + 60 + 2 * i) ∧ But p H6 H' ∧ H L = none ∧ rw.length = min i zs.length ∧ RwOk dr NA rw ∧ LnT H' L (headRows dr ++ rowsB NA rw i) ∧ (headRows dr ++ rowsB NA rw i).length ≤ 2 + 3 * i)
    ⟨L, [], none, rfl, PA6, But.refl, LH, (Nat.zero_min _).symm, fun k o r _ h => (by simp at h), (by rw [show rowsB NA [] 0 = [] from rfl, List.append_nil]; exact ln6), Nat.le_refl _⟩ (fun _ _ _ _ _ => trivial) ?_ ?_
  · rintro i y σ H8 H7 hi ⟨L7, rw, o4, rfl, PA7, b67, LH7, rl, rk, ln7, lb⟩ ⟨rfl, rfl⟩
    have b07 := But.trans b06 b67
    have at7 := at6.but PA6 b67 dp
    obtain ⟨kvs, hdm7, kl, look⟩ := mk6.pen PA6 b67 dmp
    obtain ⟨ar', ac', ao', zs', e1, e2, e3, e4, e5⟩ := at7
    have ln7' := ln7
    obtain ⟨xs, hL7, hrw⟩ := ln7
    have xl := Paired.length hrw
    have nf := mo.few i
    refine ⟨_, rfl, _, rfl, dm, rfl, .inl ⟨_, .inl hdm7⟩, _, rfl, (by show 0 ≤ sizeLine; exact Nat.zero_le _), fun l0 nl0 => ?_⟩
    change H7 l0 = none at nl0
    have s8 := same_upd (o := .lst ([] : List V)) nl0
    have hl0 := upd_same (H := H7) (a := l0) (o := .lst ([] : List V))
    generalize upd H7 l0 (.lst ([] : List V)) = H8 at s8 hl0 ⊢
    refine ⟨valV kvs (.inl (0 + (i : Nat))), .inl ⟨_, .inl (0 + (i : Nat)), .inl (s8 _ _ hdm7), rfl, rfl⟩, ?_⟩
    obtain ⟨la, ela, hla⟩ : ∃ la, (valV kvs (.inl (0 + (i : Nat)))).getD (.ref l0) = .ref la ∧ H8 la = some (.lst ((NA i).map V.str)) := by
      rw [Int.zero_add]
      rcases look i with ⟨h1, h2⟩ | ⟨a, h1, h2, h3⟩
      · rw [h2, h1]
        exact ⟨l0, rfl, hl0⟩
      · rw [h2]
        exact ⟨a, rfl, s8 _ _ h3⟩
    rw [ela]
    refine ⟨la, rfl, ⟨_, SqL.of hla⟩, fun D nD => ?_⟩
    refine lc_it (walk_list (K := K) (a := la) (xs := (NA i).map V.str)) (fun j H' => Same H8 H' ∧ ∃ ys, H' D = some (.lst ys) ∧ ys.length ≤ j ∧ Paired (fun (r : List Str) (v : V) => ∃ q, v = .ref q ∧ H' q = some (.lst (r.map V.str)) ∧ q ≠ D) (((NA i).take j).map atR) ys) ⟨same_upd nD, [], upd_same, Nat.le_refl _, .nil⟩ (fun j H' _ p => SqL.of (p.1 _ _ hla)) ?_ ?_
    · rintro j x H10 H9 hj ⟨s9, ys, hD, yl, pr⟩ ⟨rfl, hx⟩
      rw [List.getElem?_map] at hx
      obtain ⟨z, hz, rfl⟩ := Option.map_eq_some_iff.mp hx
      rw [List.length_map] at hj
      refine ⟨rfl, yes_if ⟨_, rfl, (by show 2 ≤ sizeLine; decide), fun q nq => ⟨ys, same_upd nq _ _ hD, by rw [sizeLine_eq]; omega, fun b o e => ?_, _, upd_same, ?_, ?_⟩⟩⟩
      · rw [upd_ne (ne_of_none e nD)]
        exact same_upd nq _ _ (s9 _ _ e)
      · rw [List.length_append]
        exact Nat.succ_le_succ yl
      · have e : ((NA i).take (j + 1)).map atR = ((NA i).take j).map atR ++ [atR z] := by
          rw [List.take_add_one, hz, List.map_append]
          rfl
        rw [e]
        have qD : q ≠ D := Ne.symm (ne_of_none hD nq)
        refine Paired.snoc (Paired.mapP pr fun r v ⟨q', e, h, n⟩ => ⟨q', e, by rw [upd_ne n]; exact same_upd nq _ _ h, n⟩) ⟨q, rfl, by rw [upd_ne qD]; exact upd_same, qD⟩
    rintro H9 ⟨s9, ys, hD, yl, pr⟩
    rw [List.length_map, List.take_length] at pr
    rw [List.length_map] at yl
    have s79 := same_trans s8 s9
    refine ⟨L7, D, xs, ys, rfl, rfl, s79 _ _ hL7, hD, by rw [sizeLine_eq]; omega, fun L2 nL2 => ?_⟩
    have s10 := same_upd (o := .lst (xs ++ ys)) nL2
    have s710 := same_trans s79 s10
    have PA9 := PA7.keep s79
    obtain ⟨L2p, L2pl⟩ := nap_ PA9 nL2
    have b09 := But.trans b07 (But.same s79)
    have L2H : H L2 = none := none_back b09 L2p nL2
    have L26 : ∀ b o, H6 b = some o → b ≠ p → b ≠ L2 := fun b o e n1 => ne_of_none (s79 _ _ (b67 _ _ e n1)) nL2
    have ln10 : LnT (upd H9 L2 (.lst (xs ++ ys))) L2 ((headRows dr ++ rowsB NA rw i) ++ (NA i).map atR) := ⟨xs ++ ys, upd_same, paired_app (Paired.mapP hrw fun r v ⟨q, e, h⟩ => ⟨q, e, s710 _ _ h⟩) (Paired.mapP pr fun r v ⟨q, e, h, _⟩ => ⟨q, e, s10 _ _ h⟩)⟩
    have PA10 := PA9.keep s10
    have b10 := But.trans b67 (But.same s710)
    have hL2 := upd_same (H := H9) (a := L2) (o := .lst (xs ++ ys))
    have rowsne : ∀ q zs2, H9 q = some (.lst zs2) → q ≠ L2 := fun q zs2 e => ne_of_none e nL2
    have hd10 := s710 _ _ (b67 _ _ hd6 dp)
    have hao10 := s710 _ _ (b67 _ _ hao6 (lsp _ _ hao))
    have pr9 : Paired (fun (r : List Str) (v : V) => ∃ q, v = .ref q ∧ upd H9 L2 (.lst (xs ++ ys)) q = some (.lst (r.map V.str)) ∧ q ≠ L2) ((headRows dr ++ rowsB NA rw i) ++ (NA i).map atR) (xs ++ ys) := paired_app (Paired.mapP hrw fun r v ⟨q, e, h⟩ => ⟨q, e, s710 _ _ h, rowsne _ _ (s79 _ _ h)⟩) (Paired.mapP pr fun r v ⟨q, e, h, _⟩ => ⟨q, e, s10 _ _ h, rowsne _ _ h⟩)
    generalize upd H9 L2 (.lst (xs ++ ys)) = H10 at s710 ln10 PA10 b10 hL2 hd10 hao10 pr9 ⊢
    have at10 := at6.but PA6 b10 dp
    have mk10 := mk6.pen PA6 b10 dmp
    have lnl : ((headRows dr ++ rowsB NA rw i) ++ (NA i).map atR).length ≤ 2 + 3 * i + 2 := by
      rw [List.length_append, List.length_map]
      omega
    refine ⟨_, rfl, _, rfl, d, .ref ao, rfl, .inl ⟨_, .inr "orders", .inl hd10, rfl, by kernel_rfl⟩, ao, _, rfl, .inl (SqL.of hao10), _, _, rfl, rfl, decide ((0 + (i : Nat) : Int) < (zs.length : Nat)), rfl, ?_⟩
    by_cases c : i < zs.length
    · rw [decide_eq_true (by omega)]
      obtain ⟨v, hv⟩ : ∃ v, zs[i]? = some v := ⟨zs[i]'c, List.getElem?_eq_getElem c⟩
      obtain ⟨o, ho, qo, rfl, hqo⟩ := pairW hos hv
      have tu := Tups.trans (pen_tups PA b06) (pen_tups PA6 b10)
      refine iteT ⟨_, rfl, .inl ⟨rfl, _, SqL.of hL2⟩, _, rfl, _, rfl, _, rfl, _, rfl, d, .ref ao, rfl, .inl ⟨_, .inr "orders", .inl hd10, rfl, by kernel_rfl⟩, _, rfl, ao, zs, _, .ref qo, rfl, rfl, SqL.of hao10, by rw [Int.zero_add]; exact atI_nat hv, p, pl, _, d, dm, qo, dr, NA, o, rfl, PA10, by omega, ok, at10, mo, mk10, SqT.tups tu hqo, List.mem_of_getElem? ho, dp, dmp, fun a row H11 ro PA11 b11 na ha => ?_⟩
      have hL11 := b11 _ _ hL2 L2p
      refine ⟨L2, xs ++ ys, .ref a, rfl, rfl, hL11, by rw [List.length_append, sizeLine_eq]; omega, ?_⟩
      have rl2 : rw.length = i := by rw [rl]; omega
      have aL : a ≠ L2 := fun z => by rw [z] at na; rw [na] at hL2; cases hL2
      have lsp10 : ∀ q zs2, H10 q = some (.lst zs2) → q ≠ p := fun q zs2 e => by
        obtain ⟨kv, hp⟩ := PA10.is
        exact ne_of e hp fun z => nomatch z
      have erow : headRows dr ++ rowsB NA (rw ++ [row]) (i + 1) = ((headRows dr ++ rowsB NA rw i) ++ (NA i).map atR) ++ [row] := by
        rw [rowsB_succ, rowsB_app NA rw row i (by omega), List.getElem?_append_right (by omega), rl2, Nat.sub_self]
        simp
      refine ⟨L2, rw ++ [row], _, rfl, (PA11.other L2p L2pl).mono (by omega), fun b o e n1 => ?_, L2H, by rw [List.length_append, rl2]; show i + 1 = _; omega, fun k o' r hk hr => ?_, ?_, ?_⟩
      · rw [upd_ne (L26 _ _ e n1)]
        exact b11 _ _ (b10 _ _ e n1) n1
      · by_cases ck : k < i
        · rw [List.getElem?_append_left (by omega)] at hr
          exact rk k o' r hk hr
        · rw [List.getElem?_append_right (by omega), rl2] at hr
          have ek : k - i = 0 := by
            cases e : k - i with
            | zero => rfl
            | succ m => rw [e] at hr; cases hr
          rw [ek] at hr
          cases hr
          have : k = i := by omega
          subst this
          rw [ho] at hk
          cases hk
          exact ro
      · rw [erow]
        exact ⟨(xs ++ ys) ++ [.ref a], upd_same, Paired.snoc (Paired.mapP pr9 fun r v ⟨q, e, h, n1⟩ => ⟨q, e, by rw [upd_ne n1]; exact b11 _ _ h (lsp10 _ _ h)⟩) ⟨a, rfl, by rw [upd_ne aL]; exact ha⟩⟩
      · rw [erow, List.length_append]
        show _ + 1 ≤ _
        omega
    · rw [decide_eq_false (by omega)]
      have ei : i = zs.length := by omega
      have rl2 : rw.length = zs.length := by rw [rl]; omega
      have erow : headRows dr ++ rowsB NA rw (i + 1) = (headRows dr ++ rowsB NA rw i) ++ (NA i).map atR := by
        rw [rowsB_succ, List.getElem?_eq_none (by omega)]
        simp
      refine iteF ⟨L2, rw, _, rfl, PA10.mono (by omega), b10, L2H, by rw [rl2]; omega, rk, ?_, ?_⟩
      · rw [erow]
        exact ln10
      · rw [erow]
        omega
  · rintro σ H7 ⟨L7, rw, o4, rfl, PA7, b67, LH7, rl, rk, ln7, lb⟩
    rw [← zl] at ln7
    exact ⟨_, rfl, q L7 NA rw H7 mo (by rw [rl]; omega) rk ln7 (PA7.mono (by omega)) (But.trans b06 b67) LH7⟩
end
end K23

set_option Elab.async false
set_option linter.all false
set_option maxRecDepth 100000
set_option maxHeartbeats 4000000
namespace K23
open PySem PySem.Spec PyProof.Rows L2 Pen Tr AK LamX RL
/-! ### texts -/
def lineS (r : List Str) : Str := Txt.join " " r
def textOf (rows : List (List Str)) : Str := Txt.join "" (rows.map fun r => lineS r ++ "\n")
/-- rows that are short -/
structure Bd (m : Nat) (rows : List (List Str)) : Prop where
  few : rows.length ≤ 40 + m
  row : ∀ r ∈ rows, r.length ≤ 5 + m
  ne : ∀ r ∈ rows, r ≠ []
  wd : ∀ r ∈ rows, ∀ x ∈ r, x.length ≤ 13 + m
theorem joinL_len (S : List Nat) : ∀ ps : List (List Nat), (TL.joinL S ps).length ≤ (ps.map List.length).sum + ps.length * S.length
  | [] => by simp [TL.joinL]
  | [p] => by
    show p.length ≤ p.length + 0 + 1 * S.length
    omega
  | p :: q :: r => by
    have ih := joinL_len S (q :: r)
    show (p ++ (S ++ TL.joinL S (q :: r))).length ≤ _
    rw [List.length_append, List.length_append, List.map_cons, List.sum_cons, List.length_cons, Nat.succ_mul]
    omega
theorem join_len (y : Str) (ps : List Str) : (Txt.join y ps).length ≤ (ps.map (·.length)).sum + ps.length * y.length := by
  have h := joinL_len (tl y) (ps.map tl)
  rw [TL.join_eq, tl_len, show tl (Str.join y ps) = TL.joinL (tl y) (ps.map tl) from TL.tl_join y ps, tl_len]
  have e : ((ps.map tl).map List.length) = ps.map (·.length) := by
    rw [List.map_map]
    exact List.map_congr_left fun p _ => (tl_len p).symm
  rw [e, List.length_map] at h
  exact h
theorem sum_le {b : Nat} : ∀ l : List Nat, (∀ x ∈ l, x ≤ b) → l.sum ≤ l.length * b
  | [], _ => Nat.zero_le _
  | x :: l, h => by
    have ih := sum_le l fun y hy => h y (List.mem_cons_of_mem _ hy)
    have := h x (List.mem_cons_self ..)
    rw [List.sum_cons, List.length_cons, Nat.succ_mul]
    omega
theorem words_sum {r : List Str} {n b : Nat} (h1 : r.length ≤ n) (h2 : ∀ x ∈ r, x.length ≤ b) : (r.map (·.length)).sum + r.length * 1 ≤ n * (b + 1) := by
  have s := sum_le (b := b) (r.map (·.length)) fun x hx => by
    obtain ⟨y, hy, rfl⟩ := List.mem_map.mp hx
    exact h2 y hy
  rw [List.length_map] at s
  have : r.length * (b + 1) ≤ n * (b + 1) := Nat.mul_le_mul_right _ h1
  rw [Nat.mul_succ] at this
  omega
theorem Bd.line {m : Nat} {rows : List (List Str)} (h : Bd m rows) (hm : m ≤ 4) {r : List Str} (hr : r ∈ rows) : (r.map (·.length)).sum + r.length * 1 ≤ 162 ∧ (lineS r).length ≤ 162 := by
  have w := words_sum (h.row r hr) (h.wd r hr)
  have : (5 + m) * (13 + m + 1) ≤ 9 * 18 := Nat.mul_le_mul (by omega) (by omega)
  have j := join_len " " r
  have e : (Str.ofString " ").length = 1 := by decide +kernel
  rw [e] at j
  exact ⟨by omega, by show (Txt.join " " r).length ≤ _; omega⟩
section
variable {P : Program} {w : World} {K : PySem.W.Frag} {mg : Str → Option PySem.Value} {base : Heap} {f : Addr} {fd : FuncData} {H H' : Hp}
def spTo (K : PySem.W.Frag) : Sp := fun vs H Q _ => ∃ a rows, vs = [.ref a] ∧ LnT H a rows ∧ Bd 0 rows ∧ ∀ H', Same H H' → Q (.str (textOf rows)) H'
abbrev nTo : List Str := ["_law_lines", "_law_words"]
theorem scTo : FnScope nTo ["_law_lines"] (defScope (top 68)) := ⟨rfl, rfl, rfl, by decide +kernel, rfl, by decide +kernel, by decide +kernel⟩
theorem ok_To (F : FnT K "_law_text_of" 68 f fd) (TX : Txt mg) : FnOk P w K mg base CX0 1 f fd ["_law_lines"] (spTo K) := by
  refine F.ok scTo (fun vs H Q E h => by obtain ⟨a, rows, rfl, _⟩ := h; rfl) (fun cdv A outer s0 H vs Q E hr h => ?_)
  obtain ⟨a, rows, rfl, ln, bd, q⟩ := h
  have nd := scTo.nd
  have hu := hr.units
  have hu1 := hu_of hr
  suffices z : ∃ tt, PSs (cxOf CX0 P w K mg base nTo "_law_text_of" (defScope (top 68)) f cdv A outer s0 H E).nox (defBody (top 68)) tt ∧ tt { nx := fun _ H' => Q .non H', rt := Q } (start nTo [.ref a]) H by
    obtain ⟨tt, h1, h2⟩ := z
    exact ⟨tt, h1.nox, h2⟩
  refine ⟨_, pss_one (ps_ret (pe_join pe_str (pe_lc (own := [("_law_words", 1)]) (g := gName 1) (tt := tYes) (te := (tOp (fun x y H Q => ∃ i j, x = .str i ∧ y = .str j ∧ i.length + j.length ≤ sizeLine ∧ Q (.str (i ++ j)) H) (tM1 (fun x xs H Q => ∃ a p, ∃ ys : List Str, x = .str a ∧ xs = [.ref p] ∧ (SqL K H p (ys.map V.str) ∨ SqT K H p (ys.map V.str)) ∧ (ys.map (·.length)).sum + ys.length * a.length ≤ 16777216 ∧ Q (.str (Txt.join a ys)) H) (tC (.str " ")) (tVar 1)) (tC (.str "\n")))) (by rfl) nd (pi_list (pv 0)) (blkOk_by (own := [("_law_words", 1)]) (N := nTo) (sc := defScope (top 68)) (by decide +kernel)) (fun _ _ _ _ _ => (pg_name (i := 1) nd rfl (.inl rfl))) (fun _ _ _ _ _ => pts_nil) (fun _ _ _ _ _ => (pe_op op_add_str (pe_join pe_str (pv 1)) pe_str))))), ?_⟩
  obtain ⟨xs, ha, hrw⟩ := ln
  have xl := Paired.length hrw
  have few := bd.few
  refine ⟨⟨_, rfl⟩, _, rfl, a, rfl, ⟨_, SqL.of ha⟩, fun D nD => ?_⟩
  refine lc_it (walk_list (K := K) (a := a) (xs := xs)) (fun j H' => Same H H' ∧ H' D = some (.lst (((rows.take j).map fun r => lineS r ++ "\n").map V.str))) ⟨same_upd nD, upd_same⟩ (fun j H' _ p => SqL.of (p.1 _ _ ha)) ?_ ?_
  · rintro j x H3 H2 hj ⟨s2, hD⟩ ⟨rfl, hx⟩
    obtain ⟨r, hr, q, rfl, hq⟩ := pairW hrw hx
    obtain ⟨b1, b2⟩ := bd.line (by decide) (List.mem_of_getElem? hr)
    have e1 : (Str.ofString " ").length = 1 := by decide +kernel
    refine ⟨rfl, yes_if ⟨⟨_, rfl⟩, _, rfl, _, q, r, rfl, rfl, .inl (SqL.of (s2 _ _ hq)), by rw [e1]; omega, lineS r, "\n", rfl, rfl, ?_, _, hD, ?_, fun b o e => ?_, ?_⟩⟩
    · rw [show (Str.ofString "\n").length = 1 by decide +kernel, sizeLine_eq]
      omega
    · rw [List.length_map, List.length_map, List.length_take, sizeLine_eq]
      omega
    · rw [upd_ne (ne_of_none e nD)]
      exact s2 _ _ e
    · rw [upd_same, List.take_add_one, hr, List.map_append, List.map_append]
      rfl
  · rintro H2 ⟨s2, hD⟩
    rw [← xl, List.take_length] at hD
    refine ⟨_, D, _, rfl, rfl, .inl (SqL.of hD), ?_, q H2 s2⟩
    rw [show (Str.ofString "").length = 0 by decide +kernel, Nat.mul_zero, Nat.add_zero]
    have s := sum_le (b := 163) ((rows.map fun r => lineS r ++ "\n").map (·.length)) fun x hx => by
      obtain ⟨y, hy, rfl⟩ := List.mem_map.mp hx
      obtain ⟨r, hr, rfl⟩ := List.mem_map.mp hy
      have := (bd.line (by decide) hr).2
      rw [tl_len, tl_app, List.length_append, ← tl_len]
      show _ + 1 ≤ _
      omega
    rw [List.length_map, List.length_map] at s
    refine Nat.le_trans s ?_
    have : rows.length * 163 ≤ 40 * 163 := Nat.mul_le_mul_right _ few
    omega
end
/-! ### what is printed is read back -/
theorem tl_inj {x y : Str} (h : tl x = tl y) : x = y := by
  obtain ⟨a⟩ := x
  obtain ⟨b⟩ := y
  have : a.toList = b.toList := h
  rw [Array.toList_inj.mp this]
theorem joinL_nil : ∀ ps : List (List Nat), TL.joinL [] ps = ps.flatten
  | [] => rfl
  | [p] => by simp [TL.joinL]
  | p :: q :: r => by
    show p ++ ([] ++ TL.joinL [] (q :: r)) = _
    rw [joinL_nil (q :: r)]
    rfl
theorem joinL_end (c : Nat) : ∀ ps : List (List Nat), TL.joinL [c] (ps ++ [[]]) = (ps.map (· ++ [c])).flatten
  | [] => rfl
  | [p] => by simp [TL.joinL]
  | p :: q :: r => by
    show p ++ ([c] ++ TL.joinL [c] ((q :: r) ++ [[]])) = _
    rw [joinL_end c (q :: r)]
    simp
theorem text_join (rows : List (List Str)) : textOf rows = Txt.join "\n" (rows.map lineS ++ ([""] : List Str)) := by
  refine tl_inj ?_
  unfold textOf
  rw [TL.join_eq, TL.join_eq]
  show TL.tl (Str.join _ _) = TL.tl (Str.join _ _)
  rw [TL.tl_join, TL.tl_join]
  rw [show TL.tl (Str.ofString "") = [] by decide +kernel, show TL.tl (Str.ofString "\n") = [10] by decide +kernel, joinL_nil, List.map_append]
  rw [show [Str.ofString ""].map TL.tl = [[]] by decide +kernel, joinL_end, List.map_map, List.map_map, List.map_map]
  congr 1
  refine List.map_congr_left fun r _ => ?_
  show tl (lineS r ++ "\n") = tl (lineS r) ++ [10]
  rw [tl_app]
  rfl
/-- words that a line can hold -/
def wordOk (x : Str) : Prop := 32 ∉ tl x ∧ 10 ∉ tl x
theorem join_no {c : Nat} {r : List Str} (h : ∀ x ∈ r, c ∉ tl x) (hc : c ≠ 32) : c ∉ tl (lineS r) := by
  unfold lineS
  rw [TL.join_eq]
  show c ∉ TL.tl (Str.join _ _)
  rw [TL.tl_join, show TL.tl (Str.ofString " ") = [32] by decide +kernel]
  suffices z : ∀ ps : List (List Nat), (∀ p ∈ ps, c ∉ p) → c ∉ TL.joinL [32] ps from z _ fun p hp => by
    obtain ⟨x, hx, rfl⟩ := List.mem_map.mp hp
    exact h x hx
  intro ps
  induction ps with
  | nil => exact fun _ z => nomatch z
  | cons p ps ih =>
    intro hp
    cases ps with
    | nil => exact hp p (List.mem_cons_self ..)
    | cons q r =>
      show c ∉ p ++ ([32] ++ TL.joinL [32] (q :: r))
      intro hm
      rcases List.mem_append.mp hm with hm | hm
      · exact hp p (List.mem_cons_self ..) hm
      · rcases List.mem_append.mp hm with hm | hm
        · exact hc (List.mem_singleton.mp hm)
        · exact ih (fun p' hp' => hp p' (List.mem_cons_of_mem _ hp')) hm
theorem rows_back {rows : List (List Str)} (ne : ∀ r ∈ rows, r ≠ []) (wd : ∀ r ∈ rows, ∀ x ∈ r, wordOk x) : rowsT (textOf rows) = rows := by
  unfold rowsT linesT
  rw [text_join, TL.split_join (s := 10) (S := []) (by decide +kernel) (by decide +kernel) (by simp) (fun p hp => ?_)]
  · have e : lastLine (rows.map lineS ++ ([""] : List Str)) = rows.map lineS := by
      unfold lastLine
      simp
    rw [e, List.map_map]
    conv => rhs; rw [← List.map_id rows]
    refine List.map_congr_left fun r hr => ?_
    show Txt.split (Txt.join " " r) " " = r
    exact TL.split_join (s := 32) (S := []) (by decide +kernel) (by decide +kernel) (ne r hr) fun x hx => (wd r hr x hx).1
  · rcases List.mem_append.mp hp with hp | hp
    · obtain ⟨r, hr, rfl⟩ := List.mem_map.mp hp
      exact join_no (fun x hx => (wd r hr x hx).2) (by decide)
    · rw [List.mem_singleton.mp hp]
      decide +kernel
theorem nm_word {x : Str} (h : isNm x = true) : wordOk x := by
  have n := NmL.of h
  have no : ∀ c, signOk c = false → c ∉ tl x := fun c hc hm => by
    have := n.all c hm
    rw [hc] at this
    cases this
  exact ⟨no 32 (by decide +kernel), no 10 (by decide +kernel)⟩
end K23

set_option Elab.async false
set_option linter.all false
set_option maxRecDepth 100000
set_option maxHeartbeats 4000000
namespace K23
open PySem PySem.Spec PyProof.Rows L2 Pen Tr AK LamX RL
/-! ### the drawn program is read back -/
theorem nodup_idx {l : List Str} (h : l.Nodup) {a : Nat} {x : Str} (e : l[a]? = some x) : l.contains x = true ∧ l.idxOf x = a := by
  have m := List.mem_of_getElem? e
  have c := List.contains_iff_mem.mpr m
  refine ⟨c, ?_⟩
  have i := (idx_at c).1
  have hl : l.idxOf x < l.length := List.idxOf_lt_length_of_mem m
  exact (List.getElem?_inj hl h).mp (by rw [i, e])
theorem names_ok {rows : List (List Str)} {n most : Nat} {w : Str} {xs : List Str} (h : NmsOk xs) (h1 : 1 ≤ xs.length) (h2 : xs.length ≤ most) (hr : rows[n]? = some (w :: xs)) : namesR rows (n + 1) w most = .ok xs := by
  rw [namesR_at (number := n + 1) hr, if_neg (fun z => z rfl), nmFirst_no fun k hk => ?_]
  · show (if xs = [] then _ else _) = _
    rw [if_neg (fun e => by rw [e] at h1; exact absurd h1 (by decide))]
  · have gd : xs.getD k "" = xs[k] := by rw [List.getD_eq_getElem?_getD, List.getElem?_eq_getElem hk]; rfl
    unfold nmBad
    rw [gd, h.nm _ (List.getElem_mem hk), decide_eq_false (by omega)]
    show (false || (false || (xs.take k).contains xs[k])) = false
    cases c : (xs.take k).contains xs[k] with
    | false => rfl
    | true =>
      exfalso
      have m := List.contains_iff_mem.mp c
      obtain ⟨j, hj, e⟩ := List.getElem_of_mem m
      rw [List.length_take] at hj
      have hj2 : j < xs.length := by omega
      rw [List.getElem_take] at e
      have := (List.getElem?_inj hj2 h.nd (j := k)).mp (by rw [List.getElem?_eq_getElem hj2, List.getElem?_eq_getElem hk, e])
      omega
def allP (NA : Nat → List Str) (i : Nat) : Mks := (List.range i).flatMap fun k => (NA k).map fun x => (x, k)
theorem allP_succ (NA : Nat → List Str) (i : Nat) : allP NA (i + 1) = allP NA i ++ (NA i).map fun x => (x, i) := by
  unfold allP
  rw [List.range_succ, List.flatMap_append]
  simp
theorem allP_fst (NA : Nat → List Str) : ∀ i, (allP NA i).map (·.1) = allM NA i
  | 0 => rfl
  | i + 1 => by
    rw [allP_succ, allM_succ, List.map_append, allP_fst NA i, List.map_map]
    congr 1
    exact (List.map_congr_left fun x _ => rfl).trans (List.map_id _)
theorem any_fst (l : Mks) (x : Str) : (l.any fun p => decide (p.1 = x)) = (l.map (·.1)).contains x := by
  rw [Bool.eq_iff_iff, List.contains_iff_mem, List.any_eq_true, List.mem_map]
  exact ⟨fun ⟨p, h, e⟩ => ⟨p, h, of_decide_eq_true e⟩, fun ⟨p, h, e⟩ => ⟨p, h, decide_eq_true e⟩⟩
theorem lk_mem : ∀ {l : Mks}, (l.map (·.1)).Nodup → ∀ {x : Str} {k : Nat}, (x, k) ∈ l → lk l x = some k
  | [], _, _, _, h => absurd h List.not_mem_nil
  | e :: l, nd, x, k, h => by
    rw [List.map_cons] at nd
    obtain ⟨n1, n2⟩ := List.nodup_cons.mp nd
    unfold lk
    rw [List.find?_cons]
    rcases List.mem_cons.mp h with rfl | h
    · simp
    · have ne : e.1 ≠ x := fun z => n1 (by rw [z]; exact List.mem_map.mpr ⟨(x, k), h, rfl⟩)
      rw [decide_eq_false ne]
      exact lk_mem n2 h
theorem mk_ats : ∀ (xs : List Str) (st : Mks × Nat), (∀ x ∈ xs, isNm x = true) → ((st.1.map (·.1)) ++ xs).Nodup → (xs.map atR).foldl mkS st = (st.1 ++ xs.map (fun x => (x, st.2)), st.2)
  | [], st, _, _ => by simp
  | x :: xs, st, hn, nd => by
    have nin : x ∉ st.1.map (·.1) := fun h => (List.nodup_append.mp nd).2.2 x h x (List.mem_cons_self ..) rfl
    have e : mkS st (atR x) = (st.1 ++ [(x, st.2)], st.2) := by
      unfold mkS atR
      rw [if_neg (fun z => z rfl)]
      show (if isNm x = true then (if (st.1.any fun p => decide (p.1 = x)) = true then st else (st.1 ++ [(x, st.2)], st.2)) else st) = _
      rw [hn x (List.mem_cons_self ..), if_pos rfl, any_fst, if_neg (fun z => nin (List.contains_iff_mem.mp z))]
    rw [List.map_cons, List.foldl_cons, e, mk_ats xs _ (fun y hy => hn y (List.mem_cons_of_mem _ hy)) (by rw [List.map_append, List.append_assoc]; exact nd)]
    simp
theorem kind_word {w k : Str} (h : kindO w = some k) : w ≠ "at" ∧ wordOk w ∧ w.length ≤ 12 := by
  have a1 : ∀ e ∈ ordK, e.1 ≠ "at" := by decide +kernel
  have a2 : ∀ e ∈ ordK, 32 ∉ tl e.1 ∧ 10 ∉ tl e.1 := by decide +kernel
  have a3 : ∀ e ∈ ordK, e.1.length ≤ 12 := by decide +kernel
  exact ⟨a1 _ (kind_mem h), a2 _ (kind_mem h), a3 _ (kind_mem h)⟩
theorem row_head {dr : Dr} {NA : Nat → List Str} {o : List V} {r : List Str} (h : RowOf dr NA o r) : r.headD "" ≠ "at" := by
  obtain ⟨w, k, as, xs, h1, _, rfl, _⟩ := h
  exact (kind_word h1).1
section
variable {dr : Dr} {NA : Nat → List Str} {rw_ : List (List Str)}
theorem mk_rows (mo : MkOk dr NA) (hl : rw_.length = dr.ords.length) (rk : RwOk dr NA rw_) : ∀ i, i ≤ dr.ords.length + 1 → mkF (rowsB NA rw_ i) = (allP NA i, min i dr.ords.length)
  | 0, _ => by simp [rowsB, allP, mkF]
  | i + 1, hi => by
    have ih := mk_rows mo hl rk i (by omega)
    have fd : mkF (rowsB NA rw_ (i + 1)) = (rw_[i]?.toList).foldl mkS (((NA i).map atR).foldl mkS (mkF (rowsB NA rw_ i))) := by
      unfold mkF
      rw [rowsB_succ, List.foldl_append, List.foldl_append]
    have nd1 : (allM NA (i + 1)).Nodup := by
      have : ∀ m, (allM NA (i + 1 + m)).Nodup → (allM NA (i + 1)).Nodup := fun m => by
        induction m with
        | zero => exact id
        | succ m ih =>
          intro h
          rw [show i + 1 + (m + 1) = (i + 1 + m) + 1 by omega, allM_succ] at h
          exact ih (List.nodup_append.mp h).1
      refine this (dr.ords.length + 1 - (i + 1)) ?_
      rw [show i + 1 + (dr.ords.length + 1 - (i + 1)) = dr.ords.length + 1 by omega]
      exact mo.t.nd
    have nm : ∀ x ∈ NA i, isNm x = true := fun x hx => by
      have : x ∈ allM NA (dr.ords.length + 1) := List.mem_flatMap.mpr ⟨i, List.mem_range.mpr (by omega), hx⟩
      obtain ⟨b, hb, c, hc, rfl⟩ := mo.t.of x this
      exact (mark_nm hb (by omega)).nm (by decide)
    rw [fd, ih, mk_ats (NA i) _ nm (by rw [allP_fst, ← allM_succ]; exact nd1)]
    by_cases c : i < dr.ords.length
    · have hr : rw_[i]? = some (rw_[i]'(by omega)) := List.getElem?_eq_getElem (by omega)
      have ho : dr.ords[i]? = some (dr.ords[i]'c) := List.getElem?_eq_getElem c
      have hh := row_head (rk i _ _ ho hr)
      rw [hr]
      show mkS _ _ = _
      unfold mkS
      rw [if_pos hh, allP_succ]
      simp only [Prod.mk.injEq]
      rw [Nat.min_eq_left (by omega : i ≤ dr.ords.length)]
      exact ⟨rfl, by omega⟩
    · rw [List.getElem?_eq_none (by omega), allP_succ]
      show (_, _) = (_, _)
      simp only [Prod.mk.injEq]
      rw [Nat.min_eq_left (by omega : i ≤ dr.ords.length)]
      exact ⟨rfl, by omega⟩
theorem go_ats {kn : Kn} : ∀ (xs : List Str) (ms : List Str) (os : List (List V)) (n : Nat) (rest : List (List Str)), (∀ x ∈ xs, isNm x = true) → (ms ++ xs).Nodup → oGo kn n (ms, os) (xs.map atR ++ rest) = oGo kn (n + xs.length) (ms ++ xs, os) rest
  | [], ms, os, n, rest, _, _ => by simp
  | x :: xs, ms, os, n, rest, hn, nd => by
    have nin : x ∉ ms := fun h => (List.nodup_append.mp nd).2.2 x h x (List.mem_cons_self ..) rfl
    have ck : ckR ms (atR x) = none := by
      unfold atR
      rw [ckR, hn x (List.mem_cons_self ..)]
      cases c : ms.contains x with
      | true => exact absurd (List.contains_iff_mem.mp c) nin
      | false => rfl
    have e : oGo kn n (ms, os) (atR x :: (xs.map atR ++ rest)) = oGo kn (n + 1) (ms ++ [x], os) (xs.map atR ++ rest) := by
      rw [oGo, if_pos (show (atR x).headD "" = "at" from rfl), ck]
      rfl
    rw [List.map_cons, List.cons_append, e, go_ats xs (ms ++ [x]) os (n + 1) rest (fun y hy => hn y (List.mem_cons_of_mem _ hy)) (by rw [List.append_assoc]; exact nd), List.length_cons, List.append_assoc]
    rw [show n + 1 + xs.length = n + (xs.length + 1) by omega]
    rfl
theorem ord_back {kn : Kn} {o : List V} {r : List Str} (h : RowOf dr NA o r) (hk : ∀ (c a : Nat) (x : Str), (c = 82 → dr.regs[a]? = some x) → (c = 67 → dr.cols[a]? = some x) → (c = 76 → x ∈ NA a ∧ a ≤ dr.ords.length) → (c = 82 ∨ c = 67 ∨ c = 76) → valV (kn.at_ c) (Sum.inr x) = some (.int (a : Nat)))
    (hmax : ∀ (w k : Str) (as : List Nat), o = V.str w :: as.map (fun n : Nat => V.int (n : Nat)) → kindO w = some k → ∀ (i a : Nat), k.cps.toList[i]? = some 76 → as[i]? = some a → a ≤ dr.ords.length) : ordR kn r = .ok o := by
  obtain ⟨w, k, as, xs, h1, rfl, rfl, h4, h5, h6⟩ := h
  have sg := kind_signs h1
  have val : ∀ i (hi : i < k.cps.toList.length), valV (kn.at_ (k.cps.toList.getD i 0)) (Sum.inr ((w :: xs).getD (i + 1) "")) = some (.int ((as.getD i 0 : Nat) : Int)) := fun i hi => by
    have hc : k.cps.toList[i]? = some (k.cps.toList[i]) := List.getElem?_eq_getElem hi
    have ha : as[i]? = some (as[i]'(by omega)) := List.getElem?_eq_getElem (by omega)
    have hx : xs[i]? = some (xs[i]'(by omega)) := List.getElem?_eq_getElem (by omega)
    obtain ⟨z1, z2, z3⟩ := h6 i _ _ _ hc ha hx
    have e1 : k.cps.toList.getD i 0 = k.cps.toList[i] := by rw [List.getD_eq_getElem?_getD, hc]; rfl
    have e2 : (w :: xs).getD (i + 1) "" = xs[i]'(by omega) := by rw [List.getD_eq_getElem?_getD, List.getElem?_cons_succ, hx]; rfl
    have e3 : as.getD i 0 = as[i]'(by omega) := by rw [List.getD_eq_getElem?_getD, ha]; rfl
    rw [e1, e2, e3]
    exact hk _ _ _ z1 z2 (fun z => ⟨z3 z, hmax w k as rfl h1 i _ (by rw [hc, z]) ha⟩) (sg _ (List.getElem_mem hi))
  unfold ordR
  rw [show (w :: xs).headD "" = w from rfl, h1]
  simp only
  rw [ordFirst_no fun i hi => ?_]
  · simp only
    rw [if_neg (by rw [List.length_cons]; omega)]
    unfold toldVs
    congr 1
    show V.str w :: _ = V.str w :: _
    congr 1
    refine List.ext_getElem (by rw [List.length_map, List.length_map, List.length_range, h4]) fun i hi1 hi2 => ?_
    rw [List.length_map, List.length_range] at hi1
    rw [List.getElem_map, List.getElem_map, List.getElem_range]
    unfold toldV
    rw [val i hi1]
    show V.int ((as.getD i 0 : Nat) : Int) = _
    rw [List.getD_eq_getElem?_getD, List.getElem?_eq_getElem (by omega)]
    rfl
  · unfold ordBad
    rw [val i hi, decide_eq_false (by rw [List.length_cons]; omega)]
    rfl
theorem allM_nd (mo : MkOk dr NA) {i : Nat} (hi : i ≤ dr.ords.length + 1) : (allM NA i).Nodup := by
  have : ∀ m, (allM NA (i + m)).Nodup → (allM NA i).Nodup := fun m => by
    induction m with
    | zero => exact id
    | succ m ih =>
      intro h
      rw [show i + (m + 1) = (i + m) + 1 by omega, allM_succ] at h
      exact ih (List.nodup_append.mp h).1
  refine this (dr.ords.length + 1 - i) ?_
  rw [show i + (dr.ords.length + 1 - i) = dr.ords.length + 1 by omega]
  exact mo.t.nd
theorem NA_nm (mo : MkOk dr NA) {i : Nat} (hi : i < dr.ords.length + 1) : ∀ x ∈ NA i, NmL (tl x) 5 := fun x hx => by
  have : x ∈ allM NA (dr.ords.length + 1) := List.mem_flatMap.mpr ⟨i, List.mem_range.mpr hi, hx⟩
  obtain ⟨b, hb, c, hc, rfl⟩ := mo.t.of x this
  exact mark_nm hb (by omega)
theorem go_rows {kn : Kn} (mo : MkOk dr NA) (hl : rw_.length = dr.ords.length) (ob : ∀ (i : Nat) (o : List V) (r : List Str), dr.ords[i]? = some o → rw_[i]? = some r → ordR kn r = .ok o) (rk : RwOk dr NA rw_) : ∀ i, i ≤ dr.ords.length + 1 → ∀ (n : Nat) (rest : List (List Str)), ∃ n', oGo kn n ([], []) (rowsB NA rw_ i ++ rest) = oGo kn n' (allM NA i, dr.ords.take i) rest
  | 0, _, n, rest => ⟨n, by simp [rowsB, allM]⟩
  | i + 1, hi, n, rest => by
    obtain ⟨n1, e1⟩ := go_rows mo hl ob rk i (by omega) n ((NA i).map atR ++ (rw_[i]?.toList ++ rest))
    have nm : ∀ x ∈ NA i, isNm x = true := fun x hx => (NA_nm mo (by omega) x hx).nm (by decide)
    rw [rowsB_succ, List.append_assoc, List.append_assoc, e1, go_ats (NA i) _ _ _ _ nm (by rw [← allM_succ]; exact allM_nd mo hi), ← allM_succ]
    by_cases c : i < dr.ords.length
    · have hr : rw_[i]? = some (rw_[i]'(by omega)) := List.getElem?_eq_getElem (by omega)
      have ho : dr.ords[i]? = some (dr.ords[i]'c) := List.getElem?_eq_getElem c
      have hh := row_head (rk i _ _ ho hr)
      rw [hr]
      refine ⟨n1 + (NA i).length + 1, ?_⟩
      show oGo kn _ _ (_ :: rest) = _
      rw [oGo, if_neg hh, ob i _ _ ho hr]
      simp only
      rw [List.take_add_one, ho]
      rfl
    · rw [List.getElem?_eq_none (by omega)]
      refine ⟨n1 + (NA i).length, ?_⟩
      show oGo kn _ _ rest = _
      rw [List.take_of_length_le (by omega), List.take_of_length_le (by omega)]
theorem map_int_inj {as bs : List Nat} (h : as.map (fun n : Nat => V.int (n : Nat)) = bs.map (fun n : Nat => V.int (n : Nat))) : as = bs := by
  induction as generalizing bs with
  | nil =>
    cases bs with
    | nil => rfl
    | cons b bs => cases h
  | cons a as ih =>
    cases bs with
    | nil => cases h
    | cons b bs =>
      rw [List.map_cons, List.map_cons] at h
      injection h with h1 h2
      injection h1 with h1
      rw [ih h2, show a = b by omega]
/-- the drawn program is what is read -/
theorem read_back (ok : DrOk dr) (mo : MkOk dr NA) (hl : rw_.length = dr.ords.length) (rk : RwOk dr NA rw_) : readR (headRows dr ++ rowsB NA rw_ (dr.ords.length + 1)) = .ok dr.regs dr.cols dr.ords := by
  have n1 : namesR (headRows dr ++ rowsB NA rw_ (dr.ords.length + 1)) 1 "registers" 3 = .ok dr.regs := names_ok ok.r ok.r1 ok.r3 rfl
  have n2 : namesR (headRows dr ++ rowsB NA rw_ (dr.ords.length + 1)) 2 "colours" 4 = .ok dr.cols := names_ok ok.c ok.c1 (Nat.le_succ_of_le ok.c3) rfl
  have dp : (headRows dr ++ rowsB NA rw_ (dr.ords.length + 1)).drop 2 = rowsB NA rw_ (dr.ords.length + 1) := rfl
  have mk : marksR (headRows dr ++ rowsB NA rw_ (dr.ords.length + 1)) = allP NA (dr.ords.length + 1) := by
    unfold marksR
    rw [dp, mk_rows mo hl rk _ (Nat.le_refl _)]
  unfold readR
  rw [n1]
  simp only
  rw [n2]
  simp only
  rw [dp, mk]
  have ob : ∀ (i : Nat) (o : List V) (r : List Str), dr.ords[i]? = some o → rw_[i]? = some r → ordR ⟨numK dr.regs, numK dr.cols, mkK (allP NA (dr.ords.length + 1))⟩ r = .ok o := fun i o r ho hr => by
    refine ord_back (rk i o r ho hr) (fun c a x z1 z2 z3 hc => ?_) fun w k as eo hk j a hj ha => ?_
    · rcases hc with rfl | rfl | rfl
      · obtain ⟨c1, c2⟩ := nodup_idx ok.r.nd (z1 rfl)
        show valV (numK dr.regs) _ = _
        rw [numK_val, c1, if_pos rfl, c2]
      · obtain ⟨c1, c2⟩ := nodup_idx ok.c.nd (z2 rfl)
        show valV (numK dr.cols) _ = _
        rw [numK_val, c1, if_pos rfl, c2]
      · obtain ⟨hx, ha⟩ := z3 rfl
        show valV (mkK (allP NA (dr.ords.length + 1))) _ = _
        rw [mkK_val, lk_mem (l := allP NA (dr.ords.length + 1)) (k := a) (by rw [allP_fst]; exact mo.t.nd) (List.mem_flatMap.mpr ⟨a, List.mem_range.mpr (by omega), List.mem_map.mpr ⟨x, hx, rfl⟩⟩)]
        rfl
    · obtain ⟨w', k', as', h1, h2, h3, h4⟩ := ok.ord o (List.mem_of_getElem? ho)
      rw [eo] at h2
      injection h2 with h5 h6
      injection h5 with h5
      have e := map_int_inj h6
      subst h5 e
      rw [hk] at h1
      cases h1
      exact (h4 j 76 a hj ha).2.2 rfl
  obtain ⟨n', e⟩ := go_rows mo hl ob rk _ (Nat.le_refl _) 3 []
  rw [List.append_nil] at e
  rw [e, oGo]
  simp only
  rw [List.take_of_length_le (by omega)]
theorem len12 {x : Str} (h : isNm x = true) : x.length ≤ 12 := by
  rw [tl_len]
  exact (NmL.of h).few
/-- the rows that are drawn are short, and can be told -/
theorem rows_good (ok : DrOk dr) (mo : MkOk dr NA) (hl : rw_.length = dr.ords.length) (rk : RwOk dr NA rw_) : Bd 0 (headRows dr ++ rowsB NA rw_ (dr.ords.length + 1)) ∧ ∀ r ∈ headRows dr ++ rowsB NA rw_ (dr.ords.length + 1), ∀ x ∈ r, wordOk x := by
  have row : ∀ r ∈ headRows dr ++ rowsB NA rw_ (dr.ords.length + 1), r.length ≤ 5 ∧ r ≠ [] ∧ ∀ x ∈ r, x.length ≤ 13 ∧ wordOk x := by
    intro r hr
    have nmw : ∀ x, isNm x = true → x.length ≤ 13 ∧ wordOk x := fun x h => ⟨Nat.le_succ_of_le (len12 h), nm_word h⟩
    rcases List.mem_append.mp hr with hr | hr
    · rcases List.mem_cons.mp hr with rfl | hr
      · have := ok.r3
        refine ⟨by rw [List.length_cons]; omega, (fun z => nomatch z), fun x hx => ?_⟩
        rcases List.mem_cons.mp hx with rfl | hx
        · exact ⟨by decide +kernel, by unfold wordOk; decide +kernel⟩
        · exact nmw x (ok.r.nm x hx)
      · rw [List.mem_singleton.mp hr]
        have := ok.c3
        refine ⟨by rw [List.length_cons]; omega, (fun z => nomatch z), fun x hx => ?_⟩
        rcases List.mem_cons.mp hx with rfl | hx
        · exact ⟨by decide +kernel, by unfold wordOk; decide +kernel⟩
        · exact nmw x (ok.c.nm x hx)
    · obtain ⟨k, hk, hr⟩ := List.mem_flatMap.mp hr
      have hk := List.mem_range.mp hk
      rcases List.mem_append.mp hr with hr | hr
      · obtain ⟨x, hx, rfl⟩ := List.mem_map.mp hr
        refine ⟨by show 2 ≤ 5; decide, (fun z => nomatch z), fun y hy => ?_⟩
        rcases List.mem_cons.mp hy with rfl | hy
        · exact ⟨by decide +kernel, by unfold wordOk; decide +kernel⟩
        · rw [List.mem_singleton.mp hy]
          exact nmw x ((NA_nm mo hk x hx).nm (by decide))
      · cases e : rw_[k]? with
        | none =>
          rw [e] at hr
          exact absurd hr List.not_mem_nil
        | some r' =>
          rw [e] at hr
          have hr := List.mem_singleton.mp hr
          subst hr
          have hkl := (List.getElem?_eq_some_iff.mp e).1
          have ho : dr.ords[k]? = some (dr.ords[k]'(by omega)) := List.getElem?_eq_getElem (by omega)
          obtain ⟨w, kk, as, xs, h1, h2, rfl, h4, h5, h6⟩ := rk k _ _ ho e
          have k3 : ∀ e ∈ ordK, e.2.cps.toList.length ≤ 3 := by decide +kernel
          have k3 := k3 _ (kind_mem h1)
          simp only at k3
          obtain ⟨_, w1, w2⟩ := kind_word h1
          refine ⟨by rw [List.length_cons]; omega, (fun z => nomatch z), fun x hx => ?_⟩
          rcases List.mem_cons.mp hx with rfl | hx
          · exact ⟨by omega, w1⟩
          · obtain ⟨i, hi, rfl⟩ := List.getElem_of_mem hx
            have hc : kk.cps.toList[i]? = some (kk.cps.toList[i]'(by omega)) := List.getElem?_eq_getElem (by omega)
            have ha : as[i]? = some (as[i]'(by omega)) := List.getElem?_eq_getElem (by omega)
            obtain ⟨z1, z2, z3⟩ := h6 i _ _ _ hc ha (List.getElem?_eq_getElem hi)
            rcases kind_signs h1 _ (List.getElem_mem (by omega : i < kk.cps.toList.length)) with hs | hs | hs
            · exact nmw _ (ok.r.nm _ (List.mem_of_getElem? (z1 hs)))
            · exact nmw _ (ok.c.nm _ (List.mem_of_getElem? (z2 hs)))
            · obtain ⟨w', k', as', g1, g2, g3, g4⟩ := ok.ord _ (List.mem_of_getElem? ho)
              rw [h2] at g2
              injection g2 with g5 g6
              injection g5 with g5
              have e := map_int_inj g6
              subst g5 e
              rw [h1] at g1
              cases g1
              have b := (g4 i _ _ hc ha).2.2 hs
              exact nmw _ ((NA_nm mo (by omega) _ (z3 hs)).nm (by decide))
  have cnt : ∀ i, (rowsB NA rw_ i).length ≤ 3 * i := fun i => by
    induction i with
    | zero => exact Nat.le_refl _
    | succ i ih =>
      have := mo.few i
      rw [rowsB_succ, List.length_append, List.length_append, List.length_map]
      have : (rw_[i]?.toList).length ≤ 1 := by cases rw_[i]? <;> simp
      omega
  have few := ok.few
  have c := cnt (dr.ords.length + 1)
  refine ⟨⟨?_, fun r hr => (row r hr).1, fun r hr => (row r hr).2.1, fun r hr x hx => ((row r hr).2.2 x hx).1⟩, fun r hr x hx => ((row r hr).2.2 x hx).2⟩
  rw [List.length_append]
  show 2 + _ ≤ _
  omega
end
end K23

set_option Elab.async false
set_option linter.all false
set_option maxRecDepth 100000
set_option maxHeartbeats 4000000
namespace K23
open PySem PySem.Spec PyProof.Rows L2 Pen Tr AK LamX RL RU
structure Lw (TT : List (Addr × Str)) (K : PySem.W.Frag) (CP p pl ac x : Addr) (dr : Dr) (tx : Str) (H : Hp) (n : Nat) : Prop where
  col : H ac = some (.lst (dr.cols.map V.str))
  pa : PrAt K CP H x tx dr.regs dr.cols dr.ords
  pen : PenAt H p pl n
  tabs : Tabs TT H
section
variable {TT : List (Addr × Str)} {K : PySem.W.Frag} {CP p pl ac x : Addr} {dr : Dr} {tx : Str} {H H' : Hp} {n m : Nat}
theorem Lw.same (l : Lw TT K CP p pl ac x dr tx H n) (s : Same H H') : Lw TT K CP p pl ac x dr tx H' n := ⟨s _ _ l.col, l.pa.kp (.same s), l.pen.keep s, l.tabs.ext s⟩
theorem Lw.draw (l : Lw TT K CP p pl ac x dr tx H n) (PA : PenAt H' p pl m) (b : But p H H') : Lw TT K CP p pl ac x dr tx H' m := ⟨(Kp.pen l.pen b).lst l.col, l.pa.kp (.pen l.pen b), PA, Tabs.pen l.tabs l.pen b⟩
theorem Lw.mono (l : Lw TT K CP p pl ac x dr tx H n) (h : n ≤ m) : Lw TT K CP p pl ac x dr tx H m := ⟨l.col, l.pa, l.pen.mono h, l.tabs⟩
theorem Lw.acp (l : Lw TT K CP p pl ac x dr tx H n) : ac ≠ p := by
  obtain ⟨kvs, hp⟩ := l.pen.is
  exact ne_of l.col hp fun z => nomatch z
end
theorem RowT.tups {K : PySem.W.Frag} {H H' : Hp} {p : Addr} {cs : List (List Int × Str)} (r : RowT K H p cs) (t : Tups H H') : RowT K H' p cs := by
  obtain ⟨xs, h1, h2⟩ := r
  exact ⟨xs, SqT.tups t h1, h2.tups t⟩
structure Vs (K : PySem.W.Frag) (H : Hp) (b : Addr) (ms : List Nat) (m : Nat) : Prop where
  at_ : SqT K H b ((natI ms).map V.int)
  len : ms.length = m
  lt : ∀ z ∈ ms, z < 2 ^ 40
theorem Vs.kp {K : PySem.W.Frag} {H H' : Hp} {b : Addr} {ms : List Nat} {m : Nat} (v : Vs K H b ms m) (k : Kp H H') : Vs K H' b ms m := ⟨k.sqt v.at_, v.len, v.lt⟩
theorem Vs.num {K : PySem.W.Frag} {H : Hp} {b : Addr} {ms : List Nat} {m : Nat} (v : Vs K H b ms m) : ∀ z ∈ natI ms, 0 ≤ z ∧ z < 2 ^ 40 := fun z hz => by
  obtain ⟨y, hy, rfl⟩ := List.mem_map.mp hz
  have := v.lt y hy
  have e : (2 : Int) ^ 40 = ((2 ^ 40 : Nat) : Int) := by decide
  omega
theorem nat_vs : ∀ {ys : List V}, (∀ y ∈ ys, ∃ z : Nat, y = .int z ∧ z < 2 ^ 40) → ∃ ms : List Nat, ys = (natI ms).map V.int ∧ ms.length = ys.length ∧ ∀ z ∈ ms, z < 2 ^ 40
  | [], _ => ⟨[], rfl, rfl, fun _ h => absurd h List.not_mem_nil⟩
  | y :: ys, h => by
    obtain ⟨z, rfl, hz⟩ := h y (List.mem_cons_self ..)
    obtain ⟨ms, e, l, lt⟩ := nat_vs (ys := ys) fun y hy => h y (List.mem_cons_of_mem _ hy)
    refine ⟨z :: ms, by rw [e]; rfl, by rw [List.length_cons, List.length_cons, l], fun u hu => ?_⟩
    rcases List.mem_cons.mp hu with rfl | hu
    · exact hz
    · exact lt u hu
theorem pr_map {α : Type} {f : α → V} : ∀ {cs : List α} {ys : List V}, Paired (fun c y => y = f c) cs ys → ys = cs.map f
  | _, _, .nil => rfl
  | _, _, .cons e h => by rw [e, pr_map h]; rfl
/-- digits drawn -/
def DigV (K : PySem.W.Frag) (m : Nat) (H : Hp) (y : V) : Prop := ∃ r, ∃ ds : List Int, y = .ref r ∧ SqT K H r (ds.map V.int) ∧ ds.length = m ∧ ∀ z ∈ ds, z = 0 ∨ z = 1
theorem DigV.tups {K : PySem.W.Frag} {m : Nat} {H H' : Hp} {y : V} (t : Tups H H') (d : DigV K m H y) : DigV K m H' y := by
  obtain ⟨r, ds, e, h, o⟩ := d
  exact ⟨r, ds, e, SqT.tups t h, o⟩
theorem bit_vs : ∀ {ys : List V}, (∀ y ∈ ys, y = .int 0 ∨ y = .int 1) → ∃ ds : List Int, ys = ds.map V.int ∧ ds.length = ys.length ∧ ∀ z ∈ ds, z = 0 ∨ z = 1
  | [], _ => ⟨[], rfl, rfl, fun _ h => absurd h List.not_mem_nil⟩
  | y :: ys, h => by
    obtain ⟨z, rfl, hz⟩ : ∃ z, y = .int z ∧ (z = 0 ∨ z = 1) := (h y (List.mem_cons_self ..)).elim (fun e => ⟨0, e, .inl rfl⟩) fun e => ⟨1, e, .inr rfl⟩
    obtain ⟨ms, e, l, lt⟩ := bit_vs (ys := ys) fun y hy => h y (List.mem_cons_of_mem _ hy)
    refine ⟨z :: ms, by rw [e]; rfl, by rw [List.length_cons, List.length_cons, l], fun u hu => ?_⟩
    rcases List.mem_cons.mp hu with rfl | hu
    · exact hz
    · exact lt u hu
/-- a cell drawn -/
def CelV (K : PySem.W.Frag) (m : Nat) (cols : List Str) (H : Hp) (y : V) : Prop := ∃ r r2, ∃ ds : List Int, ∃ c, y = .ref r ∧ SqT K H r [.ref r2, .str c] ∧ SqT K H r2 (ds.map V.int) ∧ ds.length = m ∧ (∀ z ∈ ds, z = 0 ∨ z = 1) ∧ c ∈ cols
theorem CelV.tups {K : PySem.W.Frag} {m : Nat} {cols : List Str} {H H' : Hp} {y : V} (t : Tups H H') (d : CelV K m cols H y) : CelV K m cols H' y := by
  obtain ⟨r, r2, ds, c, e, h, h2, o⟩ := d
  exact ⟨r, r2, ds, c, e, SqT.tups t h, SqT.tups t h2, o⟩
def CsOk (m : Nat) (cols : List Str) (cs : List (List Int × Str)) : Prop := ∀ c ∈ cs, c.1.length = m ∧ (∀ z ∈ c.1, z = 0 ∨ z = 1) ∧ c.2 ∈ cols
theorem cel_vs {K : PySem.W.Frag} {m : Nat} {cols : List Str} {H : Hp} : ∀ {ys : List V}, (∀ y ∈ ys, CelV K m cols H y) → ∃ cs, RowV K H cs ys ∧ cs.length = ys.length ∧ CsOk m cols cs
  | [], _ => ⟨[], .nil, rfl, fun _ h => absurd h List.not_mem_nil⟩
  | y :: ys, h => by
    obtain ⟨r, r2, ds, c, rfl, h1, h2, l1, b1, c1⟩ := h y (List.mem_cons_self ..)
    obtain ⟨cs, rv, l, ok⟩ := cel_vs (ys := ys) fun y hy => h y (List.mem_cons_of_mem _ hy)
    refine ⟨(ds, c) :: cs, .cons ⟨r, r2, rfl, h1, h2⟩ rv, by rw [List.length_cons, List.length_cons, l], fun u hu => ?_⟩
    rcases List.mem_cons.mp hu with rfl | hu
    · exact ⟨l1, b1, c1⟩
    · exact ok u hu
theorem CsOk.tot {m k : Nat} {cols : List Str} {cs : List (List Int × Str)} (o : CsOk m cols cs) (hk : k < m) : totN k cs 0 = valN k cs := by
  have z := tot_val k cs 0 fun c hc => by
    obtain ⟨h1, h2, _⟩ := o c hc
    have hk1 : k < c.1.length := by omega
    exact ⟨c.1[k], List.getElem?_eq_getElem hk1, h2 _ (List.getElem_mem hk1)⟩
  rw [z, Int.pow_zero, Int.one_mul]
theorem step4 (a b c d : V) : RN.stepL [a, b, c, d] (some 1) none 2 = [b, d] := by
  have e : sliceRange (sliceBounds (some 1) none (some 2) 4).1 (sliceBounds (some 1) none (some 2) 4).2.1 (sliceBounds (some 1) none (some 2) 4).2.2 = [1, 3] := by decide +kernel
  show (sliceRange (sliceBounds (some 1) none (some 2) 4).1 (sliceBounds (some 1) none (some 2) 4).2.1 (sliceBounds (some 1) none (some 2) 4).2.2).filterMap _ = _
  rw [e]
  rfl
theorem step0 : RN.stepL [] (some 1) none 2 = [] := by
  have e : sliceRange (sliceBounds (some 1) none (some 2) 0).1 (sliceBounds (some 1) none (some 2) 0).2.1 (sliceBounds (some 1) none (some 2) 0).2.2 = [] := by decide +kernel
  show (sliceRange (sliceBounds (some 1) none (some 2) 0).1 (sliceBounds (some 1) none (some 2) 0).2.1 (sliceBounds (some 1) none (some 2) 0).2.2).filterMap _ = _
  rw [e]
  rfl
theorem step1 (a : V) : RN.stepV [a] (some 1) none 2 = [] := by
  have e : RN.idxS (some 1) none 2 1 = [] := by decide +kernel
  show (RN.idxS (some 1) none 2 1).filterMap _ = _
  rw [e]
  rfl
theorem tc_ {t : TE} {ts : TA} {σ : L2.St} {H : Hp} {k : List V → Hp → Prop} (h : t σ H fun x H1 => ts σ H1 fun xs H2 => k (x :: xs) H2) : tCons t ts σ H k := h
theorem tl_ {ta : TA} {σ : L2.St} {H : Hp} {Q : VK} (h : ta σ H fun xs H1 => xs.length ≤ sizeLine ∧ ∀ p, H1 p = none → Q (.ref p) (upd H1 p (.lst xs))) : tLst ta σ H Q := h
theorem notfull {n : Nat} (h : 1 ≤ n) : ¬ (HT.sIx n 0 (some ((1 : Nat) : Int)) = 0 ∧ HT.sIx n n none = n) := fun z => by
  rw [HT.sIx_nat] at z
  have := z.1
  omega
theorem cat_one {K : PySem.W.Frag} {tx : TE} {x : V} {ns : List Int} {σ : L2.St} {H : Hp} {Q : VK} {b : Addr} {i : Nat} (hx : ∀ Q : VK, Q x H → tx σ H Q) (h2 : σ[i]? = some (some (.ref b))) (hb : SqT K H b (ns.map V.int)) (h1 : 1 ≤ ns.length) (h3 : ns.length ≤ 3)
    (k : ∀ r H', Same H H' → SqT K H' r (x :: (ns.drop 1).map V.int) → Q (.ref r) H') : tOp (rCatU K) (tTup (tCons tx tNil)) (tSl (rSlT K) (tVar i) (tPart (tC (.int 1))) tNoPart) σ H Q := by
  have lns : (ns.map V.int).length = ns.length := List.length_map _
  refine hx _ ⟨(by show 1 ≤ sizeLine; decide), fun t nt => ?_⟩
  have s1 := same_upd (o := .tup [x]) nt
  refine ⟨_, h2, _, rfl, b, _, rfl, SqT.tups (same_tups s1) hb, (by rw [lns]; exact notfull h1), fun p np => ?_⟩
  have s2 := same_upd (o := .tup (cutV (ns.map V.int) (some ((1 : Nat) : Int)) none)) np
  refine ⟨t, p, [x], _, rfl, rfl, SqT.tups (same_tups s2) (SqT.of upd_same), SqT.of upd_same, ?_, fun r H' s' hr => k r H' (same_trans s1 (same_trans s2 s')) ?_⟩
  · rw [show cutV (ns.map V.int) (some 1) none = (ns.map V.int).drop 1 from cut_drop (n := 1) (by omega), List.length_drop, lns, sizeLine_eq]
    show 1 + _ ≤ _
    omega
  · rw [show cutV (ns.map V.int) (some 1) none = (ns.map V.int).drop 1 from cut_drop (n := 1) (by omega), ← List.map_drop] at hr
    exact hr
section
variable {P : Program} {w : World} {K : PySem.W.Frag} {mg : Str → Option PySem.Value} {base : Heap} {f fPe fAp fTo fPl fSv fD fP fRo fDs fFr fVo fTt fSt fRe fSw fX CP CN CB : Addr} {fd fdPe fdAp fdTo fdPl fdSv fdD fdP fdRo fdDs fdFr fdVo fdTt fdSt fdRe fdSw fdX : FuncData} {H H' : Hp}
def spLaw (TT : List (Addr × Str)) (K : PySem.W.Frag) : Sp := fun vs H Q _ => ∃ (a : Addr) (ns : List Int), vs = [.ref a] ∧ SqL K H a (ns.map V.int) ∧ ns.length ≤ 63 ∧ Tabs TT H ∧ ∀ H', Q (.bl true) H'
abbrev nLaw : List Str := ["_law_script", "_law_pen_here", "_law_drawn", "_law_many", "_law_colours", "_law_lap", "_law_values", "_law_due", "_law_told", "_law_digits_here", "_law_row_here", "_law_numbers", "_law_found", "_law_odd", "_law_program_here", "_law_value", "_law_at", "_law_place", "_law_some"]
theorem scLaw : FnScope nLaw ["_law_script"] (defScope (top 76)) := ⟨rfl, rfl, rfl, by decide +kernel, rfl, by decide +kernel, by decide +kernel⟩
theorem ok_law {TT : List (Addr × Str)} {Pt : Addr} (F : FnT K "law" 76 f fd) (TX : Txt mg) (PF : PrF K CP) (XB : Ct K mg "BadNumber" CN ["what", "number"])
    (hf : He.fAd K ("law", none) = f) (TB0 : TabB base mg (He.codeOf K ("law", none)) Pt) (inT : (Pt, ("law" ++ ".<locals>." ++ "<lambda>" : Str)) ∈ TT) (unT : ∀ p ∈ TT, p.1 = Pt → p.2 = ("law" ++ ".<locals>." ++ "<lambda>" : Str))
    (MPr : Mk K CP fX) (gPr : mg "Program" = some (.ref CP)) (bPr : L2.Binds K fdX ["self", "text"] []) (GPr : FnOk P w K mg base (L2.CX P w) 5 fX fdX ["self", "text"] (spPr K CP CB)) (GDW : FnOk P w K mg base CX0 1 fD fdD ["_law_pen_here", "_law_many"] spDrW)
    (FPe : FnT K "_law_pen" 57 fPe fdPe) (gPe : mg "_law_pen" = some (.ref fPe)) (GPe : FnOk P w K mg base CX0 1 fPe fdPe ["_law_script"] (spPen K))
    (FAp : FnT K "_law_any_program" 64 fAp fdAp) (gAp : mg "_law_any_program" = some (.ref fAp)) (GAp : FnOk P w K mg base CX0 6 fAp fdAp ["_law_pen_here", "_law_most"] (spAp K))
    (FTo : FnT K "_law_text_of" 68 fTo fdTo) (gTo : mg "_law_text_of" = some (.ref fTo)) (GTo : FnOk P w K mg base CX0 1 fTo fdTo ["_law_lines"] (spTo K))
    (FPl : FnT K "_law_program_lines" 67 fPl fdPl) (gPl : mg "_law_program_lines" = some (.ref fPl)) (GPl : FnOk P w K mg base CX0 4 fPl fdPl ["_law_pen_here", "_law_program_here"] (spPl K))
    (FSv : FnT K "_law_some_values" 69 fSv fdSv) (gSv : mg "_law_some_values" = some (.ref fSv)) (GSv : FnOk P w K mg base CX0 3 fSv fdSv ["_law_pen_here", "_law_many"] (spSv K))
    (FD : FnT K "_law_draw" 58 fD fdD) (gD : mg "_law_draw" = some (.ref fD)) (GD : FnOk P w K mg base CX0 1 fD fdD ["_law_pen_here", "_law_many"] spDraw)
    (FP : FnT K "_law_pick" 59 fP fdP) (gP : mg "_law_pick" = some (.ref fP)) (GP : FnOk P w K mg base CX0 2 fP fdP ["_law_pen_here", "_law_some"] (spPick K))
    (FRo : FnT K "_law_row" 73 fRo fdRo) (gRo : mg "_law_row" = some (.ref fRo)) (GRo : FnOk P w K mg base CX0 3 fRo fdRo ["_law_values", "_law_colours"] (spRo K))
    (FDs : FnT K "_law_digits" 72 fDs fdDs) (gDs : mg "_law_digits" = some (.ref fDs)) (GDs : FnOk P w K mg base CX0 2 fDs fdDs ["_law_number"] spDs)
    (FFr : FnT K "first_row" 45 fFr fdFr) (gFr : mg "first_row" = some (.ref fFr)) (GFr : FnOk P w K mg base (L2.CX P w) 4 fFr fdFr ["program", "values"] (spFr K CP CN))
    (FVo : FnT K "values_of" 46 fVo fdVo) (gVo : mg "values_of" = some (.ref fVo)) (GVo : FnOk P w K mg base CX0 1 fVo fdVo ["row"] (spVo K))
    (FTt : FnT K "_law_total" 75 fTt fdTt) (gTt : mg "_law_total" = some (.ref fTt)) (GTt : FnOk P w K mg base CX0 2 fTt fdTt ["_law_row_here", "_law_place"] (spTt K))
    (FSt : FnT K "steps_told" 47 fSt fdSt) (gSt : mg "steps_told" = some (.ref fSt)) (GSt : FnOk P w K mg base CX0 2 fSt fdSt ["program", "rows"] (spSt K))
    (FSw : FnT K "sweeps_of" 49 fSw fdSw) (gSw : mg "sweeps_of" = some (.ref fSw)) (GSw : FnOk P w K mg base (L2.CX P w) 5 fSw fdSw ["program", "values"] (spSw K CP CN))
    (FRe : FnT K "_law_refused" 74 fRe fdRe) (gRe : mg "_law_refused" = some (.ref fRe)) : GFn P w K mg base CX0 8 f fd ["_law_script"] (spLaw TT K) := by
  refine GFn.of F scLaw (fun vs H Q E h => by obtain ⟨a, ns, rfl, _⟩ := h; rfl) (fun c A outer s0 H vs Q E hc hr free h => ?_)
  obtain ⟨sa, ns, rfl, hS, hlen, tabs, q⟩ := h
  have nd := scLaw.nd
  have hu := hr.units
  have hu1 := hu_of hr
  have TB : TabB base mg c Pt := (hc _ hf) ▸ TB0
  have bPe : L2.Binds K fdPe ["_law_script"] [] := FunD.bindsN FPe fun _ _ _ _ _ _ us hl => match us, hl with | [_], _ => rfl
  have bAp : L2.Binds K fdAp ["_law_pen_here", "_law_most"] [] := FunD.bindsN FAp fun _ _ _ _ _ _ us hl => match us, hl with | [_, _], _ => rfl
  have bTo : L2.Binds K fdTo ["_law_lines"] [] := FunD.bindsN FTo fun _ _ _ _ _ _ us hl => match us, hl with | [_], _ => rfl
  have bPl : L2.Binds K fdPl ["_law_pen_here", "_law_program_here"] [] := FunD.bindsN FPl fun _ _ _ _ _ _ us hl => match us, hl with | [_, _], _ => rfl
  have bSv : L2.Binds K fdSv ["_law_pen_here", "_law_many"] [] := FunD.bindsN FSv fun _ _ _ _ _ _ us hl => match us, hl with | [_, _], _ => rfl
  have bD : L2.Binds K fdD ["_law_pen_here", "_law_many"] [] := FunD.bindsN FD fun _ _ _ _ _ _ us hl => match us, hl with | [_, _], _ => rfl
  have bP : L2.Binds K fdP ["_law_pen_here", "_law_some"] [] := FunD.bindsN FP fun _ _ _ _ _ _ us hl => match us, hl with | [_, _], _ => rfl
  have bRo : L2.Binds K fdRo ["_law_values", "_law_colours"] [] := FunD.bindsN FRo fun _ _ _ _ _ _ us hl => match us, hl with | [_, _], _ => rfl
  have bDs : L2.Binds K fdDs ["_law_number"] [] := FunD.bindsN FDs fun _ _ _ _ _ _ us hl => match us, hl with | [_], _ => rfl
  have bFr : L2.Binds K fdFr ["program", "values"] [] := FunD.bindsN FFr fun _ _ _ _ _ _ us hl => match us, hl with | [_, _], _ => rfl
  have bVo : L2.Binds K fdVo ["row"] [] := FunD.bindsN FVo fun _ _ _ _ _ _ us hl => match us, hl with | [_], _ => rfl
  have bTt : L2.Binds K fdTt ["_law_row_here", "_law_place"] [] := FunD.bindsN FTt fun _ _ _ _ _ _ us hl => match us, hl with | [_, _], _ => rfl
  have bSt : L2.Binds K fdSt ["program", "rows"] [] := FunD.bindsN FSt fun _ _ _ _ _ _ us hl => match us, hl with | [_, _], _ => rfl
  have bSw : L2.Binds K fdSw ["program", "values"] [] := FunD.bindsN FSw fun _ _ _ _ _ _ us hl => match us, hl with | [_, _], _ => rfl
  have bRe : L2.Binds K fdRe ["_law_call"] [] := FunD.bindsN FRe fun _ _ _ _ _ _ us hl => match us, hl with | [_], _ => rfl
  obtain ⟨ocR, odR, dVR, kVR, docR, pmR, anR, cdvR, ctR, oslR, rfl, lkR, hcR, _, _⟩ := FRe.ex
  suffices z : ∃ tt, PSs (cxOf CX0 P w K mg base nLaw "law" (defScope (top 76)) f (.ref c) A outer s0 H E).nox (defBody (top 76)) tt ∧ tt { nx := fun _ H' => Q .non H', rt := Q } (start nLaw [.ref sa]) H by
    obtain ⟨tt, h1, h2⟩ := z
    exact ⟨tt, h1.nox, h2⟩
  refine ⟨_, pss_cons (ps_asg (pe_call GPe (hr.mono (by decide)) (by rfl) gPe FPe.kp bPe .nil pass0 (pa_cons (pv 0) pa_nil)) (pg_name (i := 1) nd rfl (.inr rfl)))
    (pss_cons (ps_asg (pe_call GAp (hr.mono (by decide)) (by rfl) gAp FAp.kp bAp .nil pass0 (pa_cons (pv 1) (pa_cons pe_int pa_nil))) (pg_name (i := 2) nd rfl (.inl rfl)))
    (pss_cons (ps_asg (pe_tup (pa_cons (pe_callB call_len_seq (by rfl) TX.len PySem.boot_len (pa_cons (pe_dget hu1 (pv 2) pe_str (fun _ _ => rfl)) pa_nil)) (pa_cons (pe_dget hu1 (pv 2) pe_str (fun _ _ => rfl)) pa_nil))) (pg_tup (by rfl) (pgs_cons (pg_name (i := 3) nd rfl (.inr rfl)) (pgs_cons (pg_name (i := 4) nd rfl (.inr rfl)) pgs_nil))))
    (C8.pss_cut (ps_asg (pe_make MPr GPr (hr.mono (by decide)) (by rfl) gPr bPr .nil passE (pa_cons (pe_call GTo (hr.mono (by decide)) (by rfl) gTo FTo.kp bTo .nil pass0 (pa_cons (pe_call GPl (hr.mono (by decide)) (by rfl) gPl FPl.kp bPl .nil pass0 (pa_cons (pv 1) (pa_cons (pv 2) pa_nil))) pa_nil)) pa_nil)) (pg_name (i := 14) nd rfl (.inr rfl)))
    (C8.pss_cut (ps_for PassesOwn.never rfl (pi_range1 (by rfl) TX.range (pa_cons pe_int pa_nil)) (pg_name (i := 5) nd rfl (.inl rfl))
    (pss_cons (ps_asg (pe_call GSv (hr.mono (by decide)) (by rfl) gSv FSv.kp bSv .nil pass0 (pa_cons (pv 1) (pa_cons (pv 3) pa_nil))) (pg_name (i := 6) nd rfl (.inl rfl)))
    (C8.pss_cut (ps_if (pt_cmpR op_eq (pe_call GD (hr.mono (by decide)) (by rfl) gD FD.kp bD .nil pass0 (pa_cons (pv 1) (pa_cons pe_int pa_nil))) pe_int (nomark _)) (pss_one (ps_asg (pe_callTy call_tupR (by rfl) TX.tuple (by decide +kernel) (pa_cons (pe_lc (own := [("_law_value", 15)]) (g := gName 15) (tt := tYes) (te := (tCall (spPick K) [] E0 (tCons (tVar 1) (tCons (tLst (tCons (tOp (rI0 fun i j => .int (i - j)) (tOp (rI CPow fun i j => .int (i ^ j.toNat)) (tC (.int 2)) (tC (.int 40))) (tC (.int 1))) (tCons (tOp (rI CPow fun i j => .int (i ^ j.toNat)) (tC (.int 2)) (tC (.int 39))) (tCons (tC (.int 4)) (tCons (tCall spDrW [] E0 (tCons (tVar 1) (tCons (tOp (rI CPow fun i j => .int (i ^ j.toNat)) (tC (.int 2)) (tC (.int 40))) tNil))) tNil))))) tNil)))) (by rfl) nd (pi_tup (pv 6)) (blkOk_by (own := [("_law_value", 15)]) (N := nLaw) (sc := defScope (top 76)) (by decide +kernel)) (fun _ _ _ _ _ => (pg_name (i := 15) nd rfl (.inl rfl))) (fun _ _ _ _ _ => pts_nil) (fun _ _ _ _ _ => (pe_call GP (hr.mono (by decide)) (by rfl) gP FP.kp bP .nil pass0 (pa_cons (pv 1) (pa_cons (pe_lst (pa_cons (pe_op op_sub (pe_op op_pow pe_int pe_int) pe_int) (pa_cons (pe_op op_pow pe_int pe_int) (pa_cons pe_int (pa_cons (pe_call GDW (hr.mono (by decide)) (by rfl) gD FD.kp bD .nil pass0 (pa_cons (pv 1) (pa_cons (pe_op op_pow pe_int pe_int) pa_nil))) pa_nil))))) pa_nil))))) pa_nil)) (pg_name (i := 6) nd rfl (.inl rfl)))) pss_nil)
    (C8.pss_cut (ps_asg (pe_call GRo (hr.mono (by decide)) (by rfl) gRo FRo.kp bRo .nil pass0 (pa_cons (pv 6) (pa_cons (pe_op op_rep (pe_lst (pa_cons (pe_ix ix_list (pv 4) pe_int (fun _ _ => rfl)) pa_nil)) (pe_callB (cr_max rfl) (by rfl) TX.max (by decide +kernel) (pa_cons (pe_op op_cat (pe_lst (pa_cons pe_int pa_nil)) (pe_lc (own := [("_law_value", 15)]) (g := gName 15) (tt := tYes) (te := (tCall (spDs) [] E0 (tCons (tVar 15) tNil))) (by rfl) nd (pi_tup (pv 6)) (blkOk_by (own := [("_law_value", 15)]) (N := nLaw) (sc := defScope (top 76)) (by decide +kernel)) (fun _ _ _ _ _ => (pg_name (i := 15) nd rfl (.inl rfl))) (fun _ _ _ _ _ => pts_nil) (fun _ _ _ _ _ => (pe_call GDs (hr.mono (by decide)) (by rfl) gDs FDs.kp bDs .nil pass0 (pa_cons (pv 15) pa_nil))))) pa_nil))) pa_nil))) (pg_name (i := 7) nd rfl (.inl rfl)))
    (pss_cons (ps_asg (pe_call GFr (hr.mono (by decide)) (by rfl) gFr FFr.kp bFr .nil passE (pa_cons (pv 14) (pa_cons (pe_call GP (hr.mono (by decide)) (by rfl) gP FP.kp bP .nil pass0 (pa_cons (pv 1) (pa_cons (pe_lst (pa_cons (pv 6) (pa_cons (pe_callTy call_list_of (by rfl) TX.list (by decide +kernel) (pa_cons (pv 6) pa_nil)) pa_nil))) pa_nil))) pa_nil))) (pg_name (i := 8) nd rfl (.inl rfl)))
    (C8.pss_cut (ps_if (PW.pt (pw_or (pt_cmpR (op_neD hu) (pv 8) (pv 7) (nomark _)) (pw_or (pt_cmpR (op_neD hu) (pe_call GVo (hr.mono (by decide)) (by rfl) gVo FVo.kp bVo .nil pass0 (pa_cons (pv 8) pa_nil)) (pv 6) (nomark _)) (pw_or1 (pt_not (pt_val (pe_callB call_isTu (by rfl) TX.isi (by decide +kernel) (pa_cons (pe_call GVo (hr.mono (by decide)) (by rfl) gVo FVo.kp bVo .nil pass0 (pa_cons (pv 8) pa_nil)) (pa_cons (pe_bltn (by rfl) TX.tuple (by decide +kernel) (v := .ty "tuple") rfl) pa_nil))))))))) (pss_one (ps_ret pe_bl)) pss_nil)
    (C8.pss_cut (ps_setLc (i := 9) (own := [("_law_at", 16)]) (g := gName 16) (tt := tYes) (te := tCB (rTupOf K) (tCons (tLc (iRng1 (tCons (tVar 3) tNil)) (gName 17) tYes (tCall spDraw [] E0 (tCons (tVar 1) (tCons (tC (.int 2)) tNil))) [17]) tNil)) (by rfl) nd rfl (by rfl) (by rfl) (pi_range1 (by rfl) TX.range (pa_cons (pe_op op_add pe_int (pe_call GD (hr.mono (by decide)) (by rfl) gD FD.kp bD .nil pass0 (pa_cons (pv 1) (pa_cons pe_int pa_nil)))) pa_nil)) (blkOk_by (own := [("_law_at", 16)]) (N := nLaw) (sc := defScope (top 76)) (by decide +kernel)) (fun _ _ _ _ _ => (pg_name (i := 16) nd rfl (.inl rfl))) (fun _ _ _ _ _ => pts_nil) (fun _ _ _ _ _ => (pe_callTy call_tupR (by rfl) TX.tuple (by decide +kernel) (pa_cons (pe_lc (own := [("_law_place", 17)]) (g := gName 17) (tt := tYes) (te := (tCall (spDraw) [] E0 (tCons (tVar 1) (tCons (tC (.int 2)) tNil)))) (by rfl) nd (pi_range1 (by rfl) TX.range (pa_cons (pv 3) pa_nil)) (blkOk_by (own := [("_law_place", 17)]) (by kernel_rfl)) (fun _ _ _ _ _ => (pg_name (i := 17) nd rfl (.inl rfl))) (fun _ _ _ _ _ => pts_nil) (fun _ _ _ _ _ => (pe_call GD (hr.mono (by decide)) (by rfl) gD FD.kp bD .nil pass0 (pa_cons (pv 1) (pa_cons pe_int pa_nil))))) pa_nil))))
    (C8.pss_cut (ps_asg (pe_callTy call_tupR (by rfl) TX.tuple (by decide +kernel) (pa_cons (pe_lc (own := [("_law_some", 18)]) (g := gName 18) (tt := tYes) (te := (tTup (tCons (tVar 18) (tCons (tCall (spPick K) [] E0 (tCons (tVar 1) (tCons (tVar 4) tNil))) tNil)))) (by rfl) nd (pi_list (pv 9)) (blkOk_by (own := [("_law_some", 18)]) (N := nLaw) (sc := defScope (top 76)) (by decide +kernel)) (fun _ _ _ _ _ => (pg_name (i := 18) nd rfl (.inl rfl))) (fun _ _ _ _ _ => pts_nil) (fun _ _ _ _ _ => (pe_tup (pa_cons (pv 18) (pa_cons (pe_call GP (hr.mono (by decide)) (by rfl) gP FP.kp bP .nil pass0 (pa_cons (pv 1) (pa_cons (pv 4) pa_nil))) pa_nil))))) pa_nil)) (pg_name (i := 10) nd rfl (.inr rfl)))
    (C8.pss_cut (ps_asg (pe_callTy call_tupR (by rfl) TX.tuple (by decide +kernel) (pa_cons (pe_lc (own := [("_law_place", 17)]) (g := gName 17) (tt := tYes) (te := (tCall (spTt K) [] E0 (tCons (tVar 10) (tCons (tVar 17) tNil)))) (by rfl) nd (pi_range1 (by rfl) TX.range (pa_cons (pv 3) pa_nil)) (blkOk_by (own := [("_law_place", 17)]) (N := nLaw) (sc := defScope (top 76)) (by decide +kernel)) (fun _ _ _ _ _ => (pg_name (i := 17) nd rfl (.inl rfl))) (fun _ _ _ _ _ => pts_nil) (fun _ _ _ _ _ => (pe_call GTt (hr.mono (by decide)) (by rfl) gTt FTt.kp bTt .nil pass0 (pa_cons (pv 10) (pa_cons (pv 17) pa_nil))))) pa_nil)) (pg_name (i := 11) nd rfl (.inl rfl)))
    (C8.pss_cut (ps_if (PW.pt (pw_or (pt_cmpR (op_neD hu) (pe_call GVo (hr.mono (by decide)) (by rfl) gVo FVo.kp bVo .nil pass0 (pa_cons (pv 10) pa_nil)) (pv 11) (nomark _)) (pw_or1 (pt_cmpR (op_neD hu) (pe_call GSt (hr.mono (by decide)) (by rfl) gSt FSt.kp bSt .nil pass0 (pa_cons (pv 14) (pa_cons (pe_lst (pa_cons (pv 7) (pa_cons (pv 10) (pa_cons (pv 7) (pa_cons (pv 7) pa_nil))))) pa_nil))) (pe_tup (pa_cons (pv 11) (pa_cons (pv 6) pa_nil))) (nomark _))))) (pss_one (ps_ret pe_bl)) pss_nil)
    (pss_one (ps_if (PW.pt (pw_or (pt_cmpR (op_neD hu) (pe_call GSt (hr.mono (by decide)) (by rfl) gSt FSt.kp bSt .nil pass0 (pa_cons (pv 14) (pa_cons (pe_tup (pa_cons (pv 10) pa_nil)) pa_nil))) (pe_tup pa_nil) (nomark _)) (pw_or1 (pt_cmpR (op_neD hu) (pe_call GSt (hr.mono (by decide)) (by rfl) gSt FSt.kp bSt .nil pass0 (pa_cons (pv 14) (pa_cons (pe_lst pa_nil) pa_nil))) (pe_tup pa_nil) (nomark _))))) (pss_one (ps_ret pe_bl)) pss_nil))))))))))))
    (C8.pss_cut (ps_asg (pe_call GP (hr.mono (by decide)) (by rfl) gP FP.kp bP .nil pass0 (pa_cons (pv 1) (pa_cons (pe_lst (pa_cons pe_non (pa_cons (pe_op RU.op_catU (pv 6) (pe_tup (pa_cons pe_int pa_nil))) (pa_cons (pe_op RU.op_catU (pe_tup (pa_cons (pe_un un_neg pe_int) pa_nil)) (pe_slice sl_tup (pv 6) (po_some pe_int) po_none)) (pa_cons (pe_op RU.op_catU (pe_tup (pa_cons (pe_op op_pow pe_int pe_int) pa_nil)) (pe_slice sl_tup (pv 6) (po_some pe_int) po_none)) (pa_cons (pe_op RU.op_catU (pe_tup (pa_cons pe_str pa_nil)) (pe_slice sl_tup (pv 6) (po_some pe_int) po_none)) pa_nil)))))) pa_nil))) (pg_name (i := 13) nd rfl (.inr rfl)))
    (pss_cons (ps_asg (pe_lst (pa_cons (pe_lamcall (T := TT) (TT := TRf K CN) (a := "_law_call") (k := 4) (t := fun E => tCallS (spFr K CP CN) (fun _ => E) (tCons (tVar 14) (tCons (tVar 13) tNil))) (by rfl) gRe FRe.kp lkR hcR bRe scRf rfl (.inl rfl) (ref_gives XB TX free (hr.mono (show 0 + 2 ≤ 7 by decide))) TB rfl inT unT (hr.mono (show 4 + 2 ≤ 7 by decide)) (lamS_by (by kernel_rfl)) rfl (by intros; rfl) (fun A outer s H E f c' hr2 => pe_callS GFr hr2 (by rfl) gFr FFr.kp bFr (fun σ => passAt (takes_of rfl rfl rfl rfl) σ) (pa_cons (pv 14) (pa_cons (pv 13) pa_nil)))) pa_nil)) (pg_name (i := 12) nd rfl (.inl rfl)))
    (pss_cons (ps_expr (pe_bm PySem.F.plainAttrs_list PySem.F.slot_list_append PySem.F.type_list_append mt_append (pv 12) (pa_cons (pe_lamcall (T := TT) (TT := TRf K CN) (a := "_law_call") (k := 5) (t := fun E => tCallS (spSw K CP CN) (fun _ => E) (tCons (tVar 14) (tCons (tVar 13) tNil))) (by rfl) gRe FRe.kp lkR hcR bRe scRf rfl (.inl rfl) (ref_gives XB TX free (hr.mono (show 0 + 2 ≤ 7 by decide))) TB rfl inT unT (hr.mono (show 5 + 2 ≤ 7 by decide)) (lamS_by (by kernel_rfl)) rfl (by intros; rfl) (fun A outer s H E f c' hr2 => pe_callS GSw hr2 (by rfl) gSw FSw.kp bSw (fun σ => passAt (takes_of rfl rfl rfl rfl) σ) (pa_cons (pv 14) (pa_cons (pv 13) pa_nil)))) pa_nil)))
    (pss_one (ps_ret (pe_cmpR (op_eqD hu) (pv 12) (pe_op op_rep (pe_lst (pa_cons (pe_tup (pa_cons pe_str (pa_cons (pe_callB (call_showV free hu) (by rfl) TX.repr (by decide +kernel) (pa_cons (pv 13) pa_nil)) pa_nil))) pa_nil)) pe_int) (nomark _))))))))))), ?_⟩
  clear bSw bPe bAp bTo bPl bSv bD bP bRo bDs bFr bVo bTt bSt bRe
  refine ⟨_, rfl, sa, ns, rfl, hS, hlen, fun p pl H1 PA1 s1 hp0 => ?_⟩
  have tb1 := tabs.ext s1
  refine ⟨_, rfl, p, pl, _, rfl, PA1, by omega, fun d dr H3 ok at3 PA3 b3 nd3 => ?_⟩
  obtain ⟨dp, dpl⟩ := nap_ PA1 nd3
  have tb3 := Tabs.pen tb1 PA1 b3
  have at3' := at3
  obtain ⟨ar, ac, ao, zs, hd3, har3, hac3, hao3, hos3⟩ := at3'
  refine ⟨_, rfl, d, .ref ar, rfl, .inl ⟨_, .inr "registers", .inl hd3, rfl, by kernel_rfl⟩, ar, _, rfl, .inl (SqL.of har3), _, rfl, d, .ref ac, rfl, .inl ⟨_, .inr "colours", .inl hd3, rfl, by kernel_rfl⟩, (by show 2 ≤ sizeLine; decide), fun t2 nt2 => ?_⟩
  have s2 := same_upd (o := .tup [.int ((dr.regs.map V.str).length : Nat), .ref ac]) nt2
  refine ⟨t2, _, rfl, SqT.of upd_same, rfl, _, _, rfl, _, _, rfl, rfl, ?_⟩
  have at4 := at3.same s2
  have PA4 := PA3.keep s2
  have tb4 := tb3.ext s2
  have hac4 := s2 _ _ hac3
  generalize upd H3 t2 (.tup [.int ((dr.regs.map V.str).length : Nat), .ref ac]) = H4 at s2 at4 PA4 tb4 hac4 ⊢
  refine ⟨fun σ H' => ∃ m x tx, m = dr.regs.length ∧ σ = [some (.ref sa), some (.ref p), some (.ref d), some (.int (m : Nat)), some (.ref ac), none, none, none, none, none, none, none, none, none, some (.ref x), none, none, none, none] ∧ Lw TT K CP p pl ac x dr tx H' 2000, ?_, ?_⟩
  · refine ⟨_, rfl, _, rfl, p, pl, _, d, dr, rfl, PA4, by omega, ok, at4, dp, fun L NA rw_ H5 mo hl rk ln4 PA5 b5 nL => ?_⟩
    obtain ⟨bd0, wd0⟩ := rows_good ok mo hl rk
    have rb := read_back ok mo hl rk
    have rr := rows_back bd0.ne wd0
    generalize headRows dr ++ rowsB NA rw_ (dr.ords.length + 1) = rows at ln4 bd0 wd0 rb rr
    have tb5 := Tabs.pen tb4 PA4 b5
    have hac5 := (Kp.pen PA4 b5).lst hac4
    have tlen : (textOf rows).length ≤ 20000 := by
      unfold textOf
      have j := join_len "" (rows.map fun r => lineS r ++ "\n")
      have s := sum_le (b := 163) ((rows.map fun r => lineS r ++ "\n").map (·.length)) fun x hx => by
        obtain ⟨y, hy, rfl⟩ := List.mem_map.mp hx
        obtain ⟨r, hr, rfl⟩ := List.mem_map.mp hy
        have := (bd0.line (by decide) hr).2
        rw [tl_len, tl_app, List.length_append, ← tl_len]
        show _ + 1 ≤ _
        omega
      rw [List.length_map, List.length_map] at s
      rw [show (Str.ofString "").length = 0 by decide +kernel, Nat.mul_zero, Nat.add_zero] at j
      have : rows.length * 163 ≤ 40 * 163 := Nat.mul_le_mul_right _ bd0.few
      omega
    refine ⟨L, rows, rfl, ln4, bd0, fun H6 s6 => ?_⟩
    refine fun x dx nx ndx ne => ?_
    have mk1 : Same H6 (upd (upd H6 dx (.own x)) x (.ins CP dx [])) := ins_new nx ndx
    refine ⟨x, dx, .str (textOf rows), .str (textOf rows), rfl, upd_same, .str _, .inr ⟨textOf rows, rfl, rfl, by omega, ?_⟩⟩
    rw [rr, rb]
    intro H7 b7 pa
    have s57 : Same H5 H7 := fun u o e => b7 u o (mk1 _ _ (s6 _ _ e)) (ne_of_none (s6 _ _ e) nx)
    exact ⟨rfl, _, x, _, List.length_map _, rfl, s57 _ _ hac5, pa, (PA5.keep s57).mono (by omega), tb5.ext s57⟩
  · rintro σ H5 ⟨m, x, tx, hm, rfl, L5⟩
    clear hac4 tb4 PA4 at4 s2 nt2 hos3 hao3 hac3 har3 hd3 at3 tb3 dpl b3 nd3 PA3 tb1 s1 PA1
    have r1 := ok.r1
    have r3 := ok.r3
    have c1 := ok.c1
    have cne : dr.cols ≠ [] := fun z => by rw [z] at c1; exact absurd c1 (by decide)
    have clay : ∀ c ∈ dr.cols, PyData.canLay0 (.str c) = true := fun c hc => nm_lay (ok.c.nm c hc)
    have c0in : dr.cols.getD 0 "" ∈ dr.cols := by
      rw [List.getD_eq_getElem?_getD, List.getElem?_eq_getElem (by omega)]
      exact List.getElem_mem _
    have c0at : (dr.cols.map V.str)[0]? = some (.str (dr.cols.getD 0 "")) := by
      rw [List.getElem?_map, List.getD_eq_getElem?_getD, List.getElem?_eq_getElem (by omega)]
      rfl
    refine ⟨fun σ H' => ∃ o5 o7 o8 o9 o10 o11 b ms, σ = [some (.ref sa), some (.ref p), some (.ref d), some (.int (m : Nat)), some (.ref ac), o5, some (.ref b), o7, o8, o9, o10, o11, none, none, some (.ref x), none, none, none, none] ∧ Vs K H' b ms m ∧ Lw TT K CP p pl ac x dr tx H' 20000, ?_, ?_⟩
    · refine ⟨6, rfl, by decide, by decide, ?_⟩
      refine for_it (walk_range (lo := 0) (n := 6)) (fun i σ H' => ∃ o5 o6 o7 o8 o9 o10 o11, σ = [some (.ref sa), some (.ref p), some (.ref d), some (.int (m : Nat)), some (.ref ac), o5, o6, o7, o8, o9, o10, o11, none, none, some (.ref x), none, none, none, none] ∧ Lw TT K CP p pl ac x dr tx H' (2000 + 2000 * i) ∧ (0 < i → ∃ b ms, o6 = some (.ref b) ∧ Vs K H' b ms m)) ⟨_, _, _, _, _, _, _, rfl, L5, fun z => absurd z (by decide)⟩ (fun _ _ _ _ _ => trivial) ?_ ?_
      · rintro i y σ H7 H6 hi ⟨o5, o6, o7, o8, o9, o10, o11, rfl, L6, _⟩ ⟨rfl, rfl⟩
        refine ⟨_, rfl, _, rfl, p, pl, _, m, rfl, L6.pen, by omega, by omega, fun b0 ns0 H8 b7 PA7 hb7 hn0 hv0 => ?_⟩
        have L7 := L6.draw PA7 b7
        obtain ⟨ms0, rfl, l0, lt0⟩ := natI_of hv0
        have v7 : Vs K H8 b0 ms0 m := ⟨hb7, by rw [l0, hn0], lt0⟩
        refine ⟨fun σ H' => ∃ b ms, σ = [some (.ref sa), some (.ref p), some (.ref d), some (.int (m : Nat)), some (.ref ac), some (.int (0 + (i : Nat))), some (.ref b), o7, o8, o9, o10, o11, none, none, some (.ref x), none, none, none, none] ∧ Vs K H' b ms m ∧ Lw TT K CP p pl ac x dr tx H' (2000 + 2000 * i + 20), ?_, ?_⟩
        · refine ⟨_, rfl, p, pl, _, 2, rfl, L7.pen, by omega, by decide, by decide, fun r H9 r0 r1' PA8 b8 => ⟨rfl, decide (V.int r = V.int 0), rfl, ?_⟩⟩
          have L8 := L7.draw PA8 b8
          have v8 := v7.kp (.pen L7.pen b8)
          cases hcase : decide (V.int r = V.int 0) with
          | false => exact iteF ⟨b0, ms0, rfl, v8, L8.mono (by omega)⟩
          | true =>
            refine iteT ⟨_, rfl, b0, rfl, ⟨_, v8.at_⟩, fun D nD => ?_⟩
            change H9 D = none at nD
            have ln : ((natI ms0).map V.int).length = m := by
              rw [List.length_map]
              exact (List.length_map _).trans v8.len
            refine RP.lc_pen (walk_tup (K := K) (a := b0) (xs := (natI ms0).map V.int)) (by rw [ln, sizeLine_eq]; omega) (fun _ y => ∃ z : Nat, y = .int z ∧ z < 2 ^ 40) (fun _ _ _ _ h => h) 2 L8.pen nD (fun H' _ bb _ => (Kp.pen L8.pen bb).sqt v8.at_) ?_ ?_
            · rintro j y H11 H10 R hj bb PA9 ⟨rfl, hy⟩ k
              rw [ln] at hj
              refine ⟨rfl, _, rfl, 2, 40, rfl, rfl, ⟨by decide, by decide, by decide⟩, _, _, rfl, rfl, 2, 39, rfl, rfl, ⟨by decide, by decide, by decide⟩, _, rfl, 2, 40, rfl, rfl, ⟨by decide, by decide, by decide⟩, p, pl, _, _, rfl, PA9, by omega, by decide, by decide, fun r2 H11 r20 r21 PA11 b11 => ⟨(by show 4 ≤ sizeLine; decide), fun l nl => ?_⟩⟩
              have s12 := same_upd (o := .lst [.int (2 ^ 40 - 1), .int (2 ^ 39), .int 4, .int r2]) nl
              refine ⟨p, pl, l, _, _, rfl, PA11.keep s12, by omega, SqL.of upd_same, (fun z => nomatch z), (by show 4 < 1073741824; decide), (nap_ PA11 nl).1, fun ip v H13 hv PA13 b13 => ?_⟩
              obtain ⟨z, hz, rfl⟩ := RM.pick_int (ns := [2 ^ 40 - 1, 2 ^ 39, 4, r2]) hv
              have e39 : (2 : Int) ^ 39 = 549755813888 := by decide
              have e40 : (2 : Int) ^ 40 = 1099511627776 := by decide
              have r21' : r2 < 1099511627776 := r21
              have zb : 0 ≤ z ∧ z < 1099511627776 := by
                simp only [List.mem_cons, List.not_mem_nil, or_false] at hz
                omega
              have e40n : (2 : Nat) ^ 40 = 1099511627776 := by decide
              exact k _ H13 (But.trans b11 (But.trans (But.same s12) b13)) (PA13.mono (by omega)) ⟨z.toNat, congrArg V.int (by omega), by omega⟩
            · intro H10 ys bb PA10 hD yl al
              obtain ⟨ms2, e2, l2, lt2⟩ := nat_vs al
              refine ⟨D, _, rfl, .inl (SqL.of hD), fun b2 H11 s11 hb2 => ⟨b2, ms2, rfl, ⟨e2 ▸ hb2, by rw [l2, yl, ln], lt2⟩, ((L8.draw PA10 bb).same s11).mono (by rw [ln]; omega)⟩⟩
        · rintro σ H9 ⟨b, ms, rfl, v8, L8⟩
          have mlen := v8.len
          have nl8 : (natI ms).length = m := (List.length_map _).trans mlen
          have ln8 : ((natI ms).map V.int).length = m := by rw [List.length_map, nl8]
          have sm : m < sizeLine := by rw [sizeLine_eq]; omega
          have bl : ∀ z ∈ ms, bitsN z ≤ 40 := fun z hz => bits_le (v8.lt z hz)
          have lL : lenR ms ≤ 40 := lenR_le (by decide) bl
          refine ⟨fun σ H' => ∃ du, σ = [some (.ref sa), some (.ref p), some (.ref d), some (.int (m : Nat)), some (.ref ac), some (.int (0 + (i : Nat))), some (.ref b), some (.ref du), o8, o9, o10, o11, none, none, some (.ref x), none, none, none, none] ∧ RowT K H' du (firstR ms (dr.cols.getD 0 "")) ∧ Vs K H' b ms m ∧ Lw TT K CP p pl ac x dr tx H' (2000 + 2000 * i + 20), ?_, ?_⟩
          · refine ⟨_, rfl, _, rfl, ac, _, ((0 : Nat) : Int), _, rfl, rfl, SqL.of L8.col, L2.atI_nat c0at, (by show 1 ≤ sizeLine; decide), fun l1 n1 => ⟨(by show 1 ≤ sizeLine; decide), fun l2 n2 => ?_⟩⟩
            have s1 := same_upd (o := .lst [.str (dr.cols.getD 0 "")]) n1
            have h1 := upd_same (H := H9) (a := l1) (o := .lst [.str (dr.cols.getD 0 "")])
            generalize upd H9 l1 (.lst [.str (dr.cols.getD 0 "")]) = H10 at s1 h1 n2 ⊢
            have s2 := same_upd (o := .lst [.int 2]) n2
            have h2 := upd_same (H := H10) (a := l2) (o := .lst [.int 2])
            generalize upd H10 l2 (.lst [.int 2]) = H11 at s2 h2 ⊢
            have s02 := same_trans s1 s2
            have hb10 := SqT.tups (same_tups s02) v8.at_
            refine ⟨_, rfl, b, rfl, ⟨_, hb10⟩, fun D nD => ?_⟩
            refine RP.lc_rel (walk_tup (K := K) (a := b) (xs := (natI ms).map V.int)) (cs := ms) (by rw [ln8, mlen]) (by rw [ln8]; exact sm) (fun _ z y => y = .int ((bitsN z : Nat) : Int)) (fun _ _ _ _ _ h => h) nD (fun H' s => SqT.tups (same_tups s) hb10) ?_ ?_
            · rintro j y z H13 H12 R hj hz s11 ⟨rfl, hy⟩ k
              obtain ⟨z', hz', rfl, hz2⟩ := natI_at hy
              obtain rfl : z = z' := Option.some.inj (hz.symm.trans hz2)
              exact ⟨rfl, _, rfl, z, rfl, Nat.lt_of_lt_of_le (v8.lt z hz') (by decide), k _ _ same_refl rfl⟩
            · intro H12 ys s11 hD pr
              obtain rfl := pr_map pr
              refine ⟨l2, D, _, _, rfl, rfl, s11 _ _ h2, hD, (by rw [List.length_map, mlen, sizeLine_eq]; show 1 + _ ≤ _; omega), fun l3 n3 => ⟨l3, 2 :: ms.map (fun z => ((bitsN z : Nat) : Int)), rfl, SqL.of (by rw [upd_same, List.map_cons, List.map_map]; rfl), Nat.succ_pos _, fun mx hm hall => ?_⟩⟩
              have eL : mx = ((lenR ms : Nat) : Int) := by
                have h2 := hall 2 (List.mem_cons_self ..)
                have e := lenR_of (ns := ms) (m := mx.toNat) (by omega) (fun z hz => by
                  have := hall _ (List.mem_cons_of_mem _ (List.mem_map.mpr ⟨z, hz, rfl⟩))
                  omega) (by
                  rcases List.mem_cons.mp hm with rfl | hm
                  · exact .inl rfl
                  · obtain ⟨z, hz, rfl⟩ := List.mem_map.mp hm
                    exact .inr ⟨z, hz, by omega⟩)
                omega
              subst eL
              have s3 := same_upd (o := .lst ([V.int 2] ++ ms.map fun z => V.int ((bitsN z : Nat) : Int))) n3
              generalize upd H12 l3 (.lst ([V.int 2] ++ ms.map fun z => V.int ((bitsN z : Nat) : Int))) = H14 at s3 ⊢
              have s0E := same_trans s02 (same_trans s11 s3)
              refine ⟨l1, _, _, rfl, rfl, s3 _ _ (s11 _ _ (s2 _ _ h1)), by omega, by omega, (by rw [sizeLine_eq]; show 1 * _ ≤ _; omega), fun l4 n4 => ?_⟩
              have er : (List.replicate ((lenR ms : Nat) : Int).toNat [V.str (dr.cols.getD 0 "")]).flatten = (List.replicate (lenR ms) (dr.cols.getD 0 "")).map V.str := by
                rw [Int.toNat_natCast, List.map_replicate]
                induction lenR ms with
                | zero => rfl
                | succ n ih => rw [List.replicate_succ, List.flatten_cons, ih, List.replicate_succ]; rfl
              have s4 := same_upd (o := .lst (List.replicate ((lenR ms : Nat) : Int).toNat [V.str (dr.cols.getD 0 "")]).flatten) n4
              have hl4 := SqL.of (K := K) (upd_same (H := H14) (a := l4) (o := .lst (List.replicate ((lenR ms : Nat) : Int).toNat [V.str (dr.cols.getD 0 "")]).flatten))
              rw [er] at hl4 s4 ⊢
              generalize upd H14 l4 (.lst ((List.replicate (lenR ms) (dr.cols.getD 0 "")).map V.str)) = H15 at s4 hl4 ⊢
              have s0F := same_trans s0E s4
              refine ⟨b, l4, ms, List.replicate (lenR ms) (dr.cols.getD 0 ""), rfl, ?_, hl4, by omega, by rw [List.length_replicate]; omega, fun p2 H16 s16 row => ⟨p2, rfl, row, v8.kp (.same (same_trans s0F s16)), L8.same (same_trans s0F s16)⟩⟩
              have z := SqT.tups (same_tups s0F) v8.at_
              unfold natI at z
              rw [List.map_map] at z
              exact z
          · rintro σ H10 ⟨du, rfl, row, v9, L9⟩
            have few : (firstR ms (dr.cols.getD 0 "")).length = lenR ms := by
              unfold firstR rowM
              rw [List.length_map, List.length_range, List.length_replicate]
            have fne : firstR ms (dr.cols.getD 0 "") ≠ [] := fun z => by
              have := lenR_ge ms
              rw [z] at few
              have : (0 : Nat) = lenR ms := few
              omega
            have wide : ∀ c ∈ firstR ms (dr.cols.getD 0 ""), c.1.length = m := fun c hc => by
              obtain ⟨j, _, rfl⟩ := List.mem_map.mp hc
              exact (List.length_map _).trans mlen
            have fcol : ∀ c ∈ firstR ms (dr.cols.getD 0 ""), PyData.canLay0 (.str c.2) = true := fun c hc => by
              unfold firstR rowM at hc
              obtain ⟨j, hj, rfl⟩ := List.mem_map.mp hc
              rw [List.mem_range, List.length_replicate] at hj
              have e : (List.replicate (lenR ms) (dr.cols.getD 0 "")).getD j "" = dr.cols.getD 0 "" := by
                rw [List.getD_eq_getElem?_getD, List.getElem?_replicate, if_pos hj]
                rfl
              show PyData.canLay0 (.str ((List.replicate (lenR ms) (dr.cols.getD 0 "")).getD j "")) = true
              rw [e]
              exact clay _ c0in
            have fsh := row_sh fcol
            have fval : (List.range m).map (fun k => valN k (firstR ms (dr.cols.getD 0 ""))) = natI ms := mlen ▸ vals_first _
            generalize hfr : firstR ms (dr.cols.getD 0 "") = fr at row few fne wide fcol fsh fval ⊢
            refine ⟨_, rfl, _, rfl, _, rfl, _, rfl, b, _, rfl, .inr v9.at_, fun l3 nl3 => ⟨(by show 2 ≤ sizeLine; decide), fun l4 nl4 => ?_⟩⟩
            have s12 := same_upd (o := .lst ((natI ms).map V.int)) nl3
            have hl3 := SqL.of (K := K) (upd_same (H := H10) (a := l3) (o := .lst ((natI ms).map V.int)))
            generalize upd H10 l3 (.lst ((natI ms).map V.int)) = H11 at s12 hl3 nl4 ⊢
            have s13 := same_upd (o := .lst [.ref b, .ref l3]) nl4
            have L10 := (L9.same s12).same s13
            refine ⟨p, pl, l4, _, _, rfl, L10.pen, by omega, SqL.of upd_same, (fun z => nomatch z), (by show 2 < 1073741824; decide), (nap_ (L9.same s12).pen nl4).1, fun ip v H14 hv PA14 b14 => ?_⟩
            have kp14 : Kp H10 H14 := Kp.trans (.same (same_trans s12 s13)) (.pen L10.pen b14)
            have L14 := L10.draw PA14 b14
            have hl14 := (Kp.pen L10.pen b14).sql (Kp.sql (.same s13) hl3)
            have v14 := v9.kp kp14
            have row14 : RowT K H14 du fr := by
              obtain ⟨xs, h1, h2⟩ := row
              exact ⟨xs, kp14.sqt h1, h2.tups kp14.tups⟩
            obtain ⟨b', rfl, hb'⟩ : ∃ b', v = .ref b' ∧ (SqL K H14 b' ((natI ms).map V.int) ∨ SqT K H14 b' ((natI ms).map V.int)) := by
              have e := List.mem_of_getElem? hv
              simp only [List.mem_cons, List.not_mem_nil, or_false] at e
              rcases e with rfl | rfl
              · exact ⟨b, rfl, .inr v14.at_⟩
              · exact ⟨l3, rfl, .inl hl14⟩
            refine ⟨x, tx, dr.regs, dr.cols, dr.ords, .ref b', rfl, L14.pa, r1, r3, cne, .inr ⟨ms, ⟨⟨b', rfl, hb'⟩, by rw [nl8, hm], v14.num⟩, fun q1 H15 s15 row15 => ?_⟩⟩
            rw [hfr] at row15
            have L15 := L14.same s15
            have v15 := v14.kp (.same s15)
            have rowD15 : RowT K H15 du fr := row14.tups (same_tups s15)
            have vdp : ∀ {Hx : Hp} {r : Addr}, SqT K Hx r (((List.range m).map fun k => valN k fr).map V.int) → Dp K Hx (.ref r) (.tuple ((natI ms).map .int)) := fun h => .tup (fval ▸ h) (dp_ints _)
            have few3 : fr.length ≤ 300 := by omega
            have m3 : m ≤ 3 := by omega
            refine ⟨fun σ H' => ∃ o8, σ = [some (.ref sa), some (.ref p), some (.ref d), some (.int (m : Nat)), some (.ref ac), some (.int (0 + (i : Nat))), some (.ref b), some (.ref du), o8, o9, o10, o11, none, none, some (.ref x), none, none, none, none] ∧ RowT K H' du fr ∧ Vs K H' b ms m ∧ Lw TT K CP p pl ac x dr tx H' (2000 + 2000 * i + 21), ?_, ?_⟩
            · refine ⟨_, rfl, _, rfl, _, _, row_dp row15, row_dp rowD15, fsh, fsh, _, rfl, ?_⟩
              rw [SeqAt.eqv_refl _ (SeqAt.canLay_of_shaped fsh)]
              refine iteF ⟨_, rfl, q1, fr, m, rfl, row15, fne, few3, m3, wide, fun r2 H16 s16 hr2 => ⟨_, rfl, _, _, vdp hr2, .tup (SqT.tups (same_tups s16) v15.at_) (dp_ints _), ints_shT _, ints_shT _, _, rfl, ?_⟩⟩
              rw [SeqAt.eqv_refl _ (SeqAt.canLay_of_shaped (ints_shT _))]
              refine iteF ⟨_, rfl, q1, fr, m, rfl, row15.tups (same_tups s16), fne, few3, m3, wide, fun r3 H17 s17 hr3 => ⟨r3, _, rfl, hr3, _, rfl, iteF ?_⟩⟩
              have s1517 := same_trans s16 s17
              exact ⟨_, rfl, rowD15.tups (same_tups s1517), v15.kp (.same s1517), L15.same s1517⟩
            · rintro σ H16 ⟨o8, rfl, rowD16, v16, L16⟩
              clear row15 L15 v15 rowD15 s15 hb' hl14 v14 L14 kp14 row14 b14 PA14 L10 s13 hl3 s12 nl3 nl4 L9 v9 row L8 v8 L7 v7 L6
              refine ⟨fun σ H' => ∃ D ys, σ = [some (.ref sa), some (.ref p), some (.ref d), some (.int (m : Nat)), some (.ref ac), some (.int (0 + (i : Nat))), some (.ref b), some (.ref du), o8, some (.ref D), o10, o11, none, none, some (.ref x), none, none, none, none] ∧ H' D = some (.lst ys) ∧ ys.length ≤ 60 ∧ 1 ≤ ys.length ∧ (∀ y ∈ ys, DigV K m H' y) ∧ RowT K H' du fr ∧ Vs K H' b ms m ∧ Lw TT K CP p pl ac x dr tx H' (2000 + 2000 * i + 300), ?_, ?_⟩
              · refine ⟨_, rfl, p, pl, _, 50, rfl, L16.pen, by omega, by decide, by decide, fun r H17 r0 r1' PA17 b17 => ?_⟩
                obtain ⟨rn, rfl⟩ : ∃ rn : Nat, r = (rn : Int) := ⟨r.toNat, by omega⟩
                have L17 := L16.draw PA17 b17
                have kp17 := Kp.pen L16.pen b17
                have v17 := v16.kp kp17
                have rowD17 := rowD16.tups kp17.tups
                refine ⟨1, _, rfl, rfl, ((1 + rn : Nat) : Int), rfl, by omega, by omega, fun D nD => ?_⟩
                change H17 D = none at nD
                refine RP.lc_pen (walk_range (lo := 0) (n := 1 + rn)) (by rw [sizeLine_eq]; omega) (DigV K m) (fun _ _ _ t h => h.tups t) 3 L17.pen nD (fun _ _ _ _ => trivial) ?_ ?_
                · rintro j y H19 H18 R hj bb PA18 ⟨rfl, rfl⟩ k
                  refine ⟨rfl, _, rfl, (m : Nat), rfl, by omega, by omega, fun D2 nD2 => ?_⟩
                  change H18 D2 = none at nD2
                  refine RP.lc_pen (walk_range (lo := 0) (n := m)) sm (fun _ y => y = .int 0 ∨ y = .int 1) (fun _ _ _ _ h => h) 1 PA18 nD2 (fun _ _ _ _ => trivial) ?_ ?_
                  · rintro j2 y2 H21 H20 R2 hj2 bb2 PA20 ⟨rfl, rfl⟩ k2
                    refine ⟨rfl, _, rfl, p, pl, _, 2, rfl, PA20, by omega, by decide, by decide, fun r2 H22 r20 r21 PA22 b22 => k2 _ H22 b22 (PA22.mono (by omega)) ?_⟩
                    by_cases z : r2 = 0
                    · exact .inl (congrArg V.int z)
                    · exact .inr (congrArg V.int (by omega))
                  · intro H20 ys bb2 PA20 hD2 yl al
                    obtain ⟨ds, e2, l2, bits⟩ := bit_vs al
                    exact ⟨D2, _, rfl, .inl (SqL.of hD2), fun r3 H21 s21 hr3 => k _ H21 (But.trans bb2 (But.same s21)) ((PA20.keep s21).mono (by omega)) ⟨r3, ds, rfl, e2 ▸ hr3, by rw [l2, yl], bits⟩⟩
                · intro H18 ys bb PA18 hD yl al
                  have L18 := L17.draw PA18 bb
                  have kp18 := Kp.pen L17.pen bb
                  exact ⟨D, ys, rfl, hD, by omega, by omega, al, rowD17.tups kp18.tups, v17.kp kp18, L18.mono (by omega)⟩
              · rintro σ H18 ⟨D, ys, rfl, hD, y60, y1, al, rowD18, v18, L18⟩
                refine ⟨fun σ H' => ∃ o9 rw cs, σ = [some (.ref sa), some (.ref p), some (.ref d), some (.int (m : Nat)), some (.ref ac), some (.int (0 + (i : Nat))), some (.ref b), some (.ref du), o8, o9, some (.ref rw), o11, none, none, some (.ref x), none, none, none, none] ∧ RowT K H' rw cs ∧ cs ≠ [] ∧ cs.length ≤ 60 ∧ CsOk m dr.cols cs ∧ RowT K H' du fr ∧ Vs K H' b ms m ∧ Lw TT K CP p pl ac x dr tx H' (2000 + 2000 * i + 400), ?_, ?_⟩
                · refine ⟨_, rfl, D, rfl, ⟨_, SqL.of hD⟩, fun D2 nD2 => ?_⟩
                  change H18 D2 = none at nD2
                  refine RP.lc_pen (walk_list (K := K) (a := D) (xs := ys)) (by rw [sizeLine_eq]; omega) (CelV K m dr.cols) (fun _ _ _ t h => h.tups t) 1 L18.pen nD2 (fun H' _ bb2 _ => (Kp.pen L18.pen bb2).sql (SqL.of hD)) ?_ ?_
                  · rintro j y H20 H19 R hj bb2 PA19 ⟨rfl, hy⟩ k
                    have k19 := Kp.pen L18.pen bb2
                    obtain ⟨r2, ds, rfl, hr2, dl, bits⟩ := (al y (List.mem_of_getElem? hy)).tups k19.tups
                    refine ⟨rfl, _, rfl, _, rfl, _, rfl, p, pl, ac, _, _, rfl, PA19, by omega, SqL.of (k19.lst L18.col), (fun z => cne (List.map_eq_nil_iff.mp z)), (by rw [List.length_map]; have := ok.c3; omega), L18.acp, fun ip v H21 hv PA21 b21 => ⟨(by show 2 ≤ sizeLine; decide), fun r nr => ?_⟩⟩
                    rw [List.getElem?_map] at hv
                    obtain ⟨c, hc, rfl⟩ := Option.map_eq_some_iff.mp hv
                    have s22 := same_upd (o := .tup [.ref r2, .str c]) nr
                    exact k _ _ (But.trans b21 (But.same s22)) ((PA21.keep s22).mono (by omega)) ⟨r, r2, ds, c, rfl, SqT.of upd_same, SqT.tups (same_tups s22) ((Kp.pen PA19 b21).sqt hr2), dl, bits, List.mem_of_getElem? hc⟩
                  · intro H19 ys2 bb2 PA19 hD2 yl2 al2
                    obtain ⟨cs, rv, csl, cok⟩ := cel_vs al2
                    have L19 := L18.draw PA19 bb2
                    have kp19 := Kp.pen L18.pen bb2
                    refine ⟨D2, _, rfl, .inl (SqL.of hD2), fun rw H20 s20 hrw => ⟨_, rw, cs, rfl, ⟨ys2, hrw, rv.tups (same_tups s20)⟩, fun z => ?_, by omega, cok, (rowD18.tups kp19.tups).tups (same_tups s20), (v18.kp kp19).kp (.same s20), (L19.same s20).mono (by omega)⟩⟩
                    rw [z] at csl
                    have : (0 : Nat) = ys2.length := csl
                    omega
                · rintro σ H17 ⟨o9, rw, cs, rfl, rowC, cne2, c60, cok, rowD17, v17, L17⟩
                  have cwide : ∀ c ∈ cs, c.1.length = m := fun c hc => (cok c hc).1
                  have csh : SeqAt.shaped (rowD cs) = true := row_sh fun c hc => clay _ (cok c hc).2.2
                  refine ⟨fun σ H' => ∃ nb, σ = [some (.ref sa), some (.ref p), some (.ref d), some (.int (m : Nat)), some (.ref ac), some (.int (0 + (i : Nat))), some (.ref b), some (.ref du), o8, o9, some (.ref rw), some (.ref nb), none, none, some (.ref x), none, none, none, none] ∧ SqT K H' nb (((List.range m).map fun k => valN k cs).map V.int) ∧ RowT K H' rw cs ∧ RowT K H' du fr ∧ Vs K H' b ms m ∧ Lw TT K CP p pl ac x dr tx H' (2000 + 2000 * i + 400), ?_, ?_⟩
                  · refine ⟨_, rfl, (m : Nat), rfl, by omega, by omega, fun D nD => ?_⟩
                    change H17 D = none at nD
                    refine RP.lc_rel (walk_range (lo := 0) (n := m)) (cs := List.range m) List.length_range sm (fun _ k y => y = .int (valN k cs)) (fun _ _ _ _ _ h => h) nD (fun _ _ => trivial) ?_ ?_
                    · rintro j y k0 H19 H18 R hj hk s18 ⟨rfl, rfl⟩ k
                      rw [List.getElem?_range hj] at hk
                      obtain rfl := Option.some.inj hk
                      refine ⟨rfl, _, rfl, _, rfl, rw, cs, j, congrArg (fun z : Int => [V.ref rw, V.int z]) (Int.zero_add _), rowC.tups (same_tups s18), by omega, fun c hc => by rw [cwide c hc]; exact hj, fun H20 s20 => k _ H20 s20 ?_⟩
                      rw [cok.tot hj]
                    · intro H18 ys s18 hD pr
                      obtain rfl := pr_map pr
                      refine ⟨D, _, rfl, .inl (SqL.of hD), fun nb H19 s19 hnb => ?_⟩
                      have s1719 := same_trans s18 s19
                      refine ⟨nb, rfl, ?_, rowC.tups (same_tups s1719), rowD17.tups (same_tups s1719), v17.kp (.same s1719), L17.same s1719⟩
                      rw [List.map_map]
                      exact hnb
                  · rintro σ H18 ⟨nb, rfl, hnb, rowC, rowD18, v18, L18⟩
                    refine ⟨fun σ H' => σ = [some (.ref sa), some (.ref p), some (.ref d), some (.int (m : Nat)), some (.ref ac), some (.int (0 + (i : Nat))), some (.ref b), some (.ref du), o8, o9, some (.ref rw), some (.ref nb), none, none, some (.ref x), none, none, none, none] ∧ RowT K H' rw cs ∧ Vs K H' b ms m ∧ Lw TT K CP p pl ac x dr tx H' (2000 + 2000 * i + 400), ?_, ?_⟩
                    · refine ⟨_, rfl, rw, cs, m, rfl, rowC, cne2, by omega, m3, cwide, fun r2 H19 s19 hr2 => ⟨_, rfl, _, _, .tup hr2 (dp_ints _), .tup (SqT.tups (same_tups s19) hnb) (dp_ints _), ints_shT _, ints_shT _, _, rfl, ?_⟩⟩
                      rw [SeqAt.eqv_refl _ (SeqAt.canLay_of_shaped (ints_shT _))]
                      refine iteF ⟨_, rfl, _, rfl, _, rfl, _, rfl, _, rfl, (by show 4 ≤ sizeLine; decide), fun l nl => ?_⟩
                      have s20 := same_upd (o := .lst [.ref du, .ref rw, .ref du, .ref du]) nl
                      have s18 := same_trans s19 s20
                      refine ⟨.ref x, l, [.ref du, .ref rw, .ref du, .ref du], [.ref rw, .ref du], m, [cs, fr], rfl, .inl ⟨SqL.of upd_same, (step4 _ _ _ _).symm⟩, (by show 2 ≤ 10; decide), m3, .cons ⟨rw, rfl, rowC.tups (same_tups s18)⟩ (.cons ⟨du, rfl, rowD18.tups (same_tups s18)⟩ .nil), fun c hc => ?_, fun r3 H21 zs s21 hr3 pz => ?_⟩
                      · simp only [List.mem_cons, List.not_mem_nil, or_false] at hc
                        rcases hc with rfl | rfl
                        · exact ⟨cne2, by omega, cwide⟩
                        · exact ⟨fne, few3, wide⟩
                      · cases pz with
                        | cons e1 pz =>
                          cases pz with
                          | cons e2 pz =>
                            cases pz
                            obtain ⟨p1, rfl, hp1⟩ := e1
                            obtain ⟨p2, rfl, hp2⟩ := e2
                            refine ⟨_, rfl, _, rfl, (by show 2 ≤ sizeLine; decide), fun t nt => ?_⟩
                            have s22 := same_upd (o := .tup [.ref nb, .ref b]) nt
                            have s1822 := same_trans s18 (same_trans s21 s22)
                            have sh2 : SeqAt.shaped (.tuple [.tuple ((valsN m cs).map .int), .tuple ((natI ms).map .int)]) = true := shaped_tuple fun d hd => by
                              simp only [List.mem_cons, List.not_mem_nil, or_false] at hd
                              rcases hd with rfl | rfl
                              · exact ⟨(ints_lay _).1, Nat.le_trans (ints_lay _).2 (by decide)⟩
                              · exact ⟨(ints_lay _).1, Nat.le_trans (ints_lay _).2 (by decide)⟩
                            refine ⟨_, _, .tup (SqT.tups (same_tups s22) hr3) (.cons (.tup (SqT.tups (same_tups s22) hp1) (dp_ints _)) (.cons (vdp (SqT.tups (same_tups s22) hp2)) .nil)), .tup (SqT.of upd_same) (.cons (.tup (SqT.tups (same_tups s1822) hnb) (dp_ints (valsN m cs))) (.cons (.tup (SqT.tups (same_tups s1822) v18.at_) (dp_ints _)) .nil)), sh2, sh2, _, rfl, ?_⟩
                            rw [SeqAt.eqv_refl _ (SeqAt.canLay_of_shaped sh2)]
                            exact iteF ⟨rfl, rowC.tups (same_tups s1822), v18.kp (.same s1822), L18.same s1822⟩
                    · rintro σ H19 ⟨rfl, rowC, v19, L19⟩
                      have sh0 : SeqAt.shaped (.tuple []) = true := shaped_tuple fun d hd => absurd hd List.not_mem_nil
                      refine ⟨_, rfl, _, rfl, (by show 1 ≤ sizeLine; decide), fun t nt => ?_⟩
                      have s20 := same_upd (o := .tup [.ref rw]) nt
                      refine ⟨.ref x, t, [.ref rw], [], m, [], rfl, .inr ⟨SqT.of upd_same, (step1 _).symm⟩, (by decide), m3, .nil, fun c hc => absurd hc List.not_mem_nil, fun r2 H21 zs s21 hr2 pz => ?_⟩
                      cases pz
                      refine ⟨(by show 0 ≤ sizeLine; decide), fun t2 nt2 => ?_⟩
                      have s22 := same_upd (o := .tup ([] : List V)) nt2
                      refine ⟨_, _, .tup (SqT.tups (same_tups s22) hr2) .nil, .tup (SqT.of upd_same) .nil, sh0, sh0, _, rfl, ?_⟩
                      rw [SeqAt.eqv_refl _ (SeqAt.canLay_of_shaped sh0)]
                      refine iteF ⟨_, rfl, (by show 0 ≤ sizeLine; decide), fun t3 nt3 => ?_⟩
                      have s23 := same_upd (o := .lst ([] : List V)) nt3
                      refine ⟨.ref x, t3, [], [], m, [], rfl, .inl ⟨SqL.of upd_same, step0.symm⟩, (by decide), m3, .nil, fun c hc => absurd hc List.not_mem_nil, fun r3 H24 zs s24 hr3 pz => ?_⟩
                      cases pz
                      refine ⟨(by show 0 ≤ sizeLine; decide), fun t4 nt4 => ?_⟩
                      have s25 := same_upd (o := .tup ([] : List V)) nt4
                      refine ⟨_, _, .tup (SqT.tups (same_tups s25) hr3) .nil, .tup (SqT.of upd_same) .nil, sh0, sh0, _, rfl, ?_⟩
                      rw [SeqAt.eqv_refl _ (SeqAt.canLay_of_shaped sh0)]
                      have sA := same_trans s20 (same_trans s21 (same_trans s22 (same_trans s23 (same_trans s24 s25))))
                      exact iteF ⟨_, _, _, _, _, _, _, rfl, (L19.same sA).mono (by omega), fun _ => ⟨b, ms, rfl, v19.kp (.same sA)⟩⟩
      · rintro σ H6 ⟨o5, o6, o7, o8, o9, o10, o11, rfl, L6, vs⟩
        obtain ⟨b, ms, rfl, v⟩ := vs (by decide)
        exact ⟨_, _, _, _, _, _, b, ms, rfl, v, L6.mono (by decide)⟩
    · rintro σ H6 ⟨o5, o7, o8, o9, o10, o11, b, ms, rfl, v6, L6⟩
      subst hm
      have mlen := v6.len
      have nln : (natI ms).length = dr.regs.length := (List.length_map _).trans mlen
      have ln : ((natI ms).map V.int).length = dr.regs.length := by rw [List.length_map, nln]
      have hnum := v6.num
      have es1 : ∀ {x : Lf} {r : Addr} {Hx : Hp} {zs : List Int}, SqT K Hx r (x.v :: zs.map V.int) → SqT K Hx r ((x :: zs.map Lf.i).map Lf.v) := fun {x r Hx zs} h => by
        rw [List.map_cons, List.map_map]
        exact h
      have sm1 : ∀ (z : Int), z ∈ natI ms → z.natAbs < 10 ^ 13 := fun z hz => by
        obtain ⟨z0, z1⟩ := hnum z hz
        have e : (2 : Int) ^ 40 = 1099511627776 := by decide
        have e2 : (10 : Nat) ^ 13 = 10000000000000 := by decide
        omega
      have odd1 : ∀ {x : Lf} {r : Addr} {Hx : Hp}, x.sm → numOk x.d = false → SqT K Hx r (x.v :: ((natI ms).drop 1).map V.int) → ∃ d, OddV K Hx dr.regs.length (.ref r) d := fun {x r Hx} hx bad h =>
        ⟨_, .inr (.inr (.inr ⟨r, false, x :: ((natI ms).drop 1).map Lf.i, rfl, rfl, es1 h, by rw [List.length_cons, List.length_map, List.length_drop]; omega, fun e he => by
          rcases List.mem_cons.mp he with rfl | he
          · exact hx
          · obtain ⟨z, hz, rfl⟩ := List.mem_map.mp he
            exact sm1 z (List.mem_of_mem_drop hz), fun z => by
          have := z.2
          rw [List.map_cons, List.all_cons, bad] at this
          cases this⟩))⟩
      refine ⟨fun σ H' => ∃ v dd, σ = [some (.ref sa), some (.ref p), some (.ref d), some (.int (dr.regs.length : Nat)), some (.ref ac), o5, some (.ref b), o7, o8, o9, o10, o11, none, some v, some (.ref x), none, none, none, none] ∧ Lw TT K CP p pl ac x dr tx H' 20001 ∧ OddV K H' dr.regs.length v dd, ?_, ?_⟩
      · refine ⟨_, rfl, ?_⟩
        refine RP.tc_ (RP.lst_ (RP.tc_ (RP.cst_ (RP.tc_ ?_))))
        refine ⟨_, rfl, (by show 1 ≤ sizeLine; decide), fun t1 nt1 => ?_⟩
        have s1 := same_upd (o := .tup [.int 0]) nt1
        refine ⟨b, t1, _, [.int 0], rfl, rfl, SqT.tups (same_tups s1) v6.at_, SqT.of upd_same, (by rw [ln, sizeLine_eq]; show _ + 1 ≤ _; omega), fun r5 H7 s5 h5 => ?_⟩
        have s05 := same_trans s1 s5
        have hb7 := SqT.tups (same_tups s05) v6.at_
        refine RP.tc_ (cat_one (x := .int (-1)) (fun Q q => ⟨1, rfl, q⟩) rfl hb7 (by omega) (by omega) fun r6 H8 s6 h6 => RP.tc_ (cat_one (x := .int (2 ^ 40)) (fun Q q => ⟨2, 40, rfl, rfl, ⟨by decide, by decide, by decide⟩, q⟩) rfl (SqT.tups (same_tups s6) hb7) (by omega) (by omega) fun r7 H9 s7 h7 => RP.tc_ (cat_one (x := .str "1") (fun Q q => q) rfl (SqT.tups (same_tups (same_trans s6 s7)) hb7) (by omega) (by omega) fun r8 H10 s8 h8 => ⟨(by show 5 ≤ sizeLine; decide), fun l nl => ?_⟩)))
        have s9 := same_upd (o := .lst [.non, .ref r5, .ref r6, .ref r7, .ref r8]) nl
        have L9 := (((L6.same s05).same s6).same s7).same s8
        have L10 := L9.same s9
        refine ⟨p, pl, l, _, _, rfl, L10.pen, by decide, SqL.of upd_same, (fun z => nomatch z), (by show 5 < 1073741824; decide), (nap_ L9.pen nl).1, fun ip v H12 hv PA12 b12 => ?_⟩
        have L12 := L10.draw PA12 b12
        have kp := Kp.pen L10.pen b12
        have hm := List.mem_of_getElem? hv
        simp only [List.mem_cons, List.not_mem_nil, or_false] at hm
        have t89 := same_trans s8 s9
        have t79 := same_trans s7 t89
        have t69 := same_trans s6 t79
        rcases hm with rfl | rfl | rfl | rfl | rfl
        · exact ⟨_, .none, rfl, L12, .inl ⟨rfl, rfl⟩⟩
        · refine ⟨_, _, rfl, L12, .inr (.inr (.inr ⟨r5, false, (natI ms ++ [0]).map Lf.i, rfl, rfl, ?_, by rw [List.length_map, List.length_append, nln]; show _ + 1 ≤ _; omega, fun e he => ?_, fun z => ?_⟩))⟩
          · show SqT K _ r5 _
            rw [List.map_map]
            have z := kp.sqt (SqT.tups (same_tups t69) h5)
            rw [List.map_append]
            exact z
          · obtain ⟨z, hz, rfl⟩ := List.mem_map.mp he
            rcases List.mem_append.mp hz with hz | hz
            · exact sm1 z hz
            · rw [List.mem_singleton.mp hz]
              show (0 : Int).natAbs < _
              decide
          · have := z.1
            rw [List.length_map, List.length_append, nln] at this
            have e : ([0] : List Int).length = 1 := rfl
            omega
        · obtain ⟨dd, o⟩ := odd1 (x := .i (-1)) (by show (-1 : Int).natAbs < _; decide) rfl (kp.sqt (SqT.tups (same_tups t79) h6))
          exact ⟨_, dd, rfl, L12, o⟩
        · obtain ⟨dd, o⟩ := odd1 (x := .i (2 ^ 40)) (by show ((2 : Int) ^ 40).natAbs < _; decide) (by decide) (kp.sqt (SqT.tups (same_tups t89) h7))
          exact ⟨_, dd, rfl, L12, o⟩
        · obtain ⟨dd, o⟩ := odd1 (x := .s) trivial rfl (kp.sqt (SqT.tups (same_tups s9) h8))
          exact ⟨_, dd, rfl, L12, o⟩
      · rintro σ H7 ⟨v, dd, rfl, L7, ov⟩
        have ok2 := ov.ok
        refine ⟨L7.tabs, fun H8 e8 t8 => ?_⟩
        have kp8 := Kp.ext e8
        refine ⟨_, rfl, _, rfl, x, tx, dr.regs, dr.cols, dr.ords, v, rfl, L7.pa.kp kp8, r1, r3, cne, .inl ⟨(ov.kp kp8).bad, fun d2 H9 s9 e9 => ⟨rfl, d2, v, "values", dd.shown, rfl, e9, Shd.of (ov.kp (kp8.trans (.same s9))).dp ok2, fun p1 np1 => ⟨(by show 1 ≤ sizeLine; decide), fun l1 nl1 => ?_⟩⟩⟩⟩
        have q1 := same_upd (o := .tup [.str "values", .str dd.shown]) np1
        have q2 := same_upd (o := .lst [.ref p1]) nl1
        have kp1 : Kp H7 (upd H9 p1 (.tup [.str "values", .str dd.shown])) := kp8.trans (.same (same_trans s9 q1))
        have nl7 : ∀ b o, H7 b = some o → (∀ ps, o ≠ .tbl ps) → (∀ kvs, o ≠ .dK kvs) → b ≠ l1 := fun b o e u1 u2 z => by
          have := kp1 b o e u1 u2
          rw [z, nl1] at this
          cases this
        have h1a : SqT K (upd (upd H9 p1 (.tup [.str "values", .str dd.shown])) l1 (.lst [.ref p1])) p1 [.str "values", .str dd.shown] := SqT.tups (same_tups q2) (SqT.of upd_same)
        have hla := upd_same (H := upd H9 p1 (.tup [.str "values", .str dd.shown])) (a := l1) (o := .lst [.ref p1])
        have kpA := kp1.trans (.same q2)
        have tbA := ((t8.ext s9).ext q1).ext q2
        generalize upd (upd H9 p1 (.tup [.str "values", .str dd.shown])) l1 (.lst [.ref p1]) = HA at h1a hla kpA tbA ⊢
        refine ⟨_, rfl, .inl ⟨rfl, _, SqL.of hla⟩, tbA, fun H10 e10 t10 => ?_⟩
        have kp10 := kpA.trans (.ext e10)
        refine ⟨_, rfl, _, rfl, x, tx, dr.regs, dr.cols, dr.ords, v, rfl, L7.pa.kp kp10, r1, r3, cne, (ov.kp kp10).bad, fun d2 H11 s11 e11 => ⟨rfl, d2, v, "values", dd.shown, rfl, e11, Shd.of (ov.kp (kp10.trans (.same s11))).dp ok2, fun p2 np2 => ?_⟩⟩
        have q3 := same_upd (o := .tup [.str "values", .str dd.shown]) np2
        have h2b : SqT K (upd H11 p2 (.tup [.str "values", .str dd.shown])) p2 [.str "values", .str dd.shown] := SqT.of upd_same
        have sB := same_trans s11 q3
        have h1b := SqT.tups (same_tups sB) ((Kp.ext e10).sqt h1a)
        have hlb := sB _ _ ((Kp.ext e10).lst hla)
        have kpB := kp10.trans (.same sB)
        generalize upd H11 p2 (.tup [.str "values", .str dd.shown]) = HB at h2b sB h1b hlb kpB ⊢
        refine ⟨l1, _, .ref p2, rfl, rfl, hlb, (by show 1 < sizeLine; decide), ?_⟩
        have tuB : Tups HB (upd HB l1 (.lst ([.ref p1] ++ [.ref p2]))) := Tups.upd (lst_ntup hlb)
        have kpC : Kp H7 (upd HB l1 (.lst ([.ref p1] ++ [.ref p2]))) := fun b o e u1 u2 => by
          rw [upd_ne (nl7 b o e u1 u2)]
          exact kpB b o e u1 u2
        have hlc := upd_same (H := HB) (a := l1) (o := .lst ([.ref p1] ++ [.ref p2]))
        have h1c := SqT.tups tuB h1b
        have h2c := SqT.tups tuB h2b
        generalize upd HB l1 (.lst ([.ref p1] ++ [.ref p2])) = HC at kpC hlc h1c h2c ⊢
        refine ⟨_, rfl, _, rfl, v, dd, rfl, (ov.kp kpC).dp, ok2.s, ok2.h, ok2.p, ok2.len, (by show 2 ≤ sizeLine; decide), fun t1 nt1 => ⟨(by show 1 ≤ sizeLine; decide), fun l2 nl2 => ?_⟩⟩
        have u1 := same_upd (o := .tup [.str "values", .str dd.shown]) nt1
        have u2 := same_upd (o := .lst [.ref t1]) nl2
        have ht1 : SqT K (upd (upd HC t1 (.tup [.str "values", .str dd.shown])) l2 (.lst [.ref t1])) t1 [.str "values", .str dd.shown] := SqT.tups (same_tups u2) (SqT.of upd_same)
        refine ⟨l2, 2, _, rfl, rfl, upd_same, by decide, by decide, (by show 2 ≤ sizeLine; decide), fun l3 nl3 => ?_⟩
        have u3 := same_upd (o := .lst [.ref t1, .ref t1]) nl3
        have uA := same_trans u1 (same_trans u2 u3)
        have ht3 := SqT.tups (same_tups u3) ht1
        have pd : ∀ {Hx : Hp} {x : Addr} {y z : Str}, SqT K Hx x [.str y, .str z] → Dp K Hx (.ref x) (.tuple [.str y, .str z]) := fun h => .tup h (.cons (.str _) (.cons (.str _) .nil))
        have lay2 : ∀ {y z : Str}, PyData.canLay0 (.str y) = true → PyData.canLay0 (.str z) = true → PyData.canLay0 (.tuple [.str y, .str z]) = true ∧ (PyData.tuple [.str y, .str z]).depth ≤ 40 := fun {y z} h1 h2 => by
          have w := lay_tup (m := 0) (ds := [.str y, .str z]) fun e he => by
            simp only [List.mem_cons, List.not_mem_nil, or_false] at he
            rcases he with rfl | rfl
            · exact ⟨h1, Nat.le_refl _⟩
            · exact ⟨h2, Nat.le_refl _⟩
          exact ⟨w.1, Nat.le_trans w.2 (by decide)⟩
        have sh : SeqAt.shaped (.list [.tuple [.str "values", .str dd.shown], .tuple [.str "values", .str dd.shown]]) = true := shaped_list fun e he => by
          simp only [List.mem_cons, List.not_mem_nil, or_false] at he
          rcases he with rfl | rfl
          · exact lay2 (by decide +kernel) ok2.lay
          · exact lay2 (by decide +kernel) ok2.lay
        refine ⟨_, _, .lst (SqL.of (uA _ _ hlc)) (.cons (pd (SqT.tups (same_tups uA) h1c)) (.cons (pd (SqT.tups (same_tups uA) h2c)) .nil)), .lst (SqL.of upd_same) (.cons (pd ht3) (.cons (pd ht3) .nil)), sh, sh, ?_⟩
        rw [SeqAt.eqv_refl _ (SeqAt.canLay_of_shaped sh)]
        exact q _
end
end K23

set_option Elab.async false
set_option linter.all false
set_option maxRecDepth 100000
set_option maxHeartbeats 0
namespace K23
open PySem PySem.Spec PyProof.Rows L2 Pen Tr AK LamX RL RU
section
variable {P : Program} {w : World} {K : PySem.W.Frag} {h : Heap} {mg : Str → Option PySem.Value} {base : Heap} {f C : Addr} {fd : FuncData}
theorem sc_BadText : FnScope ["self", "line", "column"] ["self", "line", "column"] (defScope (inClass (top 2) 0)) := ⟨rfl, rfl, rfl, by decide +kernel, rfl, by decide +kernel, by decide +kernel⟩
theorem ok_BadText (F : FnM K "__init__" "BadText.__init__" (inClass (top 2) 0) f fd) (T : Xc K C) (no : ∀ y ∈ (["line", "column"] : List Str), PySem.W.findIn K (.ref C) y = some none) : FnOk P w K mg base CX0 1 f fd ("self" :: ["line", "column"]) (spI C ["line", "column"]) := by
  refine F.ok sc_BadText (fun vs H Q E h => spI_len h) (fun cdv A outer s H vs Q E hr h => ?_)
  obtain ⟨a, ws, rfl, hl, ha, k⟩ := h
  obtain ⟨v0, v1, rfl⟩ : ∃ v0 v1, ws = [v0, v1] := by
    match ws, hl with
    | [v0, v1], _ => exact ⟨v0, v1, rfl⟩
  suffices z : ∃ t, PSs (cxOf CX0 P w K mg base ["self", "line", "column"] "BadText.__init__" (defScope (inClass (top 2) 0)) f cdv A outer s H E).nox (defBody (inClass (top 2) 0)) t ∧ t { nx := fun _ H' => Q .non H', rt := Q } (start ["self", "line", "column"] [.ref a, v0, v1]) H by
    obtain ⟨t, h1, h2⟩ := z
    exact ⟨t, h1.nox, h2⟩
  refine ⟨_, pss_cons (ps_ost (pv 0) (pv 1)) (pss_one (ps_ost (pv 0) (pv 2))), ?_⟩
  refine ⟨_, rfl, _, rfl, a, C, rfl, T.o, no _ (by simp), .inl ⟨ha, fun d hd hne => ?_⟩⟩
  refine ⟨_, rfl, _, rfl, a, C, rfl, T.o, no _ (by simp), .inr ⟨d, _, (by exact upd_same), (by rw [upd_ne hne, upd_same]), (by show 1 ≤ 900; decide), ?_⟩⟩
  refine k _ d hd (by rw [upd_ne hne.symm]; exact upd_same) (by exact upd_same) (fun b o e nb => ?_)
  rw [upd_ne (ne_of_none e hd), upd_ne nb, upd_ne (ne_of_none e hd)]
  exact e
theorem sc_BadNumber : FnScope ["self", "what", "number"] ["self", "what", "number"] (defScope (inClass (top 3) 0)) := ⟨rfl, rfl, rfl, by decide +kernel, rfl, by decide +kernel, by decide +kernel⟩
theorem ok_BadNumber (F : FnM K "__init__" "BadNumber.__init__" (inClass (top 3) 0) f fd) (T : Xc K C) (no : ∀ y ∈ (["what", "number"] : List Str), PySem.W.findIn K (.ref C) y = some none) : FnOk P w K mg base CX0 1 f fd ("self" :: ["what", "number"]) (spI C ["what", "number"]) := by
  refine F.ok sc_BadNumber (fun vs H Q E h => spI_len h) (fun cdv A outer s H vs Q E hr h => ?_)
  obtain ⟨a, ws, rfl, hl, ha, k⟩ := h
  obtain ⟨v0, v1, rfl⟩ : ∃ v0 v1, ws = [v0, v1] := by
    match ws, hl with
    | [v0, v1], _ => exact ⟨v0, v1, rfl⟩
  suffices z : ∃ t, PSs (cxOf CX0 P w K mg base ["self", "what", "number"] "BadNumber.__init__" (defScope (inClass (top 3) 0)) f cdv A outer s H E).nox (defBody (inClass (top 3) 0)) t ∧ t { nx := fun _ H' => Q .non H', rt := Q } (start ["self", "what", "number"] [.ref a, v0, v1]) H by
    obtain ⟨t, h1, h2⟩ := z
    exact ⟨t, h1.nox, h2⟩
  refine ⟨_, pss_cons (ps_ost (pv 0) (pv 1)) (pss_one (ps_ost (pv 0) (pv 2))), ?_⟩
  refine ⟨_, rfl, _, rfl, a, C, rfl, T.o, no _ (by simp), .inl ⟨ha, fun d hd hne => ?_⟩⟩
  refine ⟨_, rfl, _, rfl, a, C, rfl, T.o, no _ (by simp), .inr ⟨d, _, (by exact upd_same), (by rw [upd_ne hne, upd_same]), (by show 1 ≤ 900; decide), ?_⟩⟩
  refine k _ d hd (by rw [upd_ne hne.symm]; exact upd_same) (by exact upd_same) (fun b o e nb => ?_)
  rw [upd_ne (ne_of_none e hd), upd_ne nb, upd_ne (ne_of_none e hd)]
  exact e
theorem ex_xc (q : ex K = true) : ∀ C ∈ cs K, Xc K C := fun C hC => xcAll_ok (List.all_eq_true.mp (Bool.and_eq_true_iff.mp q).1 C hC)
theorem ex_emd (q : ex K = true) : ∀ C ∈ cs K, ∀ D ∈ cs K, PySem.W.exmOne K (.ref C) (.ref D) = some (C == D) := fun C hC D hD => of_decide_eq_true (List.all_eq_true.mp (List.all_eq_true.mp (Bool.and_eq_true_iff.mp (Bool.and_eq_true_iff.mp q).2).1 C hC) D hD)
theorem ex_em (q : ex K = true) : ∀ C ∈ cs K, PySem.W.exmOne K (.ref C) (.ref C) = some true := fun C hC => by
  rw [ex_emd q C hC C hC, beq_self_eq_true]
theorem ex_no (q : ex K = true) : ∀ C ∈ cs K, ∀ y ∈ flds, PySem.W.findIn K (.ref C) y = some none := fun C hC y hy =>
  of_decide_eq_true (List.all_eq_true.mp (List.all_eq_true.mp (Bool.and_eq_true_iff.mp (Bool.and_eq_true_iff.mp (Bool.and_eq_true_iff.mp q).2).2).1 C hC) y hy)
theorem ex_ord (q : ex K = true) : ∀ e ∈ ordK, strAt K (He.ga K "ORDERS") e.1 e.2 = true :=
  List.all_eq_true.mp (Bool.and_eq_true_iff.mp (Bool.and_eq_true_iff.mp (Bool.and_eq_true_iff.mp q).2).2).2
theorem ordF_of {a : Addr} (k : He.dicW K a = some (He.keysIn w.params (ordK.map (·.1)))) (z : ∀ e ∈ ordK, strAt K a e.1 e.2 = true) : OrdF K w a := by
  obtain ⟨es, n, kd⟩ := He.dicW_ok k
  have has : ∀ e ∈ ordK, ∃ u, PySem.W.nsIn K a e.1 = some (some u) ∧ RelV (.str e.2) u := fun e he => by
    have z1 := z e he
    unfold strAt at z1
    split at z1
    · rename_i s t e1
      obtain rfl := of_decide_eq_true z1
      exact ⟨_, e1, _, rfl⟩
    · cases z1
  refine ⟨⟨es, n, kd⟩, fun x y h => ?_, fun x h => ?_⟩
  · unfold kindO at h
    obtain ⟨e, he, rfl⟩ := Option.map_eq_some_iff.mp h
    have e1 := List.find?_some he
    obtain rfl := of_decide_eq_true e1
    obtain ⟨u, h1, h2⟩ := has e (List.mem_of_find?_eq_some he)
    exact ⟨⟨es, n, u, kd.1, kd.2, h1, h2⟩, u, h1⟩
  · have km : es.toList.map He.keyOf = He.keysIn w.params (ordK.map (·.1)) := by
      unfold He.dicW at k
      rw [kd.at_] at k
      simp only [] at k
      split at k
      · exact Option.some.inj k
      · exact nomatch k
    have key : ∀ e ∈ es.toList, ∃ s t, e.key = .str s t ∧ s ≠ x := fun e he => by
      have m : He.keyOf e ∈ He.keysIn w.params (ordK.map (·.1)) := by
        rw [← km]
        exact List.mem_map.mpr ⟨e, he, rfl⟩
      unfold He.keysIn at m
      obtain ⟨s, hs, e2⟩ := List.mem_map.mp m
      obtain ⟨p, hp, rfl⟩ := List.mem_map.mp hs
      unfold He.keyOf at e2
      split at e2
      · rename_i s t e3
        injection e2 with e2
        injection e2 with e4 e5
        refine ⟨s, t, e3, fun z => ?_⟩
        subst z
        unfold kindO at h
        rw [Option.map_eq_none_iff, List.find?_eq_none] at h
        exact h p hp (decide_eq_true e4)
      · cases e2
    unfold PySem.W.nsIn
    rw [kd.at_]
    have fn : es.toList.find? (·.key.isStr x) = none := by
      rw [List.find?_eq_none]
      intro e he
      obtain ⟨s, t, e1, e2⟩ := key e he
      rw [e1]
      exact fun z => e2 (beq_iff_eq.mp z)
    have an : es.toList.any (·.refKey) = false := by
      rw [List.any_eq_false]
      intro e he
      obtain ⟨s, t, e1, e2⟩ := key e he
      unfold DictEntry.refKey
      rw [e1]
      exact fun z => nomatch z
    simp only [fn, an]
    rfl
theorem in_cs {x : Str} (hx : x ∈ errs) : He.ga K x ∈ cs K := List.mem_map.mpr ⟨x, hx, rfl⟩
theorem er_of {x : Str} {fs : List Str} {fd : FuncData} (hx : x ∈ errs) (hf : ∀ y ∈ fs, y ∈ flds) (q : ex K = true) (m : mg x = some (.ref (He.ga K x))) (M : Meth K (He.ga K x) "__init__" (He.ma K (He.ga K x) "__init__"))
    (G : FnOk P w K mg base CX0 1 (He.ma K (He.ga K x) "__init__") fd ("self" :: fs) (spI (He.ga K x) fs)) (b : L2.Binds K fd ("self" :: fs) []) : Er P w K mg base x (He.ga K x) fs :=
  ⟨ex_xc q _ (in_cs hx), fun y hy => ex_no q _ (in_cs hx) y (hf y hy), m, ⟨_, fd, M.at_, beq_iff_eq.mp M.fn, G, b⟩⟩
theorem ct_of {x : Str} {fs : List Str} (hx : x ∈ errs) (hf : ∀ y ∈ fs, y ∈ flds) (q : ex K = true) (m : mg x = some (.ref (He.ga K x))) : Ct K mg x (He.ga K x) fs :=
  ⟨m, (ex_xc q _ (in_cs hx)).f, fun y hy => ex_no q _ (in_cs hx) y (hf y hy), ex_em q _ (in_cs hx)⟩
def csT (K : PySem.W.Frag) : List (Addr × Addr) := [He.cT K ("law", none)]
def qs (K : PySem.W.Frag) : List (Addr × Str) := [((He.cT K ("law", none)).2, ("law" ++ ".<locals>." ++ "<lambda>" : Str))]
theorem qs_tabs {H : Hp} (z : ∀ p ∈ csT K, H p.2 = some (.tbl #[])) : Tabs (qs K) H := fun p hp => by
  unfold qs at hp
  simp only [List.mem_cons, List.not_mem_nil, or_false] at hp
  obtain rfl := hp
  exact TabS.nil (z _ (by simp [csT]))
theorem facts (X : K.In h) (N : h.Ns mainGlobals mg) (hfa : mg ("law" : Str) = some (.ref f)) (d : He.SaysD fa fn K) (q : ex K = true) (kO : He.dicW K (He.ga K "ORDERS") = some (He.keysIn w.params (ordK.map (·.1)))) :
    ∃ fd : FuncData, (∀ (s : Shared) (v : PySem.Value), BindsTo s fd ⟨[v], []⟩ [("_law_script", v)]) ∧ ∀ base : Heap, K.In base → base.Ns mainGlobals mg → (∀ p ∈ csT K, TabB base mg p.1 p.2) → GFn P w K mg base CX0 8 f fd ["_law_script"] (spLaw (qs K) K) := by
  have TX : Txt mg := ⟨He.free_ok X N (d.fact 0 (f := .free "len") rfl), He.free_ok X N (d.fact 1 (f := .free "int") rfl), He.free_ok X N (d.fact 2 (f := .free "list") rfl), He.free_ok X N (d.fact 3 (f := .free "range") rfl), He.free_ok X N (d.fact 4 (f := .free "repr") rfl), He.free_ok X N (d.fact 5 (f := .free "isinstance") rfl), He.free_ok X N (d.fact 6 (f := .free "tuple") rfl), He.free_ok X N (d.fact 7 (f := .free "bool") rfl), He.free_ok X N (d.fact 8 (f := .free "sorted") rfl), He.free_ok X N (d.fact 9 (f := .free "all") rfl), He.free_ok X N (d.fact 10 (f := .free "dict") rfl), He.free_ok X N (d.fact 11 (f := .free "str") rfl), He.free_ok X N (d.fact 12 (f := .free "max") rfl), He.free_ok X N (d.fact 13 (f := .free "min") rfl), He.free_ok X N (d.fact 14 (f := .free "enumerate") rfl), He.free_ok X N (d.fact 15 (f := .free "zip") rfl), He.free_ok X N (d.fact 16 (f := .free "sum") rfl)⟩
  obtain ⟨t_FIGURES, g_FIGURES⟩ := He.str_ok X N (d.fact 17 (f := .str "FIGURES" "0123456789") rfl)
  obtain ⟨t_SMALL_LETTERS, g_SMALL_LETTERS⟩ := He.str_ok X N (d.fact 18 (f := .str "SMALL_LETTERS" "abcdefghijklmnopqrstuvwxyz") rfl)
  obtain ⟨t_MOST_REGISTERS, g_MOST_REGISTERS⟩ := He.int_ok X N (d.fact 19 (f := .int "MOST_REGISTERS" 3) rfl)
  obtain ⟨t_MOST_COLOURS, g_MOST_COLOURS⟩ := He.int_ok X N (d.fact 20 (f := .int "MOST_COLOURS" 4) rfl)
  have g_ORDERS := He.glo_ok X N (d.fact 21 (f := .glo "ORDERS") rfl)
  have g_is_integer := He.glo_ok X N (d.fact 22 (f := .glo "is_integer") rfl)
  have g_is_number := He.glo_ok X N (d.fact 23 (f := .glo "is_number") rfl)
  have g_is_datum := He.glo_ok X N (d.fact 24 (f := .glo "is_datum") rfl)
  have g_is_symbol := He.glo_ok X N (d.fact 25 (f := .glo "is_symbol") rfl)
  have g_is_tuple_of := He.glo_ok X N (d.fact 26 (f := .glo "is_tuple_of") rfl)
  have g_is_list := He.glo_ok X N (d.fact 27 (f := .glo "is_list") rfl)
  have g_by_repr := He.glo_ok X N (d.fact 28 (f := .glo "by_repr") rfl)
  have g_lines_of := He.glo_ok X N (d.fact 29 (f := .glo "lines_of") rfl)
  have g_words_of := He.glo_ok X N (d.fact 30 (f := .glo "words_of") rfl)
  have g_is_name := He.glo_ok X N (d.fact 31 (f := .glo "is_name") rfl)
  have g_names_of_line := He.glo_ok X N (d.fact 32 (f := .glo "names_of_line") rfl)
  have g_marks_of := He.glo_ok X N (d.fact 33 (f := .glo "marks_of") rfl)
  have g_orders_of := He.glo_ok X N (d.fact 34 (f := .glo "orders_of") rfl)
  have g_check_mark := He.glo_ok X N (d.fact 35 (f := .glo "check_mark") rfl)
  have g_order_of := He.glo_ok X N (d.fact 36 (f := .glo "order_of") rfl)
  have g_is_over := He.glo_ok X N (d.fact 37 (f := .glo "is_over") rfl)
  have g_check_values := He.glo_ok X N (d.fact 38 (f := .glo "check_values") rfl)
  have g_is_direction := He.glo_ok X N (d.fact 39 (f := .glo "is_direction") rfl)
  have g_is_first := He.glo_ok X N (d.fact 40 (f := .glo "is_first") rfl)
  have g_are_steps := He.glo_ok X N (d.fact 41 (f := .glo "are_steps") rfl)
  have g_is_step := He.glo_ok X N (d.fact 42 (f := .glo "is_step") rfl)
  have g_are_turns := He.glo_ok X N (d.fact 43 (f := .glo "are_turns") rfl)
  have g_is_turn := He.glo_ok X N (d.fact 44 (f := .glo "is_turn") rfl)
  have g_first_row := He.glo_ok X N (d.fact 45 (f := .glo "first_row") rfl)
  have g_values_of := He.glo_ok X N (d.fact 46 (f := .glo "values_of") rfl)
  have g_steps_told := He.glo_ok X N (d.fact 47 (f := .glo "steps_told") rfl)
  have g_letters_of_program := He.glo_ok X N (d.fact 48 (f := .glo "letters_of_program") rfl)
  have g_sweeps_of := He.glo_ok X N (d.fact 49 (f := .glo "sweeps_of") rfl)
  have g_step_of := He.glo_ok X N (d.fact 50 (f := .glo "step_of") rfl)
  have g_turn_of := He.glo_ok X N (d.fact 51 (f := .glo "turn_of") rfl)
  have g_turn_behind := He.glo_ok X N (d.fact 52 (f := .glo "turn_behind") rfl)
  have g_with_digit := He.glo_ok X N (d.fact 53 (f := .glo "with_digit") rfl)
  have g_done_at := He.glo_ok X N (d.fact 54 (f := .glo "done_at") rfl)
  have g_digit_behind := He.glo_ok X N (d.fact 55 (f := .glo "digit_behind") rfl)
  have g__law_pen := He.glo_ok X N (d.fact 56 (f := .glo "_law_pen") rfl)
  have g__law_draw := He.glo_ok X N (d.fact 57 (f := .glo "_law_draw") rfl)
  have g__law_pick := He.glo_ok X N (d.fact 58 (f := .glo "_law_pick") rfl)
  have g__law_name := He.glo_ok X N (d.fact 59 (f := .glo "_law_name") rfl)
  have g__law_names := He.glo_ok X N (d.fact 60 (f := .glo "_law_names") rfl)
  have g__law_program := He.glo_ok X N (d.fact 61 (f := .glo "_law_program") rfl)
  have g__law_loop := He.glo_ok X N (d.fact 62 (f := .glo "_law_loop") rfl)
  have g__law_any_program := He.glo_ok X N (d.fact 63 (f := .glo "_law_any_program") rfl)
  have g__law_marks := He.glo_ok X N (d.fact 64 (f := .glo "_law_marks") rfl)
  have g__law_order_words := He.glo_ok X N (d.fact 65 (f := .glo "_law_order_words") rfl)
  have g__law_program_lines := He.glo_ok X N (d.fact 66 (f := .glo "_law_program_lines") rfl)
  have g__law_text_of := He.glo_ok X N (d.fact 67 (f := .glo "_law_text_of") rfl)
  have g__law_some_values := He.glo_ok X N (d.fact 68 (f := .glo "_law_some_values") rfl)
  have g__law_digit := He.glo_ok X N (d.fact 69 (f := .glo "_law_digit") rfl)
  have g__law_power_two := He.glo_ok X N (d.fact 70 (f := .glo "_law_power_two") rfl)
  have g__law_digits := He.glo_ok X N (d.fact 71 (f := .glo "_law_digits") rfl)
  have g__law_row := He.glo_ok X N (d.fact 72 (f := .glo "_law_row") rfl)
  have g__law_refused := He.glo_ok X N (d.fact 73 (f := .glo "_law_refused") rfl)
  have g__law_total := He.glo_ok X N (d.fact 74 (f := .glo "_law_total") rfl)
  have g_law := He.glo_ok X N (d.fact 75 (f := .glo "law") rfl)
  have g_BadText := He.glo_ok X N (d.fact 76 (f := .glo "BadText") rfl)
  have g_BadNumber := He.glo_ok X N (d.fact 77 (f := .glo "BadNumber") rfl)
  have g_Program := He.glo_ok X N (d.fact 78 (f := .glo "Program") rfl)
  obtain ⟨fd_is_integer, F_is_integer⟩ := d.def_ 0 rfl
  obtain ⟨fd_is_number, F_is_number⟩ := d.def_ 1 rfl
  obtain ⟨fd_is_datum, F_is_datum⟩ := d.def_ 2 rfl
  obtain ⟨fd_is_symbol, F_is_symbol⟩ := d.def_ 3 rfl
  obtain ⟨fd_is_tuple_of, F_is_tuple_of⟩ := d.def_ 4 rfl
  obtain ⟨fd_is_list, F_is_list⟩ := d.def_ 5 rfl
  obtain ⟨fd_by_repr, F_by_repr⟩ := d.def_ 6 rfl
  obtain ⟨fd_lines_of, F_lines_of⟩ := d.def_ 7 rfl
  obtain ⟨fd_words_of, F_words_of⟩ := d.def_ 8 rfl
  obtain ⟨fd_is_name, F_is_name⟩ := d.def_ 9 rfl
  obtain ⟨fd_names_of_line, F_names_of_line⟩ := d.def_ 10 rfl
  obtain ⟨fd_marks_of, F_marks_of⟩ := d.def_ 11 rfl
  obtain ⟨fd_orders_of, F_orders_of⟩ := d.def_ 12 rfl
  obtain ⟨fd_check_mark, F_check_mark⟩ := d.def_ 13 rfl
  obtain ⟨fd_order_of, F_order_of⟩ := d.def_ 14 rfl
  obtain ⟨fd_is_over, F_is_over⟩ := d.def_ 15 rfl
  obtain ⟨fd_check_values, F_check_values⟩ := d.def_ 16 rfl
  obtain ⟨fd_is_direction, F_is_direction⟩ := d.def_ 17 rfl
  obtain ⟨fd_is_first, F_is_first⟩ := d.def_ 18 rfl
  obtain ⟨fd_are_steps, F_are_steps⟩ := d.def_ 19 rfl
  obtain ⟨fd_is_step, F_is_step⟩ := d.def_ 20 rfl
  obtain ⟨fd_are_turns, F_are_turns⟩ := d.def_ 21 rfl
  obtain ⟨fd_is_turn, F_is_turn⟩ := d.def_ 22 rfl
  obtain ⟨fd_first_row, F_first_row⟩ := d.def_ 23 rfl
  obtain ⟨fd_values_of, F_values_of⟩ := d.def_ 24 rfl
  obtain ⟨fd_steps_told, F_steps_told⟩ := d.def_ 25 rfl
  obtain ⟨fd_letters_of_program, F_letters_of_program⟩ := d.def_ 26 rfl
  obtain ⟨fd_sweeps_of, F_sweeps_of⟩ := d.def_ 27 rfl
  obtain ⟨fd_step_of, F_step_of⟩ := d.def_ 28 rfl
  obtain ⟨fd_turn_of, F_turn_of⟩ := d.def_ 29 rfl
  obtain ⟨fd_turn_behind, F_turn_behind⟩ := d.def_ 30 rfl
  obtain ⟨fd_with_digit, F_with_digit⟩ := d.def_ 31 rfl
  obtain ⟨fd_done_at, F_done_at⟩ := d.def_ 32 rfl
  obtain ⟨fd_digit_behind, F_digit_behind⟩ := d.def_ 33 rfl
  obtain ⟨fd__law_pen, F__law_pen⟩ := d.def_ 34 rfl
  obtain ⟨fd__law_draw, F__law_draw⟩ := d.def_ 35 rfl
  obtain ⟨fd__law_pick, F__law_pick⟩ := d.def_ 36 rfl
  obtain ⟨fd__law_name, F__law_name⟩ := d.def_ 37 rfl
  obtain ⟨fd__law_names, F__law_names⟩ := d.def_ 38 rfl
  obtain ⟨fd__law_program, F__law_program⟩ := d.def_ 39 rfl
  obtain ⟨fd__law_loop, F__law_loop⟩ := d.def_ 40 rfl
  obtain ⟨fd__law_any_program, F__law_any_program⟩ := d.def_ 41 rfl
  obtain ⟨fd__law_marks, F__law_marks⟩ := d.def_ 42 rfl
  obtain ⟨fd__law_order_words, F__law_order_words⟩ := d.def_ 43 rfl
  obtain ⟨fd__law_program_lines, F__law_program_lines⟩ := d.def_ 44 rfl
  obtain ⟨fd__law_text_of, F__law_text_of⟩ := d.def_ 45 rfl
  obtain ⟨fd__law_some_values, F__law_some_values⟩ := d.def_ 46 rfl
  obtain ⟨fd__law_digit, F__law_digit⟩ := d.def_ 47 rfl
  obtain ⟨fd__law_power_two, F__law_power_two⟩ := d.def_ 48 rfl
  obtain ⟨fd__law_digits, F__law_digits⟩ := d.def_ 49 rfl
  obtain ⟨fd__law_row, F__law_row⟩ := d.def_ 50 rfl
  obtain ⟨fd__law_refused, F__law_refused⟩ := d.def_ 51 rfl
  obtain ⟨fd__law_total, F__law_total⟩ := d.def_ 52 rfl
  obtain ⟨fd_law, F_law⟩ := d.def_ 53 rfl
  obtain ⟨fd_BadText___init__, F_BadText___init__⟩ := d.def_ 54 rfl
  obtain ⟨fd_BadNumber___init__, F_BadNumber___init__⟩ := d.def_ 55 rfl
  obtain ⟨fd_Program___init__, F_Program___init__⟩ := d.def_ 56 rfl
  have M_BadText___init__ := He.meth_ok (d.fact 79 (f := .meth "BadText" "__init__") rfl)
  have M_BadNumber___init__ := He.meth_ok (d.fact 80 (f := .meth "BadNumber" "__init__") rfl)
  have K_Program := He.mkr_ok (d.fact 82 (f := .mkr "Program") rfl)
  have M_Program___init__ := He.meth_ok (d.fact 83 (f := .meth "Program" "__init__") rfl)
  have PF : PrF K (He.ga K "Program") := ⟨He.cls_ok (d.fact 81 (f := .cls "Program") rfl), He.noat_ok (d.fact 84 (f := .noat "Program" "text") rfl), He.noat_ok (d.fact 85 (f := .noat "Program" "registers") rfl), He.noat_ok (d.fact 86 (f := .noat "Program" "colours") rfl), He.noat_ok (d.fact 87 (f := .noat "Program" "orders") rfl)⟩
  have e := hfa.symm.trans g_law
  cases e
  refine ⟨fd_law, fun s v => FunD.bindsA (ps := ["_law_script"]) F_law (fun _ _ _ _ _ _ us hl => match us, hl with | [_], _ => rfl) s [v] rfl, fun base _ _ tb => ?_⟩
  have E_BadText : Er P w K mg base "BadText" (He.ga K "BadText") ["line", "column"] := er_of (by simp [errs]) (by simp [flds]) q g_BadText M_BadText___init__ (ok_BadText F_BadText___init__ (ex_xc q _ (in_cs (by simp [errs]))) (fun y hy => ex_no q _ (in_cs (by simp [errs])) y (by revert hy; revert y; simp [flds])))
    (FunD.bindsN F_BadText___init__ fun _ _ _ _ _ _ us hl => match us, hl with | [_, _, _], _ => rfl)
  have X_BadText : Ct K mg "BadText" (He.ga K "BadText") ["line", "column"] := ct_of (by simp [errs]) (by simp [flds]) q g_BadText
  have E_BadNumber : Er P w K mg base "BadNumber" (He.ga K "BadNumber") ["what", "number"] := er_of (by simp [errs]) (by simp [flds]) q g_BadNumber M_BadNumber___init__ (ok_BadNumber F_BadNumber___init__ (ex_xc q _ (in_cs (by simp [errs]))) (fun y hy => ex_no q _ (in_cs (by simp [errs])) y (by revert hy; revert y; simp [flds])))
    (FunD.bindsN F_BadNumber___init__ fun _ _ _ _ _ _ us hl => match us, hl with | [_, _, _], _ => rfl)
  have X_BadNumber : Ct K mg "BadNumber" (He.ga K "BadNumber") ["what", "number"] := ct_of (by simp [errs]) (by simp [flds]) q g_BadNumber
  have tb1 := tb (He.cT K ("law", none)) (by simp [csT])
  have in1 : ((He.cT K ("law", none)).2, ("law" ++ ".<locals>." ++ "<lambda>" : Str)) ∈ qs K := by simp [qs]
  have un1 : ∀ p ∈ qs K, p.1 = (He.cT K ("law", none)).2 → p.2 = ("law" ++ ".<locals>." ++ "<lambda>" : Str) := fun p hp _ => by
    unfold qs at hp
    simp only [List.mem_cons, List.not_mem_nil, or_false] at hp
    obtain rfl := hp
    rfl
  have OF : OrdF K w (He.ga K "ORDERS") := ordF_of kO (ex_ord q)
  have G_lines_of : FnOk P w K mg base CX0 1 _ _ ["text"] spLi := ok_li F_lines_of
  have G_words_of : FnOk P w K mg base CX0 1 _ _ ["line"] spWo := ok_wo F_words_of
  have G_is_name : FnOk P w K mg base CX0 1 _ _ ["value"] spNm := ok_nm F_is_name TX g_SMALL_LETTERS g_FIGURES
  have G_names_of_line : FnOk P w K mg base (L2.CX P w) 3 _ _ ["lines", "number", "word", "most"] (spNs K (He.ga K "BadText")) := ok_ns F_names_of_line TX E_BadText F_is_name g_is_name G_is_name
  have G_marks_of : FnOk P w K mg base CX0 2 _ _ ["lines"] (spMks K) := ok_mks F_marks_of TX F_is_name g_is_name G_is_name
  have G_check_mark : FnOk P w K mg base (L2.CX P w) 3 _ _ ["number", "words", "marks"] (spCk K (He.ga K "BadText")) := ok_ck F_check_mark TX E_BadText F_is_name g_is_name G_is_name
  have G_order_of : FnOk P w K mg base (L2.CX P w) 3 _ _ ["number", "words", "known"] (spOr K (He.ga K "BadText")) := ok_or F_order_of TX E_BadText g_ORDERS OF
  have G_orders_of : FnOk P w K mg base (L2.CX P w) 4 _ _ ["lines", "known"] (spOs K (He.ga K "BadText")) := ok_os F_orders_of TX F_check_mark g_check_mark G_check_mark F_order_of g_order_of G_order_of
  have G_Program___init__ : FnOk P w K mg base (L2.CX P w) 5 _ _ ["self", "text"] (spPr K (He.ga K "Program") (He.ga K "BadText")) := ok_Pr F_Program___init__ TX PF E_BadText g_MOST_REGISTERS g_MOST_COLOURS F_lines_of g_lines_of G_lines_of F_words_of g_words_of G_words_of F_names_of_line g_names_of_line G_names_of_line F_marks_of g_marks_of G_marks_of F_orders_of g_orders_of G_orders_of
  have b_Pr : L2.Binds K fd_Program___init__ ["self", "text"] [] := FunD.bindsN F_Program___init__ fun _ _ _ _ _ _ us hl => match us, hl with | [_, _], _ => rfl
  have G__law_pen : FnOk P w K mg base CX0 1 _ _ ["_law_script"] (spPen K) := ok_pen F__law_pen TX
  have G__law_draw : FnOk P w K mg base CX0 1 _ _ ["_law_pen_here", "_law_many"] spDraw := ok_draw F__law_draw TX
  have G__law_pick : FnOk P w K mg base CX0 2 _ _ ["_law_pen_here", "_law_some"] (spPick K) := ok_pick F__law_pick TX F__law_draw g__law_draw
  have G__law_name : FnOk P w K mg base CX0 3 _ _ ["_law_pen_here", "_law_used"] (spNa K) := ok_Na F__law_name TX F__law_draw g__law_draw G__law_draw F__law_pick g__law_pick G__law_pick
  have G__law_names : FnOk P w K mg base CX0 4 _ _ ["_law_pen_here", "_law_many"] (spNas K) := ok_Nas F__law_names TX F__law_name g__law_name G__law_name
  have G__law_program : FnOk P w K mg base CX0 5 _ _ ["_law_pen_here", "_law_most"] (spPg K) := ok_Pg F__law_program TX F__law_names g__law_names G__law_names F__law_draw g__law_draw G__law_draw F__law_pick g__law_pick G__law_pick
  have G__law_loop : FnOk P w K mg base CX0 5 _ _ ["_law_pen_here"] (spLp K) := ok_Lp F__law_loop TX F__law_names g__law_names G__law_names F__law_draw g__law_draw G__law_draw F__law_pick g__law_pick G__law_pick
  have G__law_any_program : FnOk P w K mg base CX0 6 _ _ ["_law_pen_here", "_law_most"] (spAp K) := ok_Ap F__law_any_program TX F__law_loop g__law_loop G__law_loop F__law_program g__law_program G__law_program F__law_draw g__law_draw G__law_draw
  have G__law_marks : FnOk P w K mg base CX0 3 _ _ ["_law_pen_here", "_law_program_here"] (spMk K) := ok_Mk F__law_marks TX F__law_pick g__law_pick G__law_pick
  have G__law_order_words : FnOk P w K mg base CX0 3 _ _ ["_law_pen_here", "_law_program_here", "_law_marks_here", "_law_order"] (spOw K) := ok_Ow F__law_order_words TX F__law_pick g__law_pick G__law_pick
  have G__law_program_lines : FnOk P w K mg base CX0 4 _ _ ["_law_pen_here", "_law_program_here"] (spPl K) := ok_Pl F__law_program_lines TX F__law_marks g__law_marks G__law_marks F__law_order_words g__law_order_words G__law_order_words
  have G__law_text_of : FnOk P w K mg base CX0 1 _ _ ["_law_lines"] (spTo K) := ok_To F__law_text_of TX
  have G__law_drawW : FnOk P w K mg base CX0 1 _ _ ["_law_pen_here", "_law_many"] spDrW := ok_drawW F__law_draw TX
  have G__law_some_values : FnOk P w K mg base CX0 3 _ _ ["_law_pen_here", "_law_many"] (spSv K) := ok_Sv F__law_some_values TX F__law_pick g__law_pick G__law_pick F__law_draw g__law_draw G__law_draw
  have G_is_list : FnOk P w K mg base CX0 1 _ _ ["value"] (spIsl K) := ok_isl F_is_list TX
  have G_is_number : FnOk P w K mg base CX0 2 _ _ ["value"] (spAsk numD K) := ok_num F_is_number TX F_is_integer g_is_integer
  have G_check_values : FnOk P w K mg base (L2.CX P w) 3 _ _ ["program", "values"] (spCv K (He.ga K "Program") (He.ga K "BadNumber")) := ok_Cv F_check_values TX PF E_BadNumber F_is_list g_is_list G_is_list F_is_number g_is_number G_is_number
  have G_first_row : FnOk P w K mg base (L2.CX P w) 4 _ _ ["program", "values"] (spFr K (He.ga K "Program") (He.ga K "BadNumber")) := ok_Fr F_first_row TX PF F_check_values g_check_values G_check_values
  have G_values_of : FnOk P w K mg base CX0 1 _ _ ["row"] (spVo K) := ok_Vo F_values_of TX
  have G_steps_told : FnOk P w K mg base CX0 2 _ _ ["program", "rows"] (spSt K) := ok_St F_steps_told TX F_values_of g_values_of G_values_of
  have G_sweeps_of : FnOk P w K mg base (L2.CX P w) 5 _ _ ["program", "values"] (spSw K (He.ga K "Program") (He.ga K "BadNumber")) := ok_Sw F_sweeps_of TX F_first_row g_first_row G_first_row
  have G__law_power_two : FnOk P w K mg base CX0 1 _ _ ["_law_place"] spP2 := ok_P2 F__law_power_two TX
  have G__law_digit : FnOk P w K mg base CX0 2 _ _ ["_law_number", "_law_place"] spDg := ok_Dg F__law_digit TX F__law_power_two g__law_power_two G__law_power_two
  have G__law_digits : FnOk P w K mg base CX0 2 _ _ ["_law_number"] spDs := ok_Ds F__law_digits TX F__law_power_two g__law_power_two G__law_power_two
  have G__law_row : FnOk P w K mg base CX0 3 _ _ ["_law_values", "_law_colours"] (spRo K) := ok_Ro F__law_row TX F__law_digit g__law_digit G__law_digit
  have G__law_total : FnOk P w K mg base CX0 2 _ _ ["_law_row_here", "_law_place"] (spTt K) := ok_Tt F__law_total TX F__law_power_two g__law_power_two G__law_power_two
  exact ok_law F_law TX PF X_BadNumber rfl tb1 in1 un1 K_Program g_Program b_Pr G_Program___init__ G__law_drawW F__law_pen g__law_pen G__law_pen F__law_any_program g__law_any_program G__law_any_program F__law_text_of g__law_text_of G__law_text_of F__law_program_lines g__law_program_lines G__law_program_lines F__law_some_values g__law_some_values G__law_some_values F__law_draw g__law_draw G__law_draw F__law_pick g__law_pick G__law_pick F__law_row g__law_row G__law_row F__law_digits g__law_digits G__law_digits F_first_row g_first_row G_first_row F_values_of g_values_of G_values_of F__law_total g__law_total G__law_total F_steps_told g_steps_told G_steps_told F_sweeps_of g_sweeps_of G_sweeps_of F__law_refused g__law_refused
end
end K23

set_option Elab.async false
set_option linter.all false
set_option maxRecDepth 100000
set_option maxHeartbeats 0
open PySem PySem.W PySem.Calls PyProof.Rows


theorem PySem.Challenge.cw_tilesregrow_k23_whole_rows_of_numbers_holds : PySem.Challenge.rw_tilesregrow_k23_whole_rows_of_numbers.Holds := by
  w_on; o_law; k_head
  case hw => w_witness2
  k_fill
  refine Tr.law_walkT (l := PySem.Challenge.rw_tilesregrow_k23_whole_rows_of_numbers) (n := 63) (k := 8) (x := "_law_script") rfl (by decide) (by kernel_rfl) ⟨rfl, by decide, by decide⟩ ?F
  intro w mg fa h Y G hmg0
  have KX := PySem.W.km_in_of Y
  have TB := PySem.W.km_tabs_of Y
  have hmg : mg ("law" : PySem.Str) = some (.ref fa) := hmg0
  obtain ⟨fd, hb, hF⟩ := K23.facts (P := (PySem.Challenge.rw_tilesregrow_k23_whole_rows_of_numbers).prog) (w := w) KX G hmg (show He.obsD K23.fa K23.fn _ = He.valD K23.fn by kernel_rfl) (by kernel_rfl) (by kernel_rfl)
  refine ⟨_, fd, K23.spLaw (K23.qs _) _, K23.csT _, KX, fun p hp => ?_, fun p hp => ?_, fun p hp => ?_, hb, fun H a ns hl hz hS => ⟨a, ns, rfl, hS, hl, K23.qs_tabs hz, fun _ => rfl⟩, hF⟩
  · obtain rfl := List.mem_singleton.mp hp
    exact TB _ (List.elem_iff.mp (by kernel_rfl))
  · obtain rfl := List.mem_singleton.mp hp
    kernel_rfl
  · obtain rfl := List.mem_singleton.mp hp
    kernel_rfl

