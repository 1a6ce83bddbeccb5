import PyProof.Rows.All
import Wide.All
import OpenK.AllK
import Wide.FinOn
import KE.KeyNested
import KE.KDictKeyed
import PyProof.DictRoadsH
import PyProof.DictMoreH
import HandS.ForMost
import HandS.Deep
import HandS.Comp
import HandS.DictComp
import KE.GoesEnum
import HandS.Iter
import HandS.Walk
import HandS.TupMul
import KE.KStateDown
import Lean
import HandS.Exc
import HandS.ExcInit
import HandS.ExcField
import HandS.ExcIs
import HandS.IsInst
import HandS.TupAny
import HandS.Style
import HandS.WordsExc
import HandS.Defaults
import HandS.Head0
import HandS.Head1
import HandS.Head2
import HandS.HeadEnd
import HandS.HeadHook1
import HandS.HeadHook2
import HandS.HeadHook3
import HandS.HeadHook4
import HandS.Lambda
import HandS.SortKw
import HandS.NestedK
import KE.KExcIs
import HandS.Codes
import KE.SortKeyHeap
import KE.KDictCopyH
import KE.KDictSum
import HandS.ExcValue
import HandS.Flow
import HandS.EndTab
import PyProof.ReprBulk
import HandS.TryMany
import HandS.HotCalls
import HandS.ExcInitHot
import HandS.FltList
import HandS.FStr
import HandS.WideBits
import PySem.Challenge.RW_tilesregrow_k38_whole_towers
set_option Elab.async false
set_option linter.all false
set_option maxRecDepth 100000
set_option maxHeartbeats 4000000
/-! dicts whose keys are data of every kind beside each other: None, bools, whole numbers, texts, tuples of these -/
namespace AK
open PySem PySem.SeqAt PyProof.Rows
/-- an entry: the key, the value that is it, what is stored -/
abbrev En := NestedKey × Value × Value
def ent (w : World) (e : En) : DictEntry := ⟨e.1.hash w, e.2.1, e.2.2⟩
/-- at d: a dict of these entries, in order -/
structure DkOf (w : World) (h : Heap) (d : Addr) (es : List En) : Prop where
  ex : ∃ o arr ep, h.get? d = some o ∧ o.ExactDict ∧ o.data = .dict arr ep ∧ arr.toList = es.map (ent w)
  is : ∀ e ∈ es, NestedIs h e.1 e.2.1 ∧ e.1.depth ≤ 8
  nd : (es.map (·.1)).Nodup
theorem uniq {es : List En} (nd : (es.map (·.1)).Nodup) {i j : Nat} {e f : En} (hi : es[i]? = some e) (hj : es[j]? = some f) (h : e.1 = f.1) : i = j := by
  have li : i < (es.map (·.1)).length := by
    rw [List.length_map]
    exact (List.getElem?_eq_some_iff.mp hi).1
  refine (List.getElem?_inj li nd).mp ?_
  rw [List.getElem?_map, List.getElem?_map, hi, hj]
  exact congrArg some h
section
variable {prog : Program} {w : World} {A : Around} {E : Value → Shared → Prop} {s : Shared}
/-- asked of each stored key, == tells nothing -/
theorem no_tell {u : Value} {k : NestedKey} {st : List Value} {Q : Bool → Shared → Prop} (hk : NestedIs s.heap k u) (kd : k.depth ≤ 8) (hs : ∀ v ∈ st, ∃ j : NestedKey, NestedIs s.heap j v ∧ j.depth ≤ 8) (q : Q false s) :
    wpAny (model prog w) A (tableMayTell u st) Q E s := by
  unfold tableMayTell
  by_cases h0 : st.isEmpty = true
  · rw [if_pos h0]
    exact wpAny_pure q
  · rw [if_neg h0]
    refine wpAny_bind (quiet_key k u 8 s hk kd _ _ _ ?_)
    rw [if_neg (by decide)]
    refine wpAny_bind (wpAny_forIn_list _ (fun left r s' => s' = s ∧ r = (none, ()) ∧ ∀ v ∈ left, v ∈ st) _ ?_ ?_ _ _ ⟨rfl, rfl, fun v hv => hv⟩)
    · rintro v left r s' ⟨rfl, rfl, all⟩
      obtain ⟨j, hj, jd⟩ := hs v (all v List.mem_cons_self)
      refine wpAny_bind (quiet_key j v 8 _ hj jd _ _ _ ?_)
      rw [if_neg (by decide)]
      exact wpAny_pure ⟨rfl, rfl, fun v hv => all v (List.mem_cons_of_mem _ hv)⟩
    · rintro r s' ⟨rfl, rfl, _⟩
      exact wpAny_pure q
end
end AK

set_option Elab.async false
set_option linter.all false
set_option maxRecDepth 100000
set_option maxHeartbeats 4000000
namespace AK
open PySem PySem.SeqAt PyProof.Rows
section
variable {prog : Program} {w : World} {A : Around} {E : Value → Shared → Prop} {s : Shared} {arr : Array DictEntry} {es : List En} {k : NestedKey} {u : Value}
theorem ent_at (he : arr.toList = es.map (ent w)) (j : Nat) : arr[j]? = (es[j]?).map (ent w) := by
  rw [← Array.getElem?_toList, he, List.getElem?_map]
theorem ent_size (he : arr.toList = es.map (ent w)) : arr.size = es.length := by
  have z := congrArg List.length he
  rw [Array.length_toList, List.length_map] at z
  exact z
/-- the places that are looked at -/
abbrev spots (w : World) (arr : Array DictEntry) (k : NestedKey) : List Nat := placesWithHash arr.size (fun i => arr[i]?.map (·.hash)) (k.hash w)
theorem spots_nd : (spots w arr k).Nodup := (List.nodup_range).sublist List.filter_sublist
theorem spots_is (he : arr.toList = es.map (ent w)) {i : Nat} (h : i ∈ spots w arr k) : ∃ e, es[i]? = some e ∧ e.1.hash w = k.hash w := by
  have z := (List.mem_filter.mp h).2
  dsimp only at z
  rw [ent_at he] at z
  cases q : es[i]? with
  | none =>
    rw [q] at z
    cases z
  | some e =>
    rw [q] at z
    exact ⟨e, rfl, Option.some.inj (beq_iff_eq.mp z)⟩
theorem spots_has (he : arr.toList = es.map (ent w)) {j : Nat} {e : En} (h : es[j]? = some e) (hk : e.1 = k) : j ∈ spots w arr k := by
  have lj := (List.getElem?_eq_some_iff.mp h).1
  refine List.mem_filter.mpr ⟨List.mem_range.mpr (by rw [ent_size he]; exact lj), ?_⟩
  dsimp only
  rw [ent_at he, h]
  subst hk
  exact beq_self_eq_true _
/-- what == of a stored key and the asked one says -/
theorem ask {e : En} {Q : Bool → Shared → Prop} (hu : A.units + 8 < cLine) (h1 : NestedIs s.heap e.1 e.2.1) (hk : NestedIs s.heap k u) (kd : k.depth ≤ 8) (q : Q (decide (e.1 = k)) s) : wpAny (model prog w) A (eqBool e.2.1 u) Q E s := by
  refine eqAt_key e.1 k A s e.2.1 u h1 hk ?_ _ _ _ _ ?_
  · have : min e.1.depth k.depth ≤ k.depth := Nat.min_le_right _ _
    omega
  · rw [← NestedKey.decide_eq]
    exact q
/-- the first of the places whose key it is -/
def hitIn (es : List En) (k : NestedKey) (l : List Nat) : Option Nat := l.find? fun i => match es[i]? with
  | some e => decide (e.1 = k)
  | none => false
theorem hit_snoc {l : List Nat} {i : Nat} {e : En} (he : es[i]? = some e) : hitIn es k (l ++ [i]) = (hitIn es k l).or (if decide (e.1 = k) = true then some i else none) := by
  unfold hitIn
  rw [List.find?_append, List.find?_cons, he]
  by_cases h : e.1 = k
  · simp [h]
  · simp [h]
theorem hit_some {l : List Nat} {j : Nat} (h : hitIn es k l = some j) : j ∈ l ∧ ∃ e, es[j]? = some e ∧ e.1 = k := by
  have m := List.mem_of_find?_eq_some h
  have p := List.find?_some h
  refine ⟨m, ?_⟩
  cases q : es[j]? with
  | none =>
    rw [q] at p
    cases p
  | some e =>
    rw [q] at p
    exact ⟨e, rfl, of_decide_eq_true p⟩
theorem hit_none {l : List Nat} (h : hitIn es k l = none) {j : Nat} (hj : j ∈ l) {e : En} (he : es[j]? = some e) : e.1 ≠ k := by
  have z := List.find?_eq_none.mp h j hj
  rw [he] at z
  exact fun q => z (decide_eq_true q)
/-- behind the places: what was found is what there is -/
theorem hit_end {Q : Option Nat → Shared → Prop} (he : arr.toList = es.map (ent w)) (no : (∀ e ∈ es, e.1 ≠ k) → Q none s) (yes : ∀ j e, es[j]? = some e → e.1 = k → Q (some j) s) : Q (hitIn es k (spots w arr k)) s := by
  cases h : hitIn es k (spots w arr k) with
  | some j =>
    obtain ⟨_, e, h1, h2⟩ := hit_some h
    exact yes j e h1 h2
  | none =>
    refine no fun e hm hk => ?_
    obtain ⟨j, hj⟩ := List.mem_iff_getElem?.mp hm
    exact hit_none h (spots_has he hj hk) hj hk
/-- the plain walk -/
theorem plain_walk {d : Addr} {o : Obj} {ep : Nat} {Q : Option Nat → Shared → Prop} (hu : A.units + 8 < cLine) (hk : NestedIs s.heap k u) (kd : k.depth ≤ 8) (ho : s.heap.get? d = some o) (hd : o.data = .dict arr ep) (he : arr.toList = es.map (ent w))
    (his : ∀ e ∈ es, NestedIs s.heap e.1 e.2.1 ∧ e.1.depth ≤ 8) (nd : (es.map (·.1)).Nodup) (no : (∀ e ∈ es, e.1 ≠ k) → Q none s) (yes : ∀ j e, es[j]? = some e → e.1 = k → Q (some j) s) :
    wpAny (model prog w) A (dictWalkPlain d u (k.hash w) arr (spots w arr k)) Q E s := by
  unfold dictWalkPlain
  refine wpAny_bind (wpAny_forIn_list _ (fun left r s' => s' = s ∧ r = (none, ()) ∧ ∃ done, spots w arr k = done ++ left ∧ hitIn es k done = none) _ ?_ ?_ _ _ ⟨rfl, rfl, [], rfl, rfl⟩)
  · rintro i left r s' ⟨rfl, rfl, done, split, miss⟩
    have hi : i ∈ spots w arr k := by
      rw [split]
      exact List.mem_append_right _ List.mem_cons_self
    obtain ⟨e, ei, eh⟩ := spots_is he hi
    have isE := (his e (List.mem_of_getElem? ei)).1
    rw [show arr[i]? = some (ent w e) by rw [ent_at he, ei] <;> rfl]
    dsimp only
    rw [if_pos (show ((ent w e).hash == k.hash w) = true from beq_iff_eq.mpr eh)]
    refine wpAny_bind (wpAny_dictEpoch ho hd (wpAny_bind (ask (e := e) hu isE hk kd (wpAny_bind (wpAny_dictEpoch ho hd ?_)))))
    rw [if_neg (show ¬ (ep != ep) = true by simp)]
    by_cases hh : e.1 = k
    · rw [decide_eq_true hh]
      exact wpAny_bind (wpAny_rule (wpAny_pure (wpAny_pure (yes i e ei hh))))
    · rw [decide_eq_false hh]
      have more : hitIn es k (done ++ [i]) = none := by
        rw [hit_snoc ei, miss, decide_eq_false hh]
        rfl
      have cut : spots w arr k = (done ++ [i]) ++ left := by
        rw [split, List.append_assoc]
        rfl
      first
        | exact wpAny_bind (wpAny_rule (wpAny_pure ⟨rfl, rfl, done ++ [i], cut, more⟩))
        | exact wpAny_bind (wpAny_pure (wpAny_bind (wpAny_rule (wpAny_pure ⟨rfl, rfl, done ++ [i], cut, more⟩))))
  · rintro r s' ⟨rfl, rfl, done, split, miss⟩
    have all := hit_end (w := w) (arr := arr) he no yes
    rw [split, List.append_nil, miss] at all
    exact wpAny_pure all
/-- dict's own look-up, by keys of every kind -/
theorem find_any {d : Addr} {o : Obj} {ep : Nat} {Q : Option Nat → Shared → Prop} (hu : A.units + 8 < cLine) (hk : NestedIs s.heap k u) (kd : k.depth ≤ 8) (ho : s.heap.get? d = some o) (hd : o.data = .dict arr ep) (he : arr.toList = es.map (ent w))
    (his : ∀ e ∈ es, NestedIs s.heap e.1 e.2.1 ∧ e.1.depth ≤ 8) (nd : (es.map (·.1)).Nodup) (no : (∀ e ∈ es, e.1 ≠ k) → Q none s) (yes : ∀ j e, es[j]? = some e → e.1 = k → Q (some j) s) :
    wpAny (model prog w) A (dictFind d u (k.hash w)) Q E s := by
  have own : ∀ e ∈ arr, ∃ x ∈ es, e = ent w x := fun e hin => by
    have z : e ∈ es.map (ent w) := he ▸ Array.mem_toList_iff.mpr hin
    obtain ⟨x, hx, rfl⟩ := List.mem_map.mp z
    exact ⟨x, hx, rfl⟩
  have kept : ∀ v ∈ (spots w arr k).filterMap (fun i => arr[i]?.map (·.key)), ∃ j : NestedKey, NestedIs s.heap j v ∧ j.depth ≤ 8 := fun v hv => by
    obtain ⟨i, hi, e1⟩ := List.mem_filterMap.mp hv
    obtain ⟨x, ex, _⟩ := spots_is he hi
    rw [ent_at he, ex] at e1
    have e2 : x.2.1 = v := Option.some.inj e1
    rw [← e2]
    exact ⟨x.1, his x (List.mem_of_getElem? ex)⟩
  have sameHash : ∀ a, u = .ref a → ¬ (arr.any fun e => e.key == Value.ref a && e.hash != k.hash w) = true := fun a hua => by
    rw [← Array.any_toList, List.any_eq_true]
    rintro ⟨e, hin, hc⟩
    obtain ⟨x, hx, rfl⟩ := own e (Array.mem_toList_iff.mp hin)
    obtain ⟨c1, c2⟩ := Bool.and_eq_true_iff.mp hc
    have c3 : x.2.1 = Value.ref a := beq_iff_eq.mp c1
    have z := (his x hx).1
    rw [c3, ← hua] at z
    have c4 : (x.1.hash w != k.hash w) = true := c2
    rw [NestedIs.inj _ _ _ z hk] at c4
    simp at c4
  unfold dictFind
  refine wpAny_holding (wpAny_bind (wpAny_dictEntries ho hd ?_))
  have shape : u = .none ∨ (∃ b, u = .bool b) ∨ (∃ i t, u = .int i t) ∨ (∃ a, u = .ref a) ∨ ∃ x t, u = .str x t := by
    cases hk with
    | none => exact .inl rfl
    | bool _ => exact .inr (.inl ⟨_, rfl⟩)
    | int i t => exact .inr (.inr (.inl ⟨i, t, rfl⟩))
    | tup _ _ _ _ => exact .inr (.inr (.inr (.inl ⟨_, rfl⟩)))
    | text x t => exact .inr (.inr (.inr (.inr ⟨x, t, rfl⟩)))
  have quick : ∀ x t, u = .str x t → (arr.all fun e => isExactStrKey e.key) = true → wpAny (model prog w) A (foundByValue d u arr x) Q E s := fun x t hux hall => by
    have kx : k = .text x := by
      rw [hux] at hk
      cases hk
      rfl
    have texts : ∀ (j : Nat) (e : En), es[j]? = some e → ∃ (y : Str) (t' : Tok), e.1 = NestedKey.text y ∧ e.2.1 = Value.str y t' := fun j e ej => by
      have hm : ent w e ∈ arr := by
        refine Array.mem_toList_iff.mp ?_
        rw [he]
        exact List.mem_map_of_mem (List.mem_of_getElem? ej)
      have z : isExactStrKey (ent w e).key = true := by
        rw [← Array.all_toList] at hall
        exact List.all_eq_true.mp hall _ (Array.mem_toList_iff.mpr hm)
      have ise := (his e (List.mem_of_getElem? ej)).1
      obtain ⟨k1, u1, v1⟩ := e
      cases ise with
      | text y t' => exact ⟨y, t', rfl, rfl⟩
      | none => cases z
      | bool _ => cases z
      | int _ _ => cases z
      | tup _ _ _ _ => cases z
    unfold foundByValue
    cases q : arr.findIdx? (fun e => e.key.isStr x) with
    | none =>
      refine wpAny_pure (no fun e hm hk1 => ?_)
      obtain ⟨j, ej⟩ := List.mem_iff_getElem?.mp hm
      obtain ⟨y, t', h1, h2⟩ := texts j e ej
      have hmem : ent w e ∈ arr := by
        refine Array.mem_toList_iff.mp ?_
        rw [he]
        exact List.mem_map_of_mem hm
      have z := Array.findIdx?_eq_none_iff.mp q (ent w e) hmem
      have ey : y = x := by
        rw [h1, kx] at hk1
        injection hk1
      have z2 : e.2.1.isStr x = false := z
      rw [h2, ey] at z2
      simp [Value.isStr] at z2
    | some i =>
      obtain ⟨li, hi1, _⟩ := Array.findIdx?_eq_some_iff_getElem.mp q
      have li2 : i < es.length := by
        rw [← ent_size he]
        exact li
      have ei : es[i]? = some es[i] := List.getElem?_eq_getElem li2
      obtain ⟨y, t', h1, h2⟩ := texts i _ ei
      have at1 : arr[i]? = some (ent w es[i]) := by
        rw [ent_at he, ei]
        rfl
      have g1 : arr[i] = ent w es[i] := by
        rw [Array.getElem?_eq_getElem li] at at1
        exact Option.some.inj at1
      have hk1 : es[i].1 = k := by
        rw [g1] at hi1
        have z2 : es[i].2.1.isStr x = true := hi1
        rw [h2] at z2
        rw [h1, kx]
        exact congrArg NestedKey.text (by simpa [Value.isStr] using z2)
      have isE := (his _ (List.mem_of_getElem? ei)).1
      dsimp only
      rw [at1]
      dsimp only
      refine wpAny_bind (wpAny_dictEpoch ho hd (wpAny_bind (ask (e := es[i]) hu isE hk kd (wpAny_bind (wpAny_dictEpoch ho hd ?_)))))
      rw [if_neg (show ¬ (ep != ep) = true by simp), decide_eq_true hk1]
      refine wpAny_bind (wpAny_rule ?_)
      exact wpAny_pure (yes i _ ei hk1)
  by_cases hv : (u :: (spots w arr k).filterMap (fun i => arr[i]?.map (·.key))).all carriedByValue = true
  · rcases shape with rfl | ⟨b, rfl⟩ | ⟨i, t, rfl⟩ | ⟨a, rfl⟩ | ⟨x, t, rfl⟩
    case inr.inr.inr.inr =>
      dsimp only
      by_cases hall : (arr.all fun e => isExactStrKey e.key) = true
      · rw [if_pos hall]
        exact quick x t rfl hall
      · rw [if_neg hall, if_pos hv]
        exact plain_walk hu hk kd ho hd he his nd no yes
    all_goals
      dsimp only
      rw [if_pos hv]
      exact plain_walk hu hk kd ho hd he his nd no yes
  · by_cases hone : ((spots w arr k).filterMap (fun i => arr[i]?.map (·.key)) == [u]) = true
    all_goals rcases shape with rfl | ⟨b, rfl⟩ | ⟨i, t, rfl⟩ | ⟨a, rfl⟩ | ⟨x, t, rfl⟩
    all_goals dsimp only
    case' pos.inr.inr.inr.inr | neg.inr.inr.inr.inr =>
      by_cases hall : (arr.all fun e => isExactStrKey e.key) = true
      · rw [if_pos hall]
        exact quick x t rfl hall
      rw [if_neg hall]
    all_goals rw [if_neg hv]
    case' pos.inr.inr.inr.inl | neg.inr.inr.inr.inl =>
      rw [if_neg (sameHash a rfl)]
    all_goals first | rw [if_pos hone] | rw [if_neg hone]
    all_goals first | refine wpAny_bind (wpAny_pure ?_) | refine wpAny_bind (no_tell hk kd kept ?_)
    all_goals rw [if_neg (by simp)]
    all_goals
      refine wpAny_bind (wpAny_forIn_list _ (fun left r s' => s' = s ∧ ∃ done, spots w arr k = done ++ left ∧ r = (none, hitIn es k done)) _ ?_ ?_ _ _ ⟨rfl, [], rfl, rfl⟩)
      · rintro i left r s' ⟨rfl, done, cut0, rfl⟩
        have hi : i ∈ spots w arr k := by
          rw [cut0]
          exact List.mem_append_right _ List.mem_cons_self
        obtain ⟨e, ei, eh⟩ := spots_is he hi
        have isE := (his e (List.mem_of_getElem? ei)).1
        have cut : spots w arr k = (done ++ [i]) ++ left := by
          rw [cut0, List.append_assoc]
          rfl
        rw [show arr[i]? = some (ent w e) by rw [ent_at he, ei] <;> rfl]
        dsimp only
        rw [if_pos (show ((ent w e).hash == k.hash w) = true from beq_iff_eq.mpr eh)]
        refine wpAny_bind (wpAny_dictEpoch ho hd (wpAny_bind (ask (e := e) hu isE hk kd (wpAny_bind (wpAny_dictEpoch ho hd ?_)))))
        rw [if_neg (show ¬ (ep != ep) = true by simp)]
        by_cases hh : e.1 = k
        · have first : hitIn es k done = none := by
            cases q : hitIn es k done with
            | none => rfl
            | some j =>
              obtain ⟨hj, f, ej, hf⟩ := hit_some q
              have same := uniq nd ei ej (hh.trans hf.symm)
              subst same
              have ndL : (spots w arr k).Nodup := spots_nd
              rw [cut0, List.nodup_append] at ndL
              exact absurd rfl (ndL.2.2 i hj i List.mem_cons_self)
          rw [first, decide_eq_true hh, if_pos rfl, if_neg (by decide)]
          refine wpAny_bind (wpAny_rule ?_)
          by_cases two : ((spots w arr k).filterMap (fun i => arr[i]?.map (·.key))).length < 2
          · rw [if_pos two]
            exact wpAny_pure (wpAny_pure (yes i e ei hh))
          · rw [if_neg two]
            refine wpAny_pure ⟨rfl, done ++ [i], cut, ?_⟩
            rw [hit_snoc ei, first, decide_eq_true hh]
            rfl
        · rw [decide_eq_false hh, if_neg Bool.false_ne_true]
          refine wpAny_bind (wpAny_rule ?_)
          rw [Bool.false_and, if_neg Bool.false_ne_true]
          refine wpAny_pure ⟨rfl, done ++ [i], cut, ?_⟩
          rw [hit_snoc ei, decide_eq_false hh, if_neg Bool.false_ne_true, Option.or_none]
      · rintro r s' ⟨rfl, done, cut0, rfl⟩
        have all := hit_end (w := w) (arr := arr) he no yes
        rw [cut0, List.append_nil] at all
        exact wpAny_pure all
end
end AK

set_option Elab.async false
set_option linter.all false
set_option maxRecDepth 100000
set_option maxHeartbeats 4000000
namespace AK
open PySem PySem.SeqAt PyProof.Rows
/-! ### the table that a dict is -/
section
variable {β γ : Type}
/-- what is stored at a key -/
def atK (es : List (NestedKey × β × γ)) (k : NestedKey) : Option γ := (es.find? fun e => decide (e.1 = k)).map (·.2.2)
/-- stored in its place, the key as it was; or at the end -/
def putE (es : List (NestedKey × β × γ)) (k : NestedKey) (u : β) (v : γ) : List (NestedKey × β × γ) :=
  if (atK es k).isSome = true then es.map (fun e => if e.1 = k then (e.1, e.2.1, v) else e) else es ++ [(k, u, v)]
theorem atK_nil {k : NestedKey} : atK ([] : List (NestedKey × β × γ)) k = none := rfl
theorem atK_pos {e : NestedKey × β × γ} {r : List (NestedKey × β × γ)} {k : NestedKey} (h : e.1 = k) : atK (e :: r) k = some e.2.2 := by simp [atK, List.find?_cons, h]
theorem atK_neg {e : NestedKey × β × γ} {r : List (NestedKey × β × γ)} {k : NestedKey} (h : ¬ e.1 = k) : atK (e :: r) k = atK r k := by simp [atK, List.find?_cons, h]
theorem atK_none : ∀ {es : List (NestedKey × β × γ)} {k : NestedKey}, atK es k = none ↔ ∀ e ∈ es, e.1 ≠ k
  | [], k => by simp [atK_nil]
  | e :: r, k => by
    by_cases h : e.1 = k
    · rw [atK_pos h]
      constructor
      · intro z
        cases z
      · intro z
        exact absurd h (z e List.mem_cons_self)
    · rw [atK_neg h, atK_none]
      constructor
      · intro z f hf
        rcases List.mem_cons.mp hf with rfl | hf
        · exact h
        · exact z f hf
      · exact fun z f hf => z f (List.mem_cons_of_mem _ hf)
theorem atK_get : ∀ {es : List (NestedKey × β × γ)} {k : NestedKey} {j : Nat} {e : NestedKey × β × γ}, (es.map (·.1)).Nodup → es[j]? = some e → e.1 = k → atK es k = some e.2.2
  | [], _, _, _, _, h, _ => by simp at h
  | f :: r, k, 0, e, _, h, hk => by
    obtain rfl : f = e := by simpa using h
    exact atK_pos hk
  | f :: r, k, j + 1, e, nd, h, hk => by
    have nd2 : f.1 ∉ r.map (·.1) ∧ (r.map (·.1)).Nodup := List.nodup_cons.mp (by simpa using nd)
    have h2 : r[j]? = some e := by simpa using h
    have hne : ¬ f.1 = k := fun z => nd2.1 (List.mem_map.mpr ⟨e, List.mem_of_getElem? h2, hk.trans z.symm⟩)
    rw [atK_neg hne]
    exact atK_get nd2.2 h2 hk
theorem putE_new {es : List (NestedKey × β × γ)} {k : NestedKey} {u : β} {v : γ} (h : atK es k = none) : putE es k u v = es ++ [(k, u, v)] := by
  unfold putE
  rw [h]
  exact if_neg (fun z => by cases z)
theorem putE_old {es : List (NestedKey × β × γ)} {k : NestedKey} {u : β} {v y : γ} (h : atK es k = some y) : putE es k u v = es.map (fun e => if e.1 = k then (e.1, e.2.1, v) else e) := by
  unfold putE
  rw [h]
  exact if_pos rfl
theorem repl_keys (es : List (NestedKey × β × γ)) (k : NestedKey) (v : γ) : (es.map (fun e => if e.1 = k then (e.1, e.2.1, v) else e)).map (·.1) = es.map (·.1) := by
  rw [List.map_map]
  refine List.map_congr_left fun e _ => ?_
  by_cases h : e.1 = k <;> simp [h]
theorem putE_nd {es : List (NestedKey × β × γ)} {k : NestedKey} {u : β} {v : γ} (nd : (es.map (·.1)).Nodup) : ((putE es k u v).map (·.1)).Nodup := by
  cases h : atK es k with
  | none =>
    rw [putE_new h, List.map_append, List.nodup_append]
    refine ⟨nd, by simp, fun x hx y hy => ?_⟩
    obtain rfl : y = k := by simpa using hy
    obtain ⟨e, he, rfl⟩ := List.mem_map.mp hx
    exact fun z => (atK_none.mp h e he) z
  | some y =>
    rw [putE_old h, repl_keys]
    exact nd
theorem putE_len (es : List (NestedKey × β × γ)) (k : NestedKey) (u : β) (v : γ) : (putE es k u v).length ≤ es.length + 1 := by
  cases h : atK es k with
  | none =>
    rw [putE_new h]
    simp
  | some y =>
    rw [putE_old h]
    simp
/-- which keys are there -/
theorem putE_mem {es : List (NestedKey × β × γ)} {k : NestedKey} {u : β} {v : γ} {e : NestedKey × β × γ} (h : e ∈ putE es k u v) : (∃ f ∈ es, f.1 = e.1 ∧ f.2.1 = e.2.1) ∨ (e.1 = k ∧ e.2.1 = u) := by
  cases q : atK es k with
  | none =>
    rw [putE_new q] at h
    rcases List.mem_append.mp h with h | h
    · exact .inl ⟨e, h, rfl, rfl⟩
    · obtain rfl : e = (k, u, v) := by simpa using h
      exact .inr ⟨rfl, rfl⟩
  | some y =>
    rw [putE_old q] at h
    obtain ⟨f, hf, rfl⟩ := List.mem_map.mp h
    refine .inl ⟨f, hf, ?_⟩
    by_cases z : f.1 = k <;> simp [z]
theorem atK_put {es : List (NestedKey × β × γ)} {k j : NestedKey} {u : β} {v : γ} : atK (putE es k u v) j = if j = k then some v else atK es j := by
  cases q : atK es k with
  | none =>
    rw [putE_new q]
    have snoc : ∀ l : List (NestedKey × β × γ), atK l k = none → atK (l ++ [(k, u, v)]) j = if j = k then some v else atK l j := by
      intro l
      induction l with
      | nil =>
        intro _
        by_cases e : k = j
        · rw [if_pos e.symm]
          exact atK_pos e
        · rw [if_neg (fun z => e z.symm)]
          exact atK_neg e
      | cons p r ih =>
        intro hn
        rw [List.cons_append]
        have hk : ¬ p.1 = k := fun z => by
          rw [atK_pos z] at hn
          cases hn
        rw [atK_neg hk] at hn
        by_cases e : p.1 = j
        · rw [atK_pos e, atK_pos e, if_neg (fun z => hk (e.trans z))]
        · rw [atK_neg e, atK_neg e, ih hn]
    exact snoc es q
  | some y =>
    rw [putE_old q]
    have repl : ∀ l : List (NestedKey × β × γ), atK (l.map (fun e => if e.1 = k then (e.1, e.2.1, v) else e)) j = (atK l j).map fun x => if j = k then v else x := by
      intro l
      induction l with
      | nil => rfl
      | cons p r ih =>
        rw [List.map_cons]
        by_cases h : p.1 = k
        · rw [if_pos h]
          by_cases e : p.1 = j
          · rw [atK_pos (e := (p.1, p.2.1, v)) e, atK_pos e, Option.map_some, if_pos (e.symm.trans h)]
          · rw [atK_neg (e := (p.1, p.2.1, v)) e, atK_neg e, ih]
        · rw [if_neg h]
          by_cases e : p.1 = j
          · rw [atK_pos e, atK_pos e, Option.map_some, if_neg (fun z => h (e.trans z))]
          · rw [atK_neg e, atK_neg e, ih]
    rw [repl]
    by_cases e : j = k
    · rw [if_pos e, e, q, Option.map_some, if_pos rfl]
    · rw [if_neg e]
      cases atK es j with
      | none => rfl
      | some x => rw [Option.map_some, if_neg e]
end
section
variable {prog : Program} {w : World} {A : Around} {E : Value → Shared → Prop} {s : Shared} {es : List En} {k : NestedKey} {u : Value} {d : Addr}
theorem DkOf.type (h : DkOf w s.heap d es) : s.TypeIs (.ref d) "dict" := by
  obtain ⟨⟨o, arr, ep, ho, hc, hd, he⟩, _, _⟩ := h
  exact ⟨o, ho, hc.1⟩
theorem dictGet_any {Q : Option Value → Shared → Prop} (hu : A.units + 8 < cLine) (hk : NestedIs s.heap k u) (kd : k.depth ≤ 8) (D : DkOf w s.heap d es) (h : Q (atK es k) { s with toks := s.toks + k.draws }) :
    wpAny (model prog w) A (dictGet d u) Q E s := by
  obtain ⟨⟨o, arr, ep, ho, hc, hd, he⟩, his, nd⟩ := D
  unfold dictGet
  try with_reducible refine wpAny_holding ?_
  refine wpAny_bind (pyHash_key k u A s _ hk (by omega) (wpAny_bind (find_any (s := { s with toks := s.toks + k.draws }) hu hk kd ho hd he his nd ?_ ?_)))
  · intro hno
    rw [atK_none.mpr hno] at h
    exact wpAny_pure h
  · intro j e hj hkj
    rw [atK_get nd hj hkj] at h
    refine wpAny_bind (wpAny_dictEntries (s := { s with toks := s.toks + k.draws }) ho hd ?_)
    rw [ent_at he, hj]
    exact wpAny_pure h
theorem nested_keep {h h' : Heap} {d : Addr} {o : Obj} {arr : Array DictEntry} {ep : Nat} (ho : h.get? d = some o) (hd : o.data = .dict arr ep) (sb : Heap.SameBut d h h') {k : NestedKey} {u : Value} (hk : NestedIs h k u) : NestedIs h' k u := by
  refine NestedIs.at (fun a o1 vs n e1 e2 => ?_) k u hk
  have ne : a ≠ d := by
    rintro rfl
    rw [ho] at e1
    cases e1
    rw [hd] at e2
    cases e2
  exact (sb.2 a ne).trans e1
theorem grown {arr : Array DictEntry} (he : arr.toList = es.map (ent w)) (hn : atK es k = none) (v : Value) : (arr.push ⟨k.hash w, u, v⟩).toList = (putE es k u v).map (ent w) := by
  rw [putE_new hn, Array.toList_push, he, List.map_append]
  rfl
theorem changed {arr : Array DictEntry} (he : arr.toList = es.map (ent w)) (nd : (es.map (·.1)).Nodup) {j : Nat} {e : En} (hj : es[j]? = some e) (hk : e.1 = k) (v : Value) :
    (arr.modify j fun x => { x with val := v }).toList = (putE es k u v).map (ent w) := by
  rw [putE_old (atK_get nd hj hk), Array.toList_modify, he]
  have gen : ∀ (l : List En) (i : Nat), (l.map (·.1)).Nodup → l[i]? = some e → (l.map (ent w)).modify i (fun x => { x with val := v }) = (l.map (fun e => if e.1 = k then (e.1, e.2.1, v) else e)).map (ent w) := by
    intro l
    induction l with
    | nil =>
      intro i _ h
      simp at h
    | cons f r ih =>
      intro i nd h
      have nd2 : f.1 ∉ r.map (·.1) ∧ (r.map (·.1)).Nodup := List.nodup_cons.mp (by simpa using nd)
      cases i with
      | zero =>
        obtain rfl : f = e := by simpa using h
        have rest : r.map (fun e => if e.1 = k then (e.1, e.2.1, v) else e) = r := by
          conv => rhs; rw [← List.map_id r]
          refine List.map_congr_left fun g hg => ?_
          rw [if_neg (fun z => nd2.1 (List.mem_map.mpr ⟨g, hg, z.trans hk.symm⟩))]
          rfl
        rw [List.map_cons, List.map_cons, List.map_cons, rest, if_pos hk]
        rfl
      | succ i =>
        have h2 : r[i]? = some e := by simpa using h
        have hne : ¬ f.1 = k := fun z => nd2.1 (List.mem_map.mpr ⟨e, List.mem_of_getElem? h2, hk.trans z.symm⟩)
        rw [List.map_cons, List.map_cons, List.map_cons, if_neg hne, List.modify_succ_cons, ih i nd2.2 h2]
  exact gen es j nd hj
theorem DkOf.put_is {h h' : Heap} {d : Addr} {o : Obj} {arr : Array DictEntry} {ep : Nat} (ho : h.get? d = some o) (hd : o.data = .dict arr ep) (sb : Heap.SameBut d h h') (hk : NestedIs h k u) (kd : k.depth ≤ 8)
    (his : ∀ e ∈ es, NestedIs h e.1 e.2.1 ∧ e.1.depth ≤ 8) (v : Value) : ∀ e ∈ putE es k u v, NestedIs h' e.1 e.2.1 ∧ e.1.depth ≤ 8 := fun e hm => by
  rcases putE_mem hm with ⟨f, hf, e1, e2⟩ | ⟨e1, e2⟩
  · rw [← e1, ← e2]
    exact ⟨nested_keep ho hd sb (his f hf).1, (his f hf).2⟩
  · rw [e1, e2]
    exact ⟨nested_keep ho hd sb hk, kd⟩
theorem dictSet_any {v : Value} {Q : Unit → Shared → Prop} (hu : A.units + 8 < cLine) (hk : NestedIs s.heap k u) (kd : k.depth ≤ 8) (D : DkOf w s.heap d es) (hsz : es.length ≤ sizeLine)
    (hQ : ∀ h', DkOf w h' d (putE es k u v) → Heap.SameBut d s.heap h' → Q () { s with heap := h', toks := s.toks + k.draws }) : wpAny (model prog w) A (dictSet d u v) Q E s := by
  obtain ⟨⟨o, arr, ep, ho, hc, hd, he⟩, his, nd⟩ := D
  unfold dictSet
  try with_reducible refine wpAny_holding ?_
  refine wpAny_bind (pyHash_key k u A s _ hk (by omega) ?_)
  unfold dictSetHashed
  try with_reducible refine wpAny_holding ?_
  refine wpAny_bind (find_any (s := { s with toks := s.toks + k.draws }) hu hk kd ho hd he his nd ?_ ?_)
  · intro hno
    refine wpAny_bind (wpAny_rule (wpAny_updateDictKeys (hz := by rw [ent_size he]; exact hsz) (s := { s with toks := s.toks + k.draws }) ho hd (hQ _ ⟨⟨_, _, ep + 1, Heap.get?_update_self _ ho (Obj.isFreed_of_dict (Obj.data_mapDictKeys hd _)),
      hc.mapDictKeys _, Obj.data_mapDictKeys hd _, ?_⟩, ?_, ?_⟩ (Heap.SameBut.update ..))))
    · exact grown he (atK_none.mpr hno) v
    · exact DkOf.put_is ho hd (Heap.SameBut.update ..) hk kd his v
    · exact putE_nd nd
  · intro j e hj hkj
    refine wpAny_bind (wpAny_rule (wpAny_bind (wpAny_updateDict (s := { s with toks := s.toks + k.draws }) ho hd (wpAny_point (hQ _ ⟨⟨_, _, ep, Heap.get?_update_self _ ho (Obj.isFreed_of_dict (Obj.data_mapDict hd _)),
      hc.mapDict _, Obj.data_mapDict hd _, ?_⟩, ?_, ?_⟩ (Heap.SameBut.update ..))))))
    · exact changed he nd hj hkj v
    · exact DkOf.put_is ho hd (Heap.SameBut.update ..) hk kd his v
    · exact putE_nd nd
theorem dictSetDefault_any {v : Value} {Q : Value → Shared → Prop} (hu : A.units + 8 < cLine) (hk : NestedIs s.heap k u) (kd : k.depth ≤ 8) (D : DkOf w s.heap d es) (hsz : es.length ≤ sizeLine)
    (h1 : ∀ y, atK es k = some y → Q y { s with toks := s.toks + k.draws })
    (h2 : atK es k = none → ∀ h', DkOf w h' d (putE es k u v) → Heap.SameBut d s.heap h' → Q v { s with heap := h', toks := s.toks + k.draws }) : wpAny (model prog w) A (dictSetDefault d u v) Q E s := by
  obtain ⟨⟨o, arr, ep, ho, hc, hd, he⟩, his, nd⟩ := D
  unfold dictSetDefault
  try with_reducible refine wpAny_holding ?_
  refine wpAny_bind (pyHash_key k u A s _ hk (by omega) ?_)
  refine wpAny_bind (find_any (s := { s with toks := s.toks + k.draws }) hu hk kd ho hd he his nd ?_ ?_)
  · intro hno
    refine wpAny_bind (wpAny_rule (wpAny_bind (wpAny_updateDictKeys (hz := by rw [ent_size he]; exact hsz) (s := { s with toks := s.toks + k.draws }) ho hd (wpAny_pure (h2 (atK_none.mpr hno) _ ⟨⟨_, _, ep + 1, Heap.get?_update_self _ ho (Obj.isFreed_of_dict (Obj.data_mapDictKeys hd _)),
      hc.mapDictKeys _, Obj.data_mapDictKeys hd _, ?_⟩, ?_, ?_⟩ (Heap.SameBut.update ..))))))
    · exact grown he (atK_none.mpr hno) v
    · exact DkOf.put_is ho hd (Heap.SameBut.update ..) hk kd his v
    · exact putE_nd nd
  · intro j e hj hkj
    refine wpAny_bind (wpAny_dictEntries (s := { s with toks := s.toks + k.draws }) ho hd ?_)
    rw [ent_at he, hj]
    exact wpAny_bind (wpAny_rule (wpAny_pure (h1 _ (atK_get nd hj hkj))))
end
end AK

set_option Elab.async false
set_option linter.all false
set_option maxRecDepth 100000
set_option maxHeartbeats 4000000
namespace AK
open PySem PySem.SeqAt PyProof.Rows
section
variable {prog : Program} {w : World} {A : Around} {E : Value → Shared → Prop} {s : Shared} {es : List En} {k : NestedKey} {u : Value} {d : Addr}
theorem u1 (hu : A.units + 9 < cLine) : A.in1.units + 8 < cLine := by
  simp only [Around.in1_units]
  omega
theorem contains_any {Q : Bool → Shared → Prop} (hu : A.units + 9 < cLine) (hk : NestedIs s.heap k u) (kd : k.depth ≤ 8) (hd : (d == sysModules) = false) (D : DkOf w s.heap d es) (h : Q (atK es k).isSome { s with toks := s.toks + k.draws }) :
    wpAny (model prog w) A (contains (.ref d) u) Q E s := by
  refine wpAny_contains_slot D.type PySem.F.slot_dict_contains ?_
  refine call_meetsIn PySem.F.slot_dict_contains D.type PySem.F.entry_dict_contains (PySem.F.args_dict_contains_2 _ _) (S := fun A' R s' => A' = A ∧ s' = s ∧ R (.ok (.ret (.bool (atK es k).isSome))) { s with toks := s.toks + k.draws }) (.of_wp fun A' R s' hS => ?_) ⟨rfl, rfl, wpAny_truthy_bool h⟩
  obtain ⟨rfl, rfl, hq⟩ := hS
  show wpAny _ _ (dictGet d u >>= _) _ _ _
  refine wpAny_bind (dictGet_any (u1 hu) hk kd D ?_)
  cases hf : atK es k with
  | some p =>
    rw [hf] at hq
    show wpAny _ _ (ret (.bool true)) _ _ _
    exact wpAny_pure ⟨_, rfl, hq⟩
  | none =>
    rw [hf] at hq
    show wpAny _ _ (Builtin.Dict.pendingKey? d u >>= _) _ _ _
    exact wpAny_bind (wpAny_pendingKey_other hd (wpAny_pure ⟨_, rfl, hq⟩))
theorem in_any {Q : Value → Shared → Prop} (hu : A.units + 9 < cLine) (hk : NestedIs s.heap k u) (kd : k.depth ≤ 8) (hd : (d == sysModules) = false) (D : DkOf w s.heap d es) (h : Q (.bool (atK es k).isSome) { s with toks := s.toks + k.draws }) :
    wpAny (model prog w) A (compareOp .In u (.ref d)) Q E s := by
  show wpAny _ _ (do return .bool (← contains (.ref d) u)) Q E s
  exact wpAny_bind (contains_any hu hk kd hd D (wpAny_pure h))
theorem notIn_any {Q : Value → Shared → Prop} (hu : A.units + 9 < cLine) (hk : NestedIs s.heap k u) (kd : k.depth ≤ 8) (hd : (d == sysModules) = false) (D : DkOf w s.heap d es) (h : Q (.bool (!(atK es k).isSome)) { s with toks := s.toks + k.draws }) :
    wpAny (model prog w) A (compareOp .NotIn u (.ref d)) Q E s := by
  show wpAny _ _ (do return .bool (!(← contains (.ref d) u))) Q E s
  exact wpAny_bind (contains_any hu hk kd hd D (wpAny_pure h))
theorem getItem_any {v : Value} {Q : Value → Shared → Prop} (hu : A.units + 9 < cLine) (hk : NestedIs s.heap k u) (kd : k.depth ≤ 8) (D : DkOf w s.heap d es) (hv : atK es k = some v) (h : Q v { s with toks := s.toks + k.draws }) :
    wpAny (model prog w) A (getItem (.ref d) u) Q E s := by
  unfold getItem
  try with_reducible refine wpAny_holding ?_
  refine wpAny_bind (wpAny_sequenceKey D.type (by decide) ?_)
  refine wpAny_bind (wpAny_callSpecial?_slot (name := Str.ofString "__getitem__") D.type PySem.F.slot_dict_getitem
    (wpAny_call_entry PySem.F.slot_dict_getitem D.type PySem.F.entry_dict_getitem ?_ (PySem.F.args_dict_getitem_2 _ _)))
  show wpAny _ _ (dictGet d u >>= _) _ _ s
  refine wpAny_bind (dictGet_any (u1 hu) hk kd D ?_)
  rw [hv]
  exact wpAny_pure ⟨v, rfl, wpAny_pure h⟩
theorem setItem_any {v : Value} {Q : Unit → Shared → Prop} (hu : A.units + 9 < cLine) (hk : NestedIs s.heap k u) (kd : k.depth ≤ 8) (D : DkOf w s.heap d es) (hsz : es.length ≤ sizeLine)
    (hQ : ∀ h', DkOf w h' d (putE es k u v) → Heap.SameBut d s.heap h' → Q () { s with heap := h', toks := s.toks + k.draws }) :
    wpAny (model prog w) A (setItem (.ref d) u v) Q E s := by
  unfold setItem
  try with_reducible refine wpAny_holding ?_
  refine wpAny_bind (wpAny_sequenceKey D.type (by decide) ?_)
  refine wpAny_bind (wpAny_callSpecial?_slot (name := Str.ofString "__setitem__") D.type PySem.F.slot_dict_setitem
    (wpAny_call_entry PySem.F.slot_dict_setitem D.type PySem.F.entry_dict_setitem ?_ (PySem.F.args_dict_setitem_3 _ _ _)))
  show wpAny _ _ (Builtin.Dict.notOrdered "__setitem__" ⟨[.ref d, u, v], []⟩ >>= _) _ _ s
  refine wpAny_bind (wpAny_notOrdered_dict D.type ?_)
  show wpAny _ _ (dictSet d u v >>= _) _ _ s
  exact wpAny_bind (dictSet_any (u1 hu) hk kd D hsz fun h' hm' hs' => wpAny_pure ⟨.none, rfl, wpAny_pure (hQ h' hm' hs')⟩)
/-- d.get(k), d.get(k, x) -/
theorem get1_any {Q : Value → Shared → Prop} (hu : A.units + 9 < cLine) (hk : NestedIs s.heap k u) (kd : k.depth ≤ 8) (hd : (d == sysModules) = false) (D : DkOf w s.heap d es) (h : Q ((atK es k).getD .none) { s with toks := s.toks + k.draws }) :
    wpAny (model prog w) A (call (.builtin "dict.get") [.ref d, u]) Q E s := by
  refine call_meetsIn PySem.F.slot_dict_get D.type PySem.F.entry_dict_get (PySem.F.args_dict_get_2 _ _) (S := fun A' R s' => A' = A ∧ s' = s ∧ R (.ok (.ret ((atK es k).getD .none))) { s with toks := s.toks + k.draws }) (.of_wp fun A' R s' hS => ?_) ⟨rfl, rfl, h⟩
  obtain ⟨rfl, rfl, hq⟩ := hS
  show wpAny _ _ (dictGet d u >>= _) _ _ _
  refine wpAny_bind (dictGet_any (u1 hu) hk kd D ?_)
  cases hf : atK es k with
  | some v =>
    rw [hf] at hq
    exact wpAny_pure ⟨v, rfl, hq⟩
  | none =>
    rw [hf] at hq
    show wpAny _ _ (Builtin.Dict.missed d u >>= _) _ _ _
    exact wpAny_bind (wpAny_missed_other hd (wpAny_pure ⟨.none, rfl, hq⟩))
theorem get2_any {x : Value} {Q : Value → Shared → Prop} (hu : A.units + 9 < cLine) (hk : NestedIs s.heap k u) (kd : k.depth ≤ 8) (hd : (d == sysModules) = false) (D : DkOf w s.heap d es) (h : Q ((atK es k).getD x) { s with toks := s.toks + k.draws }) :
    wpAny (model prog w) A (call (.builtin "dict.get") [.ref d, u, x]) Q E s := by
  refine call_meetsIn PySem.F.slot_dict_get D.type PySem.F.entry_dict_get (PySem.F.args_dict_get_3 _ _ _) (S := fun A' R s' => A' = A ∧ s' = s ∧ R (.ok (.ret ((atK es k).getD x))) { s with toks := s.toks + k.draws }) (.of_wp fun A' R s' hS => ?_) ⟨rfl, rfl, h⟩
  obtain ⟨rfl, rfl, hq⟩ := hS
  show wpAny _ _ (dictGet d u >>= _) _ _ _
  refine wpAny_bind (dictGet_any (u1 hu) hk kd D ?_)
  cases hf : atK es k with
  | some v =>
    rw [hf] at hq
    exact wpAny_pure ⟨v, rfl, hq⟩
  | none =>
    rw [hf] at hq
    show wpAny _ _ (Builtin.Dict.missed d u >>= _) _ _ _
    exact wpAny_bind (wpAny_missed_other hd (wpAny_pure ⟨x, rfl, hq⟩))
/-- d.setdefault(k, x) -/
theorem setdefault_any {x : Value} {Q : Value → Shared → Prop} (hu : A.units + 9 < cLine) (hk : NestedIs s.heap k u) (kd : k.depth ≤ 8) (hd : (d == sysModules) = false) (D : DkOf w s.heap d es) (hsz : es.length ≤ sizeLine)
    (h1 : ∀ y, atK es k = some y → Q y { s with toks := s.toks + k.draws })
    (h2 : atK es k = none → ∀ h', DkOf w h' d (putE es k u x) → Heap.SameBut d s.heap h' → Q x { s with heap := h', toks := s.toks + k.draws }) :
    wpAny (model prog w) A (call (.builtin "dict.setdefault") [.ref d, u, x]) Q E s := by
  refine call_meetsIn PySem.F.slot_dict_setdefault D.type PySem.F.entry_dict_setdefault (PySem.F.args_dict_setdefault_3 _ _ _) (S := fun A' R s' => A' = A ∧ s' = s ∧ (∀ y, atK es k = some y → R (.ok (.ret y)) { s with toks := s.toks + k.draws }) ∧
    (atK es k = none → ∀ h', DkOf w h' d (putE es k u x) → Heap.SameBut d s.heap h' → R (.ok (.ret x)) { s with heap := h', toks := s.toks + k.draws })) (.of_wp fun A' R s' hS => ?_) ⟨rfl, rfl, h1, h2⟩
  obtain ⟨rfl, rfl, g1, g2⟩ := hS
  unfold Builtin.«dict.setdefault»
  refine wpAny_bind ?_
  unfold Builtin.Dict.keyAndDefault
  refine wpAny_bind (wpAny_notOrdered_dict D.type ?_)
  show wpAny _ _ (pure (d, u, some x)) _ _ _
  refine wpAny_pure ?_
  show wpAny _ _ (if (d == sysModules) = true then _ else (dictSetDefault d u x >>= _)) _ _ _
  rw [if_neg (by rw [hd]; exact Bool.false_ne_true)]
  exact wpAny_bind (dictSetDefault_any (u1 hu) hk kd D hsz (fun v hv => wpAny_pure ⟨v, rfl, g1 v hv⟩) fun hn h' hm' hs' => wpAny_pure ⟨x, rfl, g2 hn h' hm' hs'⟩)
end
end AK

set_option Elab.async false
set_option linter.all false
set_option maxRecDepth 100000
set_option maxHeartbeats 4000000
namespace AK
open PySem PySem.Spec PyProof.Rows L2
/-! ### data as keys -/
mutual
def keyD : PyData → Option NestedKey
  | .none => some .none
  | .bool b => some (.num (if b = true then 1 else 0))
  | .int i => some (.num i)
  | .str x => some (.text x)
  | .tuple ds => (keyDs ds).map .tup
  | .list _ => none
  | .dict _ => none
def keyDs : List PyData → Option (List NestedKey)
  | [] => some []
  | d :: ds => match keyD d, keyDs ds with
    | some k, some ks => some (k :: ks)
    | _, _ => none
end
theorem keyDs_cons {d : PyData} {ds : List PyData} {ks : List NestedKey} (h : keyDs (d :: ds) = some ks) : ∃ k ks', keyD d = some k ∧ keyDs ds = some ks' ∧ ks = k :: ks' := by
  unfold keyDs at h
  cases h1 : keyD d with
  | none =>
    rw [h1] at h
    cases h
  | some k =>
    cases h2 : keyDs ds with
    | none =>
      rw [h1, h2] at h
      cases h
    | some ks' =>
      rw [h1, h2] at h
      cases h
      exact ⟨k, ks', rfl, rfl, rfl⟩
mutual
theorem eqv_key : ∀ (d e : PyData) (k j : NestedKey), keyD d = some k → keyD e = some j → PyData.eqv d e = NestedKey.beq k j
  | .none, e, k, j, h1, h2 => by
    cases h1
    cases e with
    | none => cases h2; rfl
    | bool b => cases h2; rfl
    | int i => cases h2; rfl
    | str x => cases h2; rfl
    | tuple ds =>
      obtain ⟨ks, _, rfl⟩ := Option.map_eq_some_iff.mp h2
      rfl
    | list _ => cases h2
    | dict _ => cases h2
  | .bool b, e, k, j, h1, h2 => by
    cases h1
    cases e with
    | none => cases h2; rfl
    | bool c => cases h2; cases b <;> cases c <;> rfl
    | int i =>
      cases h2
      cases b
      · show ((0 : Int) == i) = decide ((0 : Int) = i)
        by_cases z : (0 : Int) = i <;> simp [z]
      · show ((1 : Int) == i) = decide ((1 : Int) = i)
        by_cases z : (1 : Int) = i <;> simp [z]
    | str x => cases h2; rfl
    | tuple ds =>
      obtain ⟨ks, _, rfl⟩ := Option.map_eq_some_iff.mp h2
      rfl
    | list _ => cases h2
    | dict _ => cases h2
  | .int i, e, k, j, h1, h2 => by
    cases h1
    cases e with
    | none => cases h2; rfl
    | bool c =>
      cases h2
      cases c
      · show (i == (0 : Int)) = decide (i = (0 : Int))
        by_cases z : i = (0 : Int) <;> simp [z]
      · show (i == (1 : Int)) = decide (i = (1 : Int))
        by_cases z : i = (1 : Int) <;> simp [z]
    | int l =>
      cases h2
      show (i == l) = decide (i = l)
      by_cases z : i = l <;> simp [z]
    | str x => cases h2; rfl
    | tuple ds =>
      obtain ⟨ks, _, rfl⟩ := Option.map_eq_some_iff.mp h2
      rfl
    | list _ => cases h2
    | dict _ => cases h2
  | .str x, e, k, j, h1, h2 => by
    cases h1
    cases e with
    | none => cases h2; rfl
    | bool c => cases h2; rfl
    | int l => cases h2; rfl
    | str y =>
      cases h2
      show (x == y) = decide (x = y)
      by_cases z : x = y <;> simp [z]
    | tuple ds =>
      obtain ⟨ks, _, rfl⟩ := Option.map_eq_some_iff.mp h2
      rfl
    | list _ => cases h2
    | dict _ => cases h2
  | .tuple xs, e, k, j, h1, h2 => by
    obtain ⟨ks, hk, rfl⟩ := Option.map_eq_some_iff.mp h1
    cases e with
    | none => cases h2; rfl
    | bool c => cases h2; rfl
    | int l => cases h2; rfl
    | str y => cases h2; rfl
    | tuple ds =>
      obtain ⟨js, hj, rfl⟩ := Option.map_eq_some_iff.mp h2
      exact eqvAll_key xs ds ks js hk hj
    | list _ => cases h2
    | dict _ => cases h2
  | .list _, _, _, _, h1, _ => by cases h1
  | .dict _, _, _, _, h1, _ => by cases h1
theorem eqvAll_key : ∀ (d e : List PyData) (k j : List NestedKey), keyDs d = some k → keyDs e = some j → PyData.eqvAll d e = NestedKey.beqAll k j
  | [], [], _, _, h1, h2 => by
    cases h1
    cases h2
    rfl
  | [], e :: es, _, _, h1, h2 => by
    cases h1
    obtain ⟨j, js, _, _, rfl⟩ := keyDs_cons h2
    rfl
  | d :: ds, [], _, _, h1, h2 => by
    cases h2
    obtain ⟨j, js, _, _, rfl⟩ := keyDs_cons h1
    rfl
  | d :: ds, e :: es, _, _, h1, h2 => by
    obtain ⟨k, ks, a1, a2, rfl⟩ := keyDs_cons h1
    obtain ⟨j, js, b1, b2, rfl⟩ := keyDs_cons h2
    show (PyData.eqv d e && PyData.eqvAll ds es) = (NestedKey.beq k j && NestedKey.beqAll ks js)
    rw [eqv_key d e k j a1 b1, eqvAll_key ds es ks js a2 b2]
end
theorem eqv_dec {d e : PyData} {k j : NestedKey} (h1 : keyD d = some k) (h2 : keyD e = some j) : PyData.eqv d e = decide (k = j) := by
  rw [eqv_key d e k j h1 h2, NestedKey.decide_eq]
/-! ### the value of a key -/
def NK (K : PySem.W.Frag) (H : Hp) (k : NestedKey) (v : V) : Prop := ∃ d, Dp K H v d ∧ keyD d = some k
section
variable {X : Cx} {pins : List (Addr × Obj)} {σ : L2.St} {H H' : Hp} {s : Shared}
mutual
theorem nk_is (I : Inv X pins σ H s) : ∀ (d : PyData) (v : V) (u : Value) (k : NestedKey), Dp X.K H v d → keyD d = some k → RelV v u → NestedIs s.heap k u
  | .none, _, _, _, h, hk, r => by
    cases h
    cases r
    cases hk
    exact .none
  | .bool b, _, _, _, h, hk, r => by
    cases h
    cases r
    cases hk
    exact .bool rfl
  | .int i, _, _, _, h, hk, r => by
    cases h
    obtain ⟨t, rfl⟩ := r
    cases hk
    exact .int i t
  | .str x, _, _, _, h, hk, r => by
    cases h
    obtain ⟨t, rfl⟩ := r
    cases hk
    exact .text x t
  | .tuple ds, _, _, _, h, hk, r => by
    obtain ⟨ks, hks, rfl⟩ := Option.map_eq_some_iff.mp hk
    cases h with
    | tup hs ha =>
      cases r
      obtain ⟨its, rv, ⟨o, ho, hc, n, hd⟩, _⟩ := I.tuple hs
      exact .tup ho hc hd (by simpa using nks_are I ds _ its ks ha hks rv)
  | .list _, _, _, _, _, hk, _ => by cases hk
  | .dict _, _, _, _, _, hk, _ => by cases hk
theorem nks_are (I : Inv X pins σ H s) : ∀ (ds : List PyData) (vs : List V) (us : List Value) (ks : List NestedKey), DpAll X.K H vs ds → keyDs ds = some ks → Vals vs us → NestedAll s.heap ks us
  | [], _, _, _, h, hk, r => by
    cases h
    cases r
    cases hk
    exact .nil
  | d :: ds, _, _, _, h, hk, r => by
    obtain ⟨k, ks, a1, a2, rfl⟩ := keyDs_cons hk
    cases h with
    | cons h1 h2 =>
      cases r with
      | cons r1 r2 => exact .cons (nk_is I d _ _ k h1 a1 r1) (nks_are I ds _ _ ks h2 a2 r2)
end
theorem NK.is {k : NestedKey} {v : V} {u : Value} (n : NK X.K H k v) (I : Inv X pins σ H s) (r : RelV v u) : NestedIs s.heap k u := by
  obtain ⟨d, h1, h2⟩ := n
  exact nk_is I d v u k h1 h2 r
end
/-! ### what stays -/
/-- the tuples stay -/
def Tups (H H' : Hp) : Prop := ∀ a xs, Rd H a (.tup xs) → Rd H' a (.tup xs)
theorem Tups.rfl' {H : Hp} : Tups H H := fun _ _ h => h
theorem Tups.trans {H H1 H2 : Hp} (a : Tups H H1) (b : Tups H1 H2) : Tups H H2 := fun c xs h => b c xs (a c xs h)
theorem Tups.upd {H : Hp} {a : Addr} {o : HO} (n : ∀ xs, ¬ Rd H a (.tup xs)) : Tups H (upd H a o) := fun c xs h => by
  have ne : c ≠ a := by
    rintro rfl
    exact n xs h
  unfold Rd
  rw [upd_ne ne]
  exact h
theorem Tups.new {H : Hp} {a : Addr} {o : HO} (n : H a = none) : Tups H (L2.upd H a o) := Tups.upd fun xs h => by
  unfold Rd at h
  rw [n] at h
  rcases h with h | ⟨_, h⟩ <;> cases h
theorem SqT.tups {K : PySem.W.Frag} {H H' : Hp} {a : Addr} {xs : List V} (t : Tups H H') (h : SqT K H a xs) : SqT K H' a xs := h.elim (fun h => .inl (t _ _ h)) .inr
mutual
theorem dp_tups {K : PySem.W.Frag} {H H' : Hp} (t : Tups H H') : ∀ (d : PyData) (v : V) (k : NestedKey), keyD d = some k → Dp K H v d → Dp K H' v d
  | .none, _, _, _, h => by cases h; exact .non
  | .bool b, _, _, _, h => by cases h; exact .bl b
  | .int i, _, _, _, h => by cases h; exact .int i
  | .str x, _, _, _, h => by cases h; exact .str x
  | .tuple ds, _, _, hk, h => by
    obtain ⟨ks, hks, _⟩ := Option.map_eq_some_iff.mp hk
    cases h with
    | tup hs ha => exact .tup (SqT.tups t hs) (dps_tups t ds _ ks hks ha)
  | .list _, _, _, hk, _ => by cases hk
  | .dict _, _, _, hk, _ => by cases hk
theorem dps_tups {K : PySem.W.Frag} {H H' : Hp} (t : Tups H H') : ∀ (ds : List PyData) (vs : List V) (ks : List NestedKey), keyDs ds = some ks → DpAll K H vs ds → DpAll K H' vs ds
  | [], _, _, _, h => by cases h; exact .nil
  | d :: ds, _, _, hk, h => by
    obtain ⟨k, ks, a1, a2, _⟩ := keyDs_cons hk
    cases h with
    | cons h1 h2 => exact .cons (dp_tups t d _ k a1 h1) (dps_tups t ds _ ks a2 h2)
end
theorem NK.tups {K : PySem.W.Frag} {H H' : Hp} {k : NestedKey} {v : V} (t : Tups H H') (n : NK K H k v) : NK K H' k v := by
  obtain ⟨d, h1, h2⟩ := n
  exact ⟨d, dp_tups t d v k h2 h1, h2⟩
/-! ### the dict as it is tracked -/
abbrev Eh := NestedKey × V × V
def DkRaw (w : World) (d : Addr) (es : List Eh) (h : Heap) : Prop := (d == sysModules) = false ∧ es.length ≤ sizeLine ∧ ∃ o arr ep, ∃ us : List En, h.get? d = some o ∧ o.ExactDict ∧ o.data = .dict arr ep ∧ arr.toList = us.map (ent w) ∧ Paired (fun (p : Eh) (q : En) => p.1 = q.1 ∧ RelV p.2.1 q.2.1 ∧ RelV p.2.2 q.2.2) es us
def DkO (w : World) (d : Addr) (es : List Eh) : HO := .ext (DkRaw w d es)
/-- at d: the dict es, its keys known -/
structure DA (K : PySem.W.Frag) (w : World) (H : Hp) (d : Addr) (es : List Eh) : Prop where
  at_ : Rd H d (DkO w d es)
  nk : ∀ e ∈ es, NK K H e.1 e.2.1 ∧ e.1.depth ≤ 8
  nd : (es.map (·.1)).Nodup
theorem pr_atK {es : List Eh} {us : List En} (r : Paired (fun (p : Eh) (q : En) => p.1 = q.1 ∧ RelV p.2.1 q.2.1 ∧ RelV p.2.2 q.2.2) es us) (k : NestedKey) : RelO (atK es k) (atK us k) := by
  induction r with
  | nil => exact True.intro
  | @cons p q ps qs h t ih =>
    obtain ⟨h1, _, h2⟩ := h
    by_cases e : p.1 = k
    · rw [atK_pos e, atK_pos (h1.symm.trans e)]
      exact h2
    · rw [atK_neg e, atK_neg (fun z => e (h1.trans z))]
      exact ih
theorem pr_keys {es : List Eh} {us : List En} (r : Paired (fun (p : Eh) (q : En) => p.1 = q.1 ∧ RelV p.2.1 q.2.1 ∧ RelV p.2.2 q.2.2) es us) : es.map (·.1) = us.map (·.1) := by
  induction r with
  | nil => rfl
  | cons h t ih => rw [List.map_cons, List.map_cons, ih, h.1]
theorem pr_put {es : List Eh} {us : List En} (r : Paired (fun (p : Eh) (q : En) => p.1 = q.1 ∧ RelV p.2.1 q.2.1 ∧ RelV p.2.2 q.2.2) es us) (k : NestedKey) {v x : V} {u z : Value} (rv : RelV v u) (rx : RelV x z) :
    Paired (fun (p : Eh) (q : En) => p.1 = q.1 ∧ RelV p.2.1 q.2.1 ∧ RelV p.2.2 q.2.2) (putE es k v x) (putE us k u z) := by
  have ro := pr_atK r k
  cases h : atK es k with
  | none =>
    rw [h] at ro
    have h' : atK us k = none := by
      cases q : atK us k with
      | none => rfl
      | some y =>
        rw [q] at ro
        exact (show False from ro).elim
    rw [putE_new h, putE_new h']
    exact Paired.snoc r ⟨rfl, rv, rx⟩
  | some y =>
    rw [h] at ro
    have h' : ∃ y', atK us k = some y' := by
      cases q : atK us k with
      | none =>
        rw [q] at ro
        exact (show False from ro).elim
      | some y' => exact ⟨y', rfl⟩
    obtain ⟨y', h'⟩ := h'
    rw [putE_old h, putE_old h']
    clear h h' ro
    induction r with
    | nil => exact .nil
    | @cons p q ps qs hpq t ih =>
      rw [List.map_cons, List.map_cons]
      refine .cons ?_ ih
      obtain ⟨h1, h2, h3⟩ := hpq
      by_cases e : p.1 = k
      · rw [if_pos e, if_pos (h1.symm.trans e)]
        exact ⟨h1, h2, rx⟩
      · rw [if_neg e, if_neg (fun z => e (h1.trans z))]
        exact ⟨h1, h2, h3⟩
section
variable {X : Cx} {pins : List (Addr × Obj)} {σ : L2.St} {H H' : Hp} {s : Shared} {d : Addr} {es : List Eh}
/-- what stands in the heap -/
theorem DA.raw (D : DA X.K X.w H d es) (I : Inv X pins σ H s) : (d == sysModules) = false ∧ es.length ≤ sizeLine ∧ ∃ us : List En, DkOf X.w s.heap d us ∧ Paired (fun (p : Eh) (q : En) => p.1 = q.1 ∧ RelV p.2.1 q.2.1 ∧ RelV p.2.2 q.2.2) es us := by
  obtain ⟨⟨hd, hz, o, arr, ep, us, ho, hc, hdat, he, r⟩, _, _⟩ := (show ObjOk X.prog X.w H s.heap d (DkO X.w d es) from D.at_.ok I.hok)
  refine ⟨hd, hz, us, ⟨⟨o, arr, ep, ho, hc, hdat, he⟩, ?_, by rw [← pr_keys r]; exact D.nd⟩, r⟩
  have all : ∀ {l : List Eh} {m : List En}, Paired (fun (p : Eh) (q : En) => p.1 = q.1 ∧ RelV p.2.1 q.2.1 ∧ RelV p.2.2 q.2.2) l m → (∀ e ∈ l, NK X.K H e.1 e.2.1 ∧ e.1.depth ≤ 8) → ∀ e ∈ m, NestedIs s.heap e.1 e.2.1 ∧ e.1.depth ≤ 8 := by
    intro l m q
    induction q with
    | nil => intro _ e he; exact nomatch he
    | @cons p q ps qs hq t ih =>
      intro hl e he
      rcases List.mem_cons.mp he with rfl | he
      · obtain ⟨a, b⟩ := hl p List.mem_cons_self
        rw [← hq.1]
        exact ⟨a.is I hq.2.1, b⟩
      · exact ih (fun e he => hl e (List.mem_cons_of_mem _ he)) e he
  exact all r D.nk
theorem dk_obj {P : Program} {w : World} {H : Hp} {h : Heap} {us : List En} (hd : (d == sysModules) = false) (hz : es.length ≤ sizeLine) (D : DkOf w h d us) (r : Paired (fun (p : Eh) (q : En) => p.1 = q.1 ∧ RelV p.2.1 q.2.1 ∧ RelV p.2.2 q.2.2) es us) :
    ObjOk P w H h d (DkO w d es) := by
  obtain ⟨⟨o, arr, ep, ho, hc, hdat, he⟩, _, _⟩ := D
  refine ⟨⟨hd, hz, o, arr, ep, us, ho, hc, hdat, he, r⟩, ⟨o, ho⟩, fun h1 h2 z st => ?_⟩
  obtain ⟨hd, hz, o, arr, ep, us, ho, rest⟩ := z
  exact ⟨hd, hz, o, arr, ep, us, st _ ho, rest⟩
theorem DA.keep (D : DA X.K X.w H d es) (t : Tups H H') (e : Rd H' d (DkO X.w d es)) : DA X.K X.w H' d es := ⟨e, fun x hx => ⟨(D.nk x hx).1.tups t, (D.nk x hx).2⟩, D.nd⟩
theorem dk_ntup {w : World} {H : Hp} {d : Addr} {es : List Eh} (e : H d = some (DkO w d es)) : ∀ xs, ¬ Rd H d (.tup xs) := fun xs h => by
  unfold Rd at h
  rw [e] at h
  rcases h with h | ⟨_, h⟩
  · exact nomatch (show DkO w d es = HO.tup xs from Option.some.inj h)
  · exact nomatch (show DkO w d es = HO.frz _ _ from Option.some.inj h)
/-- stored -/
theorem DA.put (D : DA X.K X.w H d es) (e : H d = some (DkO X.w d es)) {k : NestedKey} {v x : V} (n : NK X.K H k v) (kd : k.depth ≤ 8) : DA X.K X.w (upd H d (DkO X.w d (putE es k v x))) d (putE es k v x) := by
  have t : Tups H (upd H d (DkO X.w d (putE es k v x))) := Tups.upd (dk_ntup e)
  refine ⟨.inl upd_same, fun f hf => ?_, putE_nd D.nd⟩
  rcases putE_mem hf with ⟨g, hg, e1, e2⟩ | ⟨e1, e2⟩
  · rw [← e1, ← e2]
    exact ⟨(D.nk g hg).1.tups t, (D.nk g hg).2⟩
  · rw [e1, e2]
    exact ⟨n.tups t, kd⟩
theorem da_new {p : Addr} {w : World} {K : PySem.W.Frag} : DA K w (upd H p (DkO w p [])) p [] := ⟨.inl upd_same, (fun _ h => nomatch h), List.nodup_nil⟩
end
/-! ### the rules -/
section
variable {X : Cx} {pos : Pos}
def tDNewA (w : World) : TE := fun _ H Q => ∀ p, H p = none → Q (.ref p) (upd H p (DkO w p []))
theorem pe_dnewA : PE X (.Dict [] [] pos) (tDNewA X.w) := ⟨fun pins s σ H Q I h =>
  wpAny_Dict_empty ⟨.ref s.heap.objs.size, _, I.laid (a := s.heap.objs.size) (o := DkO X.w s.heap.objs.size []) (t' := s.toks) (fun _ _ q => Heap.get?_push_of_some _ q) (Nat.le_refl _) (by
    have e : (s.heap.push { cls := .type "dict", data := .dict #[] }).get? s.heap.objs.size = some { cls := .type "dict", data := .dict #[] } := Heap.get?_push_size _ rfl
    obtain ⟨_, hd, _⟩ := dk_empty (P := X.prog) (w := X.w) (H := H) s.heap I.big
    exact dk_obj (us := []) hd (Nat.zero_le _) ⟨⟨_, _, _, e, ⟨rfl, rfl, rfl⟩, rfl, rfl⟩, (fun _ h => nomatch h), List.nodup_nil⟩ .nil), rfl, h _ (I.hok.fresh (Nat.le_refl _))⟩⟩
def rInA (K : PySem.W.Frag) (w : World) : R2 := fun x y H Q => ∃ d es k, y = .ref d ∧ DA K w H d es ∧ NK K H k x ∧ k.depth ≤ 8 ∧ Q (.bl (atK es k).isSome) H
def rNotInA (K : PySem.W.Frag) (w : World) : R2 := fun x y H Q => ∃ d es k, y = .ref d ∧ DA K w H d es ∧ NK K H k x ∧ k.depth ≤ 8 ∧ Q (.bl (!(atK es k).isSome)) H
theorem op_inA (hu : X.A.units + 64 < cLine) : OpR X (compareOp .In) (rInA X.K X.w) := by
  intro pins s σ H x y v u Q I rx ry h
  obtain ⟨d, es, k, rfl, D, n, kd, q⟩ := h
  cases ry
  obtain ⟨hd, hz, us, R, r⟩ := D.raw I
  refine in_any (by omega) (n.is I rx) kd hd R ⟨.bl _, H, I.tok _, rfl, ?_⟩
  rw [← (pr_atK r k).isSome_eq]
  exact q
theorem op_notInA (hu : X.A.units + 64 < cLine) : OpR X (compareOp .NotIn) (rNotInA X.K X.w) := by
  intro pins s σ H x y v u Q I rx ry h
  obtain ⟨d, es, k, rfl, D, n, kd, q⟩ := h
  cases ry
  obtain ⟨hd, hz, us, R, r⟩ := D.raw I
  refine notIn_any (by omega) (n.is I rx) kd hd R ⟨.bl _, H, I.tok _, rfl, ?_⟩
  rw [← (pr_atK r k).isSome_eq]
  exact q
theorem relO_some {o : Option V} {u : Option Value} {v : V} (r : RelO o u) (h : o = some v) : ∃ z, u = some z ∧ RelV v z := by
  subst h
  cases u with
  | none => exact (show False from r).elim
  | some z => exact ⟨z, rfl, r⟩
def rIxA (K : PySem.W.Frag) (w : World) : R2 := fun x y H Q => ∃ d es k v, x = .ref d ∧ DA K w H d es ∧ NK K H k y ∧ k.depth ≤ 8 ∧ atK es k = some v ∧ Q v H
theorem ix_dictA (hu : X.A.units + 64 < cLine) : IxR X (rIxA X.K X.w) := by
  intro value slice pins s σ H x y v u Q I rx ry h hs
  obtain ⟨d, es, k, z, rfl, D, n, kd, hv, q⟩ := h
  cases rx
  obtain ⟨hd, hz, us, R, r⟩ := D.raw I
  obtain ⟨z', h1, h2⟩ := relO_some (pr_atK r k) hv
  refine subscriptTail_builtinR (x := z') R.type PySem.F.slot_dict_getitem.lookup ?_ hs
  exact getItem_any (by omega) (n.is I ry) kd R h1 ⟨rfl, z, H, I.tok _, h2, q⟩
def rSetA (K : PySem.W.Frag) (w : World) : TSet := fun o i v H Q => ∃ d es k, o = .ref d ∧ H d = some (DkO w d es) ∧ DA K w H d es ∧ NK K H k i ∧ k.depth ≤ 8 ∧ es.length < sizeLine ∧ Q (upd H d (DkO w d (putE es k i v)))
theorem dk_put {pins : List (Addr × Obj)} {σ : L2.St} {H : Hp} {s : Shared} {d : Addr} {es : List Eh} {us : List En} {k : NestedKey} {i v : V} {iv u : Value} {h' : Heap} {t : Nat} (I : Inv X pins σ H s) (e : H d = some (DkO X.w d es)) (hd : (d == sysModules) = false)
    (r : Paired (fun (p : Eh) (q : En) => p.1 = q.1 ∧ RelV p.2.1 q.2.1 ∧ RelV p.2.2 q.2.2) es us) (ri : RelV i iv) (rv : RelV v u) (hl : es.length < sizeLine) (hm : DkOf X.w h' d (putE us k iv u)) (hs : Heap.SameBut d s.heap h') :
    Inv X pins σ (upd H d (DkO X.w d (putE es k i v))) { s with heap := h', toks := t } := by
  have he : ∃ q, h'.get? d = some q := by
    obtain ⟨⟨o, _, _, ho, _⟩, _⟩ := hm
    exact ⟨o, ho⟩
  have hz : (putE es k i v).length ≤ sizeLine := by
    have := putE_len es k i v
    omega
  exact d_write I (by rw [e]; exact True.intro) hs he (dk_obj hd hz hm (pr_put r k ri rv))
theorem set_dictA (hu : X.A.units + 64 < cLine) : PSet X (rSetA X.K X.w) := by
  intro pins s σ H o i v ov iv u Q I ro ri rv h
  obtain ⟨d, es, k, rfl, e, D, n, kd, hl, q⟩ := h
  cases ro
  obtain ⟨hd, hz, us, R, r⟩ := D.raw I
  have hz2 : us.length ≤ sizeLine := by
    rw [← Paired.length r]
    exact hz
  exact setItem_any (by omega) (n.is I ri) kd R hz2 fun h' hm hs => ⟨_, dk_put I e hd r ri rv hl hm hs, q⟩
end
end AK

set_option Elab.async false
set_option linter.all false
set_option maxRecDepth 100000
set_option maxHeartbeats 4000000
namespace AK
open PySem PySem.Spec PyProof.Rows L2
section
variable {X : Cx}
/-- d.m(e, ..), d a dict of this kind -/
def isDA (w : World) (x : V) (H : Hp) : Prop := ∃ d es, x = .ref d ∧ Rd H d (DkO w d es)
theorem isDA_is {pins : List (Addr × Obj)} {σ : L2.St} {H : Hp} {s : Shared} {x : V} {v : PySem.Value} (I : L2.Inv X pins σ H s) (r : RelV x v) (ty : isDA X.w x H) :
    s.TypeIs v "dict" ∧ ∀ a, v = .ref a → ∃ ob, s.heap.get? a = some ob ∧ ob.dict = none := by
  obtain ⟨d, es, rfl, e⟩ := ty
  cases r
  obtain ⟨⟨_, _, o, arr, ep, us, ho, hc, _⟩, _, _⟩ := (show ObjOk X.prog X.w H s.heap d (DkO X.w d es) from e.ok I.hok)
  refine ⟨⟨o, ho, hc.1⟩, fun a z => ?_⟩
  cases z
  exact ⟨o, ho, hc.2.1⟩
def tBMA (w : World) (r : V → List V → Hp → VK → Prop) (to : TE) (t : TA) : TE := fun σ H Q => to σ H fun x H1 => isDA w x H1 ∧ t σ H1 fun xs H2 => r x xs H2 Q
variable {o e : PySem.Expr} {es : List PySem.Expr} {to : TE} {t : TA} {name : Str} {apos cpos : Pos} {id : String} {r : V → List V → Hp → VK → Prop}
theorem pe_bmA (slot : Slot "dict" name id) (hty : typeOf (.builtin id) = pure (.type "method_descriptor")) (hm : MtR X id r) (ho : PE X o to) (ha : PA X (e :: es) t)
    (hbase : attributeBase o name X.env (eval o X.env) = eval o X.env := by rfl)
    (hfew : ((backTo cpos (starEach (e :: es) X.env)).all (fun x => !x.1) && (backToKw cpos (keywordEach [] X.env)).all (fun x => x.1.isSome)
      && decide ((e :: es).length + ([] : List Keyword).length + (if ([] : List Keyword).isEmpty then 0 else 1) < 30)) = true := by rfl)
    (hline : (apos.endLine == cpos.line) = true := by rfl) (hs : starEach (e :: es) X.env = (false, eval e X.env) :: starEach es X.env := by rfl) (hplain : (backTo cpos (starEach es X.env)).any (·.1) = false := by rfl) :
    PE X (.Call (.Attribute o name apos) (e :: es) [] cpos) (tBMA X.w r to t) := by
  refine ⟨fun pins s σ H Q I h => ?_⟩
  refine wpAny_Call_method_late hbase hfew hline rfl (thn (ho.run pins s σ H _ I h) fun v s1 ⟨x, H1, I1, r1, ty, q1⟩ => ?_)
  obtain ⟨h1, h2⟩ := isDA_is I1 r1 ty
  refine ⟨"dict", id, PySem.F.plainAttrs_dict, slot, hty, h1, h2, ?_⟩
  have hA := ha.run cpos pins s1 σ H1 _ I1 q1
  rw [hs] at hA ⊢
  refine Calls.callWith_builtin (by show (false || (backTo cpos (starEach es X.env)).any (·.1)) = false; rw [hplain] <;> rfl) (Calls.evalArgs_plain ?_)
  exact thn hA fun us s2 ⟨vs, H2, I2, r2, q2⟩ => hm pins s2 σ H2 x vs v us Q I2 r1 r2 q2
def rGetA1 (K : PySem.W.Frag) (w : World) : V → List V → Hp → VK → Prop := fun x xs H Q => ∃ d es k y, x = .ref d ∧ xs = [y] ∧ DA K w H d es ∧ NK K H k y ∧ k.depth ≤ 8 ∧ Q ((atK es k).getD .non) H
def rGetA2 (K : PySem.W.Frag) (w : World) : V → List V → Hp → VK → Prop := fun x xs H Q => ∃ d es k y z, x = .ref d ∧ xs = [y, z] ∧ DA K w H d es ∧ NK K H k y ∧ k.depth ≤ 8 ∧ Q ((atK es k).getD z) H
def rSdA (K : PySem.W.Frag) (w : World) : V → List V → Hp → VK → Prop := fun x xs H Q => ∃ d es k y z, x = .ref d ∧ xs = [y, z] ∧ H d = some (DkO w d es) ∧ DA K w H d es ∧ NK K H k y ∧ k.depth ≤ 8 ∧ es.length < sizeLine ∧
  (∀ v, atK es k = some v → Q v H) ∧ (atK es k = none → Q z (upd H d (DkO w d (putE es k y z))))
theorem mt_getA1 (hu : X.A.units + 64 < cLine) : MtR X "dict.get" (rGetA1 X.K X.w) := by
  intro pins s σ H x xs v us Q I rx rs h
  obtain ⟨d, es, k, y, rfl, rfl, D, n, kd, q⟩ := h
  cases rx
  obtain ⟨u, rfl, ry⟩ := vals1 rs
  obtain ⟨hd, hz, us, R, r⟩ := D.raw I
  exact get1_any (by omega) (n.is I ry) kd hd R ⟨_, H, I.tok _, RelO.getD (d := V.non) (d' := PySem.Value.none) (pr_atK r k) rfl, q⟩
theorem mt_getA2 (hu : X.A.units + 64 < cLine) : MtR X "dict.get" (rGetA2 X.K X.w) := by
  intro pins s σ H x xs v us Q I rx rs h
  obtain ⟨d, es, k, y, z, rfl, rfl, D, n, kd, q⟩ := h
  cases rx
  obtain ⟨u, u2, rfl, ry, rz⟩ := vals2 rs
  obtain ⟨hd, hz, us, R, r⟩ := D.raw I
  exact get2_any (by omega) (n.is I ry) kd hd R ⟨_, H, I.tok _, RelO.getD (pr_atK r k) rz, q⟩
theorem mt_sdA (hu : X.A.units + 64 < cLine) : MtR X "dict.setdefault" (rSdA X.K X.w) := by
  intro pins s σ H x xs v us Q I rx rs h
  obtain ⟨d, es, k, y, z, rfl, rfl, e, D, n, kd, hl, q1, q2⟩ := h
  cases rx
  obtain ⟨u, u2, rfl, ry, rz⟩ := vals2 rs
  obtain ⟨hd, hz, us, R, r⟩ := D.raw I
  have hz2 : us.length ≤ sizeLine := by
    rw [← Paired.length r]
    exact hz
  have ro := pr_atK r k
  refine setdefault_any (by omega) (n.is I ry) kd hd R hz2 (fun v' hv => ?_) (fun hn h' hm hs => ?_)
  · rw [hv] at ro
    cases qv : atK es k with
    | none =>
      rw [qv] at ro
      exact (show False from ro).elim
    | some v =>
      rw [qv] at ro
      exact ⟨v, H, I.tok _, ro, q1 v qv⟩
  · rw [hn] at ro
    cases qv : atK es k with
    | none => exact ⟨z, _, dk_put I e hd r ry rz hl hm hs, rz, q2 qv⟩
    | some v =>
      rw [qv] at ro
      exact (show False from ro).elim
end
end AK

set_option Elab.async false
set_option linter.all false
set_option maxRecDepth 100000
set_option maxHeartbeats 4000000
namespace AK
open PySem PySem.Spec PyProof.Rows L2
/-- a comprehension's store into such a dict -/
theorem comp_put {X : Cx} {pins : List (Addr × Obj)} {σ : L2.St} {H : Hp} {s : Shared} {E : PySem.Value → Shared → Prop} {d : Addr} {es : List Eh} {k : NestedKey} {y z : V} {u r : PySem.Value} {Q : Unit → Shared → Prop} (hu : X.A.units + 64 < cLine) (I : L2.Inv X pins σ H s)
    (e : H d = some (DkO X.w d es)) (D : DA X.K X.w H d es) (n : NK X.K H k y) (kd : k.depth ≤ 8) (hl : es.length < sizeLine) (ry : RelV y u) (rz : RelV z r) (h : ∀ s', L2.Inv X pins σ (upd H d (DkO X.w d (putE es k y z))) s' → Q () s') :
    wpAny (model X.prog X.w) X.A (dictSet d u r) Q E s := by
  obtain ⟨hd, hz, us, R, rel⟩ := D.raw I
  have hz2 : us.length ≤ sizeLine := by
    rw [← Paired.length rel]
    exact hz
  exact dictSet_any (by omega) (n.is I ry) kd R hz2 fun h' hm hs => h _ (dk_put I e hd rel ry rz hl hm hs)
/-- how far a comprehension has come: the turns that are left, the heap's view -/
def tDcA (K : PySem.W.Frag) (w : World) (wi : TI) (g : TG) (tk tv : TE) (vs : List Nat) : TE := fun σ H Q => wi σ H fun J H1 => ∀ d, H1 d = none → ∃ Left : Nat → Nat → Hp → Prop, (∃ m, Left 0 m (upd H1 d (DkO w d []))) ∧ ∀ i m H, Left i m H →
  (J.stop i H ∧ Q (.ref d) H) ∨ (J.go i H ∧ ∃ Next : Hp → Prop, (∀ H', Next H' → ∃ m', m' < m ∧ Left (i + 1) m' H') ∧ ∀ x H', J.yld i H x H' → g x (wipe σ vs) H' fun σ2 H2 => wipe σ2 vs = wipe σ vs ∧
    tk σ2 H2 fun y H4 => tv σ2 H4 fun z H5 => ∃ es k, H5 d = some (DkO w d es) ∧ DA K w H5 d es ∧ NK K H5 k y ∧ k.depth ≤ 8 ∧ es.length < sizeLine ∧ Next (upd H5 d (DkO w d (putE es k y z))))
/-- the new dict, tracked -/
theorem fresh_dict {X : Cx} {pins : List (Addr × Obj)} {σ : L2.St} {H : Hp} {s : Shared} (I : L2.Inv X pins σ H s) :
    L2.Inv X pins σ (upd H s.heap.objs.size (DkO X.w s.heap.objs.size [])) { s with heap := s.heap.push { cls := .type "dict", data := .dict #[] } } := by
  refine I.laid (t' := s.toks) (fun _ _ q => Heap.get?_push_of_some _ q) (Nat.le_refl _) ?_
  have e : (s.heap.push { cls := .type "dict", data := .dict #[] }).get? s.heap.objs.size = some { cls := .type "dict", data := .dict #[] } := Heap.get?_push_size _ rfl
  obtain ⟨_, hd, _⟩ := dk_empty (P := X.prog) (w := X.w) (H := H) s.heap I.big
  exact dk_obj (us := []) hd (Nat.zero_le _) ⟨⟨_, _, _, e, ⟨rfl, rfl, rfl⟩, rfl, rfl⟩, (fun _ h => nomatch h), List.nodup_nil⟩ .nil
theorem pe_dcA {X : Cx} {kx vx tg it : PySem.Expr} {scope : Scope} {own : List (Str × Nat)} {pos : Pos} {wi : TI} {g : TG} {tk tv : TE} (hu : X.A.units + 64 < cLine) (calm : X.calm = true) (nd : X.N.Nodup) (walk : PI X tg it wi) (blk : BlkOk X.N X.env.scope scope own)
    (target : ∀ (s : Shared) (H : Hp) (C : Addr) (cl : List (Str × Addr)) (fp : List Addr), PG (X.blk s H scope (compEnvC scope cl C X.env) fp) tg g)
    (key : ∀ (s : Shared) (H : Hp) (C : Addr) (cl : List (Str × Addr)) (fp : List Addr), PE (X.blk s H scope (compEnvC scope cl C X.env) fp) kx tk)
    (val : ∀ (s : Shared) (H : Hp) (C : Addr) (cl : List (Str × Addr)) (fp : List Addr), PE (X.blk s H scope (compEnvC scope cl C X.env) fp) vx tv) (plain : ∀ x, foldedSetIterable it X.env x = pure x := by intro _; rfl) :
    PE X (.DictComp kx vx [⟨tg, it, [], 0⟩] scope pos) (tDcA X.K X.w wi g tk tv (own.map (·.2))) := by
  refine ⟨fun pins s0 σ H0 Q I0 start => ?_⟩
  rw [arm_eval_DictComp]
  have caught : ∀ y ∈ scope.names, y.2 = .free → ∃ c, X.env.cells.lookup y.1 = some c := fun y hy e => (blk.free y hy e).elim (fun k => I0.ok.has _ (.inl k)) fun k => I0.ok.has _ (.inr k)
  refine wpAny_comprehension_free (use := _) rfl plain (closure_ok caught) blk.kind (fun y hy e => by rw [blk.uniq y hy, e]) (thn (walk.run pins s0 σ H0 _ I0 start) fun _ sa ha => thn ha fun _ sb hb => ?_)
  obtain ⟨itA, feet, place, J, Hb, rfl, Ib, T, at0, apart, more⟩ := hb
  refine wpAny_newObj_type (newEnv_comp ?_)
  obtain ⟨Left, ⟨mFirst, first⟩, each⟩ := more sb.heap.objs.size (Ib.hok.fresh (Nat.le_refl _))
  have Ic := fresh_dict Ib
  have small : ∀ b ∈ feet, b < sb.heap.objs.size := fun b hb => let ⟨_, e, _⟩ := T.obj _ _ at0 b hb; Heap.lt_size e
  have apart2 : ∀ b ∈ feet, FpOk X pins (upd Hb sb.heap.objs.size (DkO X.w sb.heap.objs.size [])) b ∧ b < (sb.heap.push { cls := .type "dict", data := .dict #[] }).objs.size := fun b hb => by
    refine ⟨⟨?_, (apart b hb).2⟩, ?_⟩
    · rw [upd_ne (Nat.ne_of_lt (small b hb))]
      exact (apart b hb).1
    · rw [Heap.size_push]
      exact Nat.lt_succ_of_lt (small b hb)
  have at1 : place 0 (sb.heap.push { cls := .type "dict", data := .dict #[] }) := T.keep _ _ _ at0 fun b _ o e => Heap.get?_push_of_some _ e
  -- the block's own frame
  generalize eC : ({ sb with heap := sb.heap.push { cls := .type "dict", data := .dict #[] } } : Shared) = sc at Ic
  have hC : sb.heap.push { cls := .type "dict", data := .dict #[] } = sc.heap := by rw [← eC]
  rw [hC] at apart2 at1
  generalize sb.heap.objs.size = d at Ic apart2 first each ⊢
  generalize eH : upd Hb d (DkO X.w d []) = HC at Ic apart2 first
  have Id := block_start Ic blk nd apart2
  have ptg := target sc HC sc.heap.objs.size (cellsFrom (sc.heap.objs.size + 1) scope.names (cloFrom X.env.cells scope.names [])) feet
  have pky := key sc HC sc.heap.objs.size (cellsFrom (sc.heap.objs.size + 1) scope.names (cloFrom X.env.cells scope.names [])) feet
  have pvl := val sc HC sc.heap.objs.size (cellsFrom (sc.heap.objs.size + 1) scope.names (cloFrom X.env.cells scope.names [])) feet
  show codeAny _ _ (.compStart (.DictComp kx vx [⟨tg, it, [], 0⟩] scope pos) 0 (.ref itA) (.ref d) (compEnvC scope (cellsFrom (sc.heap.objs.size + 1) scope.names (cloFrom X.env.cells scope.names [])) sc.heap.objs.size X.env)) (compPost (model X.prog X.w) X.A X.xe none (EP X pins σ Q) (.ref d) sc.heap.objs.size) { sc with heap := pushCells (sc.heap.push { cls := .type "dict", data := .dict #[] }) scope.names }
  generalize eEnv : compEnvC scope (cellsFrom (sc.heap.objs.size + 1) scope.names (cloFrom X.env.cells scope.names [])) sc.heap.objs.size X.env = env at Id ptg pky pvl ⊢
  have eLoc : env.locals = sc.heap.objs.size := by rw [← eEnv] <;> rfl
  generalize eD : ({ sc with heap := pushCells (sc.heap.push { cls := .type "dict", data := .dict #[] }) scope.names } : Shared) = sd at Id ⊢
  have at2 : place 0 sd.heap := by
    rw [← eD]
    exact T.keep _ _ _ at1 fun b _ o e => pushCells_keeps _ _ _ _ (Heap.get?_push_of_some _ e)
  -- the walk's own objects stay apart
  have keptApart : ∀ {σ' : L2.St} {H' : Hp} {s' : Shared}, L2.Inv (X.blk sc HC scope env feet) [] σ' H' s' → (∀ b ∈ feet, H' b = none) → ∀ b ∈ feet, FpOk (X.blk sc HC scope env feet) [] H' b := fun I' no b hb => by
    obtain ⟨x1, x2⟩ := I'.ok.exf b hb
    exact ⟨no b hb, x1, I'.ok.exfs b hb, .inl hb, fun x c e => x2 x c e, fun p hp => by simp at hp⟩
  have turns : codeAny (model X.prog X.w) X.A (.compLoop (.DictComp kx vx [⟨tg, it, [], 0⟩] scope pos) 0 (.ref itA) (.ref d) env) (compPost (model X.prog X.w) X.A X.xe none (EP X pins σ Q) (.ref d) sc.heap.objs.size) sd := by
    refine compLoop_anyD (fun n s' => ∃ i H', L2.Inv (X.blk sc HC scope env feet) [] (wipe σ (own.map (·.2))) H' s' ∧ place i s'.heap ∧ (∀ b ∈ feet, H' b = none) ∧ Left i n H') ?_ mFirst ⟨0, HC, Id, at2, (fun b hb => (apart2 b hb).1.1), first⟩
    rintro n s1 ⟨i, H1, I1, p1, no1, left⟩
    rcases each i n H1 left with ⟨halt, here⟩ | ⟨goes, Next, down, turn⟩
    · refine thnF (T.done (X.blk sc HC scope env feet) rfl rfl rfl calm i [] s1 _ H1 (fun _ _ => False) I1 (keptApart I1 no1) p1 halt) fun r s2 z => ?_
      obtain ⟨rfl, I2⟩ := z
      have back : L2.Inv X pins σ H1 s2 := Ic.call' (ch := feet) I2.os I2.base I2.hok I2.bare fun b hb => by
        obtain ⟨⟨_, y1, _, y2, y3, y4⟩, _⟩ := apart2 b hb
        exact ⟨y2, y1, y3, y4⟩
      have nLoc : H1 sc.heap.objs.size = none := by
        rw [← eLoc]
        exact I2.free
      obtain ⟨m, hm, _⟩ := I2.loc
      have hm2 : s2.heap.Ns sc.heap.objs.size m := by
        rw [← eLoc]
        exact hm
      refine ⟨m, hm2, fun h'' sb2 => ?_⟩
      obtain ⟨y0, y1, y2, y3, y4, y5⟩ := Ic.fpOk (Nat.le_refl _) nLoc
      exact ⟨.ref d, H1, back.turned (t' := s2.toks) (fun b o hb e => (sb2.2 b hb).trans e) y0 y1 y3 y4 y5, rfl, here⟩
    · refine thnF (T.item (X.blk sc HC scope env feet) rfl rfl rfl calm i [] s1 _ H1 (fun _ _ => False) I1 (keptApart I1 no1) p1 goes) fun r s2 z => ?_
      obtain ⟨u, rfl, got⟩ := z
      refine thnF got fun _ s3 z => ?_
      obtain ⟨x, H3, I3, rx, yl, p3, no3⟩ := z
      have I3p := I3.pinned (keptApart I3 no3) (T.obj _ _ p3)
      refine thnF (ptg.run _ s3 _ H3 x u _ I3p rx (turn x H3 yl)) fun _ s4 z => ?_
      obtain ⟨σ4, H4, I4, same, q4⟩ := z
      refine wpAny_pure ?_
      rw [if_pos rfl]
      refine thnF (pky.run _ s4 σ4 H4 _ I4 q4) fun kv s5 z => ?_
      obtain ⟨y, H5, I5, ry, q5⟩ := z
      refine thnF (pvl.run _ s5 σ4 H5 _ I5 q5) fun vv s6 z => ?_
      obtain ⟨zv, H6, I6, rz, es, k, e6, D6, n6, kd, few, next⟩ := z
      refine comp_put (X := X.blk sc HC scope env feet) hu I6 e6 D6 n6 kd few ry rz fun s7 I7 => ?_
      obtain ⟨m', lower, left'⟩ := down _ next
      have pinned : ∀ b ∈ feet, ∀ o, s3.heap.get? b = some o → s7.heap.get? b = some o ∧ (upd H6 d (DkO X.w d (putE es k y zv))) b = none := fun b hb o e => by
        have z := I7.pin (b, o) (List.mem_append_right _ (List.mem_append_right _ (mem_pinsAt hb e)))
        exact ⟨z.1, z.2.1⟩
      have len : (wipe σ (own.map (·.2))).length = σ4.length := by rw [← same, wipe_length]
      refine ⟨m', lower, i + 1, _, (I7.unpinned (pins := [])).weak len (fun j v e => ?_), T.keep _ _ _ p3 fun b hb o e => (pinned b hb o e).1, (fun b hb => ?_), left'⟩
      · rw [← same] at e
        exact (wipe_some e).1
      · obtain ⟨o, e, _⟩ := T.obj _ _ p3 b hb
        exact (pinned b hb o e).2
  exact codeAny_compStart_dict turns (T.self X.A 0 _ _ _ at2 turns)
end AK

set_option Elab.async false
set_option linter.all false
set_option maxRecDepth 100000
set_option maxHeartbeats 4000000
namespace AK
open PySem PySem.Spec PyProof.Rows L2
/-! ### enumerate of a tuple -/
theorem new_enum {v : PySem.Value} {o : Obj} {Hb : Heap → Prop} (B : Begins v o Hb) :
    Meets (Builtin.«enumerate.__new__» ⟨[.type "enumerate", v], []⟩) (fun _ R s => Hb s.heap ∧
      R (.ok (.ret (.ref (s.heap.push o).objs.size))) { s with heap := (s.heap.push o).push { cls := .type "enumerate", data := .fields #[.none, .bool false, .ref s.heap.objs.size, rawInt 0, .none, .none] } }) :=
  .of_wp fun prog w A R s both => by
    obtain ⟨hp, gs, dr, tk, os⟩ := s
    obtain ⟨there, ends⟩ := both
    have sub1 := sub_enumerate
    have begun : ∀ {A' : Around} {E : PySem.Value → Shared → Prop} {Q : PySem.Value → Shared → Prop}, Q (.ref hp.objs.size) ⟨hp.push o, gs, dr, tk, os⟩ → wpAny (model prog w) A' (pyIter v) Q E ⟨hp, gs, dr, tk, os⟩ :=
      fun z => B.iter prog w _ _ ⟨hp, gs, dr, tk, os⟩ _ there z
    wp_walk using begun
    refine wpAny_stack_any fun st => wpAny_pure ?_
    split
    · rename_i c _ _ _ _ _
      by_cases ec : (c == PySem.Value.type "enumerate") = true
      · rw [ec]
        wp_walk using begun
        exact ⟨_, rfl, ends⟩
      · rw [Bool.eq_false_iff.mpr ec]
        wp_walk using begun
        exact ⟨_, rfl, ends⟩
    · wp_walk using begun
      exact ⟨_, rfl, ends⟩
theorem call_enum {prog : Program} {w : World} {A : Around} {E : PySem.Value → Shared → Prop} {s : Shared} {v : PySem.Value} {o : Obj} {Hb : Heap → Prop} {Q : PySem.Value → Shared → Prop} (B : Begins v o Hb) (there : Hb s.heap)
    (ends : ∀ h', IsEnum h' (s.heap.objs.size + 1) s.heap.objs.size 0 .none → h'.get? s.heap.objs.size = some o → (∀ b o, s.heap.get? b = some o → h'.get? b = some o) → Q (.ref (s.heap.objs.size + 1)) { s with heap := h' }) :
    wpAny (model prog w) A (call (.type "enumerate") [v]) Q E s := by
  refine callType_new PySem.F.called_enumerate (by decide) (PySem.F.typeCall_enumerate_1 _) (PySem.F.newCall_enumerate_1 _) (fun obj => PySem.F.args_object_init_2 obj _) PySem.F.entry_enumerate_new (new_enum B) ⟨there, ?_⟩
  have size1 : (s.heap.push o).objs.size = s.heap.objs.size + 1 := Heap.size_push ..
  have made : IsEnum ((s.heap.push o).push { cls := .type "enumerate", data := .fields #[.none, .bool false, .ref s.heap.objs.size, rawInt 0, .none, .none] }) (s.heap.objs.size + 1) s.heap.objs.size 0 .none := by
    have z := Heap.get?_push_size (s.heap.push o) (o := { cls := .type "enumerate", data := .fields #[.none, .bool false, .ref s.heap.objs.size, rawInt 0, .none, .none] }) rfl
    rw [size1] at z
    exact z
  show _ ∧ _
  rw [size1]
  exact ⟨⟨_, made, rfl⟩, ends _ made (Heap.get?_push_of_some _ (Heap.get?_push_size _ B.free)) fun b o x => Heap.get?_push_of_some _ (Heap.get?_push_of_some _ x)⟩
/-- each turn: a new pair of the place and the item -/
def IteT (K : PySem.W.Frag) (a : Addr) : It :=
  ⟨fun i H => ∃ (xs : List V) (x : V), SqT K H a xs ∧ xs[i]? = some x, fun i H v H' => ∃ T x, v = .ref T ∧ H T = none ∧ H' = upd H T (.tup [.int (i : Nat), x]) ∧ ∀ xs, SqT K H a xs → xs[i]? = some x, fun i H => ∃ xs : List V, SqT K H a xs ∧ xs.length = i⟩
theorem turn_enumT {P : Program} {w : World} {K : PySem.W.Frag} {elts : List PySem.Expr} {kk : Nat} {tpos : Pos} (a e it : Addr) :
    Turn P w K (.Tuple elts kk tpos) (IteT K a) [e, it] e (fun i h => (∃ old, IsEnum h e it ((i : Nat) : Int) old) ∧ h.IsTupleIter it a i ∧ e ≠ it) where
  mem := by simp
  obj := fun i h st b hb => by
    obtain ⟨⟨old, is⟩, ⟨o, there, _, data⟩, _⟩ := st
    rcases List.mem_cons.mp hb with rfl | hb
    · exact ⟨_, is, fun v q => nomatch q⟩
    · obtain rfl := List.mem_singleton.mp hb
      exact ⟨o, there, fun v q => by rw [data] at q; cases q⟩
  keep := fun i h h' st k => by
    obtain ⟨⟨old, is⟩, iter, ne⟩ := st
    exact ⟨⟨old, k e (by simp) _ is⟩, iter.at (fun o q => k it (by simp) o q), ne⟩
  item := by
    intro X hP hw hK calm i pins s σ H E I apart st more
    subst hP hw hK
    obtain ⟨⟨old, is⟩, iter, ne⟩ := st
    obtain ⟨xs, x, sq, at_⟩ := more
    obtain ⟨its, rel, tup, _⟩ := I.tuple sq
    obtain ⟨u, hu, ru⟩ := rel.get at_
    have few : i < its.toArray.size := by
      rw [List.size_toArray]
      exact (List.getElem?_eq_some_iff.mp hu).1
    have ea : e < s.heap.objs.size := Heap.lt_size is
    have ia : it < s.heap.objs.size := by
      obtain ⟨_, q, _⟩ := iter
      exact Heap.lt_size q
    have apart1 : a ≠ it := by
      rintro rfl
      obtain ⟨o1, g1, c1, _⟩ := tup
      obtain ⟨o2, g2, c2, _⟩ := iter
      rw [g1] at g2
      cases g2
      rw [c1] at c2
      exact absurd c2 (by decide)
    have apart2 : e ∉ [it, a] := fun z => by
      rcases List.mem_cons.mp z with z | z
      · exact ne z
      · obtain rfl := List.mem_singleton.mp z
        obtain ⟨o1, g1, c1, _⟩ := tup
        have g2 : s.heap.get? e = _ := is
        rw [g1] at g2
        cases g2
        exact absurd c1 (by show ¬ (PySem.Value.type "enumerate" = PySem.Value.type "tuple"); decide)
    refine wpAny_pyNext_enum_itemD (Draws.tuple (A := X.A.in1) (I.ok.hd calm) it a apart1 its.toArray) is ⟨iter, tup⟩ few ne apart2 fun y h' tk hy out st' hT size keep => ?_
    obtain rfl : y = u := by
      have z : its.toArray[i]? = some u := by simpa using hu
      exact Option.some.inj (hy.symm.trans z)
    refine ⟨_, rfl, wpAny_letOwnedTupleGo_enum (s := { s with heap := h', toks := tk + 1 }) out fun h'' is' sb => ?_⟩
    have hT2 : h''.get? s.heap.objs.size = some { cls := .type "tuple", data := .seq #[.int i tk, y] } := (sb.2 _ (Nat.ne_of_gt ea)).trans hT
    have new : ObjOk X.prog X.w (upd H s.heap.objs.size (.tup [.int (i : Nat), x])) h'' s.heap.objs.size (.tup [.int (i : Nat), x]) :=
      ⟨by show 2 ≤ sizeLine; decide, [.int i tk, y], .cons ⟨_, rfl⟩ (.cons ru .nil), ⟨_, hT2, rfl, _, rfl⟩⟩
    have I1 : L2.Inv X pins σ (upd H s.heap.objs.size (.tup [.int (i : Nat), x])) { s with heap := h'', toks := tk + 1 } :=
      I.turnedNew (ch := [e, it]) (fun b ob hb q => (sb.2 b (fun z => hb (by simp [z]))).trans (keep b ob (fun z => hb (by simp [z])) (fun z => hb (by simp [z])) q)) apart (Nat.le_refl _) new
    refine ⟨.ref s.heap.objs.size, _, I1, rfl, ⟨_, x, rfl, I.hok.fresh (Nat.le_refl _), rfl, fun ys hy => by rw [I.tuple_inj hy sq]; exact at_⟩, ⟨⟨y, ?_⟩, st'.1.at (fun o q => (sb.2 it (Ne.symm ne)).trans q), ne⟩, fun b hb => ?_⟩
    · have e1 : ((i + 1 : Nat) : Int) = (i : Int) + 1 := by omega
      rw [e1]
      exact is'
    · have hb' : b < s.heap.objs.size := by
        rcases List.mem_cons.mp hb with rfl | hb
        · exact ea
        · rw [List.mem_singleton.mp hb]
          exact ia
      rw [upd_ne (Nat.ne_of_lt hb')]
      exact (apart b hb).1
  done := by
    intro X hP hw hK calm i pins s σ H E I apart st more
    subst hP hw hK
    obtain ⟨⟨old, is⟩, iter, ne⟩ := st
    obtain ⟨xs, sq, rfl⟩ := more
    obtain ⟨its, rel, tup, _⟩ := I.tuple sq
    obtain ⟨y0, y1, y2, y3, y4, y5⟩ := apart it (by simp)
    have apart1 : a ≠ it := by
      rintro rfl
      obtain ⟨o1, g1, c1, _⟩ := tup
      obtain ⟨o2, g2, c2, _⟩ := iter
      rw [g1] at g2
      cases g2
      rw [c1] at c2
      exact absurd c2 (by decide)
    have size1 : xs.length = its.toArray.size := by
      rw [List.size_toArray]
      exact rel.length
    rw [size1] at is iter
    exact wpAny_pyNext_enum_endD (Draws.tuple (A := X.A.in1) (I.ok.hd calm) it a apart1 its.toArray) is ⟨iter, tup⟩ fun h' eb => ⟨rfl, I.turned (t' := s.toks) (fun b o hb q => eb b o hb q) y0 y1 y3 y4 y5⟩
  self := fun A i s Q E st h => let ⟨⟨_, is⟩, _⟩ := st; wpAny_pyIter_enum is h
def iEnumT (K : PySem.W.Frag) (ta : TA) : TI := fun σ H R => ta σ H fun vs H1 => ∃ a xs, vs = [.ref a] ∧ SqT K H1 a xs ∧ R (IteT K a) H1
theorem pi_enumT {X : Cx} {e : PySem.Expr} {ta : TA} {p pos tpos : Pos} {elts : List PySem.Expr} {kk : Nat} (hg : Gl X "enumerate") (hm : X.mg "enumerate" = none) (ha : PA X [e] ta) (hs : starEach [e] X.env = [(false, eval e X.env)] := by rfl) :
    PI X (.Tuple elts kk tpos) (.Call (.Name "enumerate" p) [e] [] pos) (iEnumT X.K ta) := by
  refine ⟨fun pins s σ H R I h => ?_⟩
  refine Call_ (ld_blt I hg hm boot_enumerate (PyProof.Rows.callWith_type1 (thn (ha.run pos pins s σ H _ I h) fun us s1 ⟨vs, H1, I1, r1, a, xs, ex, sq, q⟩ => ?_) hs rfl))
  subst ex
  obtain ⟨u, rfl, ru⟩ := vals1 r1
  cases ru
  obtain ⟨its, rel, tup, _⟩ := I1.tuple sq
  refine call_enum (begins_tuple a its.toArray) tup fun h' is iter keep => wpAny_pyIter_enum is ?_
  have I2 : L2.Inv X pins σ H1 { s1 with heap := h' } := I1.kept (t' := s1.toks) keep
  refine ⟨s1.heap.objs.size + 1, [s1.heap.objs.size + 1, s1.heap.objs.size], _, _, H1, rfl, I2, turn_enumT a (s1.heap.objs.size + 1) s1.heap.objs.size, ⟨⟨.none, is⟩, ⟨_, iter, rfl, rfl⟩, Nat.succ_ne_self _⟩, fun b hb => ?_, q⟩
  have le : s1.heap.objs.size ≤ b := by
    rcases List.mem_cons.mp hb with rfl | hb
    · exact Nat.le_succ _
    · rw [List.mem_singleton.mp hb]
      exact Nat.le_refl _
  exact I1.fpOk le (I1.hok.fresh le)
theorem walk_enumT {K : PySem.W.Frag} {a : Addr} {xs : List V} : Walk (IteT K a) xs.length (fun H => SqT K H a xs) (YPair (fun i => some (.int (i : Nat))) (fun i => xs[i]?)) := by
  refine ⟨fun i _ hi q => ⟨xs, xs[i], q, List.getElem?_eq_getElem hi⟩, fun _ q => ⟨xs, q, rfl⟩, ?_⟩
  rintro i H v H' _ q ⟨T, x, h1, h2, h3, h4⟩
  exact ⟨T, .int (i : Nat), x, h1, h2, h3, rfl, h4 xs q⟩
/-- a comprehension that makes such a dict, by its turns -/
theorem dcA_it {J : It} {n : Nat} {G : Hp → Prop} {Y : Nat → Hp → V → Hp → Prop} (wk : Walk J n G Y) {K : PySem.W.Frag} {w : World} {g : TG} {tk tv : TE} {vs : List Nat} {σ : L2.St} {H1 : Hp} {d : Addr} {Qd : Hp → Prop} (Pv : Nat → Hp → Prop) (h0 : Pv 0 (upd H1 d (DkO w d []))) (hG : ∀ i H, i ≤ n → Pv i H → G H)
    (hs : ∀ i x H H', i < n → Pv i H → Y i H x H' → g x (wipe σ vs) H' fun σ2 H2 => wipe σ2 vs = wipe σ vs ∧
      tk σ2 H2 fun y H4 => tv σ2 H4 fun z H5 => ∃ es k, H5 d = some (DkO w d es) ∧ DA K w H5 d es ∧ NK K H5 k y ∧ k.depth ≤ 8 ∧ es.length < sizeLine ∧ Pv (i + 1) (upd H5 d (DkO w d (putE es k y z)))) (hd : ∀ H, Pv n H → Qd H) :
    ∃ Left : Nat → Nat → Hp → Prop, (∃ m, Left 0 m (upd H1 d (DkO w d []))) ∧ ∀ i m H, Left i m H →
      (J.stop i H ∧ Qd H) ∨ (J.go i H ∧ ∃ Next : Hp → Prop, (∀ H', Next H' → ∃ m', m' < m ∧ Left (i + 1) m' H') ∧ ∀ x H', J.yld i H x H' → g x (wipe σ vs) H' fun σ2 H2 => wipe σ2 vs = wipe σ vs ∧
        tk σ2 H2 fun y H4 => tv σ2 H4 fun z H5 => ∃ es k, H5 d = some (DkO w d es) ∧ DA K w H5 d es ∧ NK K H5 k y ∧ k.depth ≤ 8 ∧ es.length < sizeLine ∧ Next (upd H5 d (DkO w d (putE es k y z)))) := by
  refine ⟨fun i m H => m = n - i ∧ i ≤ n ∧ Pv i H, ⟨n, by omega, Nat.zero_le _, h0⟩, ?_⟩
  rintro i m H ⟨rfl, le, p⟩
  have here := hG i H le p
  rcases Nat.lt_or_ge i n with lt | ge
  · exact .inr ⟨wk.goes i H lt here, Pv (i + 1), fun H' p' => ⟨n - (i + 1), by omega, rfl, lt, p'⟩, fun x H' y => hs i x H H' lt p (wk.yields i H x H' lt here y)⟩
  · obtain rfl : i = n := by omega
    exact .inl ⟨wk.stops H here, hd H p⟩
end AK

set_option Elab.async false
set_option linter.all false
set_option maxRecDepth 100000
set_option maxHeartbeats 4000000
namespace AK
open PySem PySem.Spec PyProof.Rows L2
/-! ### a comprehension of such a dict with two `for`, no `if` -/
section
variable {prog : Program} {w : World} {A : Around} {R : Result → Shared → Prop} {s : Shared} {kx vx ta ia tb ib : PySem.Expr} {scope : Scope} {pos : Pos} {it : PySem.Value} {d : Addr} {env : Env}
theorem turn_first : compTurn (.DictComp kx vx [⟨ta, ia, [], 0⟩, ⟨tb, ib, [], 0⟩] scope pos) 0 it (.ref d) env = (do
      standAt ia.pos
      match ← pyNext it with
      | none => pure (.done .next)
      | some got =>
        letOwnedTupleGo ta it got
        assign ta env got
        let mut good := true
        for q in ([] : List PySem.Expr) do
          if good then good ← isTrue q env (eval q env)
        if good then
          let src ← eval ib env
          standAt ib.pos
          let src ← foldedSetIterable ib env src
          let _ ← runOwn (.compStart (.DictComp kx vx [⟨ta, ia, [], 0⟩, ⟨tb, ib, [], 0⟩] scope pos) 1 (← holding [src] (pyIter src)) (.ref d) env) env
        again (.compLoop (.DictComp kx vx [⟨ta, ia, [], 0⟩, ⟨tb, ib, [], 0⟩] scope pos) 0 it (.ref d) env)) := by rfl
theorem turn_second : compTurn (.DictComp kx vx [⟨ta, ia, [], 0⟩, ⟨tb, ib, [], 0⟩] scope pos) 1 it (.ref d) env = (do
      standAt ib.pos
      match ← pyNext it with
      | none => pure (.done .next)
      | some got =>
        letOwnedTupleGo tb it got
        assign tb env got
        let mut good := true
        for q in ([] : List PySem.Expr) do
          if good then good ← isTrue q env (eval q env)
        if good then
          (do
            let ku ← eval kx env
            let vu ← holding [ku] (eval vx env)
            standAt { kx.pos with endLine := vx.pos.endLine, endCol := vx.pos.endCol }
            holding [ku, vu] (dictSet d ku vu))
        again (.compLoop (.DictComp kx vx [⟨ta, ia, [], 0⟩, ⟨tb, ib, [], 0⟩] scope pos) 1 it (.ref d) env)) := by rfl
/-- the walk of the first -/
theorem first_walk (plain : ∀ x, foldedSetIterable ib env x = pure x) (At : Nat → Shared → Prop)
    (goes : ∀ n s, At n s → wpAny (model prog w) A (pyNext it) (fun r s1 => match r with
      | none => R (.ok .next) s1
      | some v => wpAny (model prog w) A (letOwnedTupleGo ta it v) (fun _ s2 => wpAny (model prog w) A (assign ta env v) (fun _ s3 => wpAny (model prog w) A (eval ib env) (fun x s4 => wpAny (model prog w) A (pyIter x) (fun y s5 =>
          codeAny (model prog w) A (.compStart (.DictComp kx vx [⟨ta, ia, [], 0⟩, ⟨tb, ib, [], 0⟩] scope pos) 1 y (.ref d) env) (fun r s6 => match r with
            | .ok _ => ∃ m, m < n ∧ At m s6
            | .error _ => False) s5) (notedBy (model prog w) A env fun e sz => R (.error e) sz) s4) (notedBy (model prog w) A env fun e sz => R (.error e) sz) s3) (notedBy (model prog w) A env fun e sz => R (.error e) sz) s2) (notedBy (model prog w) A env fun e sz => R (.error e) sz) s1) (notedBy (model prog w) A env fun e sz => R (.error e) sz) s)
    (n : Nat) (here : At n s) : codeAny (model prog w) A (.compLoop (.DictComp kx vx [⟨ta, ia, [], 0⟩, ⟨tb, ib, [], 0⟩] scope pos) 0 it (.ref d) env) R s := by
  refine codeAny_loop rfl At (fun n s a => ?_) n here
  show wpAny _ A (PySem.Sem.onRaise (compTurn (.DictComp kx vx [⟨ta, ia, [], 0⟩, ⟨tb, ib, [], 0⟩] scope pos) 0 it (.ref d) env) (fun x => do noteFrame x env; theTreesLotGoes x)) _ _ s
  refine wpAny_noted ?_
  rw [turn_first]
  refine wpAny_bind (wpAny_standAt (wpAny_bind (wpAny_mono (goes n s a) (fun r s1 b1 => ?_) fun _ _ z => z)))
  cases r with
  | none => exact wpAny_pure b1
  | some v =>
    refine wpAny_bind (wpAny_mono b1 (fun _ s2 b2 => wpAny_bind (wpAny_mono b2 (fun _ s3 b3 => ?_) fun _ _ z => z)) fun _ _ z => z)
    refine wpAny_bind (wpAny_pure ?_)
    rw [if_pos rfl]
    refine wpAny_bind (wpAny_mono b3 (fun x s4 b4 => ?_) fun _ _ z => z)
    refine wpAny_bind (wpAny_standAt (wpAny_bind (wpAny_of_eq (plain x) (wpAny_bind (wpAny_holding (wpAny_mono b4 (fun y s5 b5 => ?_) fun _ _ z => z))))))
    refine wpAny_bind (wpAny_runOwn ?_)
    rw [Around.mark_none]
    refine codeAny_mono b5 fun r s6 z => ?_
    cases r with
    | error e => exact z.elim
    | ok f =>
      first
        | exact wpAny_pure ⟨rfl, z⟩
        | exact wpAny_bind (wpAny_pure (wpAny_pure ⟨rfl, z⟩))
/-- .. and of the second -/
theorem second_walk (At : Nat → Shared → Prop)
    (goes : ∀ n s, At n s → wpAny (model prog w) A (pyNext it) (fun r s1 => match r with
      | none => R (.ok .next) s1
      | some v => wpAny (model prog w) A (letOwnedTupleGo tb it v) (fun _ s2 => wpAny (model prog w) A (assign tb env v) (fun _ s3 => wpAny (model prog w) A (eval kx env) (fun ku s4 => wpAny (model prog w) A (eval vx env) (fun vu s5 =>
          wpAny (model prog w) A (dictSet d ku vu) (fun _ s6 => ∃ m, m < n ∧ At m s6) (notedBy (model prog w) A env fun e sz => R (.error e) sz) s5) (notedBy (model prog w) A env fun e sz => R (.error e) sz) s4) (notedBy (model prog w) A env fun e sz => R (.error e) sz) s3) (notedBy (model prog w) A env fun e sz => R (.error e) sz) s2) (notedBy (model prog w) A env fun e sz => R (.error e) sz) s1) (notedBy (model prog w) A env fun e sz => R (.error e) sz) s)
    (n : Nat) (here : At n s) : codeAny (model prog w) A (.compLoop (.DictComp kx vx [⟨ta, ia, [], 0⟩, ⟨tb, ib, [], 0⟩] scope pos) 1 it (.ref d) env) R s := by
  refine codeAny_loop rfl At (fun n s a => ?_) n here
  show wpAny _ A (PySem.Sem.onRaise (compTurn (.DictComp kx vx [⟨ta, ia, [], 0⟩, ⟨tb, ib, [], 0⟩] scope pos) 1 it (.ref d) env) (fun x => do noteFrame x env; theTreesLotGoes x)) _ _ s
  refine wpAny_noted ?_
  rw [turn_second]
  refine wpAny_bind (wpAny_standAt (wpAny_bind (wpAny_mono (goes n s a) (fun r s1 b1 => ?_) fun _ _ z => z)))
  cases r with
  | none => exact wpAny_pure b1
  | some v =>
    refine wpAny_bind (wpAny_mono b1 (fun _ s2 b2 => wpAny_bind (wpAny_mono b2 (fun _ s3 b3 => ?_) fun _ _ z => z)) fun _ _ z => z)
    refine wpAny_bind (wpAny_pure ?_)
    rw [if_pos rfl]
    exact wpAny_bind (wpAny_bind (wpAny_mono b3 (fun ku s4 b4 => wpAny_bind (wpAny_holding (wpAny_mono b4 (fun vu s5 b5 => wpAny_bind (wpAny_standAt (wpAny_holding (wpAny_mono b5 (fun _ s6 b6 => wpAny_pure ⟨rfl, b6⟩) fun _ _ z => z)))) fun _ _ z => z))) fun _ _ z => z))
/-- how the second begins -/
theorem second_begins (b0 : codeAny (model prog w) A (.compLoop (.DictComp kx vx [⟨ta, ia, [], 0⟩, ⟨tb, ib, [], 0⟩] scope pos) 1 it (.ref d) env) R s)
    (b1 : wpAny (model prog w) A (pyIter it) (fun y sy => codeAny (model prog w) A (.compLoop (.DictComp kx vx [⟨ta, ia, [], 0⟩, ⟨tb, ib, [], 0⟩] scope pos) 1 y (.ref d) env) R sy) (notedBy (model prog w) A env fun x sz => R (.error x) sz) s) :
    codeAny (model prog w) A (.compStart (.DictComp kx vx [⟨ta, ia, [], 0⟩, ⟨tb, ib, [], 0⟩] scope pos) 1 it (.ref d) env) R s := by
  refine codeAny_of_tree ?_
  show wpAny _ _ (PySem.Sem.onRaise (compStart (.DictComp kx vx [⟨ta, ia, [], 0⟩, ⟨tb, ib, [], 0⟩] scope pos) 1 it (.ref d) env) (fun x => do noteFrame x env; standAt theWindowsPlace)) _ _ s
  refine wpAny_notedAt ?_
  unfold compStart
  show wpAny _ _ (PySem.ask >>= _) _ _ s
  refine wpAny_bind (wpAny_askSetting (wpAny_ite ?_))
  split
  · first
      | exact wpAny_bind (wpAny_pure (wpAny_pure ⟨rfl, b0⟩))
      | exact wpAny_pure ⟨rfl, b0⟩
  · first
      | exact wpAny_bind (wpAny_rule (wpAny_bind (wpAny_standAt (wpAny_bind (wpAny_mono b1 (fun y sy z => wpAny_pure ⟨rfl, z⟩) fun _ _ x => x)))))
      | (refine wpAny_bind (wpAny_rule ?_); show wpAny _ _ (standAt ib.pos >>= _) _ _ s; exact wpAny_bind (wpAny_standAt (wpAny_bind (wpAny_mono b1 (fun y sy z => wpAny_pure ⟨rfl, z⟩) fun _ _ x => x))))
end
/-- how far both have come -/
def tDcA2 (K : PySem.W.Frag) (w : World) (wi : TI) (g : TG) (wj : TI) (gj : TG) (tk tv : TE) (vs us : List Nat) : TE := fun σ H Q => wi σ H fun J H1 => ∀ d, H1 d = none → ∃ Left : Nat → Nat → Hp → Prop, (∃ m, Left 0 m (upd H1 d (DkO w d []))) ∧ ∀ i m H, Left i m H →
  (J.stop i H ∧ Q (.ref d) H) ∨ (J.go i H ∧ ∃ Next : Hp → Prop, (∀ H', Next H' → ∃ m', m' < m ∧ Left (i + 1) m' H') ∧ ∀ x H', J.yld i H x H' → g x (wipe σ vs) H' fun σ2 H2 => wipe σ2 vs = wipe σ vs ∧
    wj σ2 H2 fun Jb H3 => ∃ Rest : Nat → Nat → Hp → Prop, (∃ m, Rest 0 m H3) ∧ ∀ j k H, Rest j k H →
      (Jb.stop j H ∧ Next H) ∨ (Jb.go j H ∧ ∃ Then : Hp → Prop, (∀ H', Then H' → ∃ k', k' < k ∧ Rest (j + 1) k' H') ∧ ∀ x H', Jb.yld j H x H' → gj x (wipe σ2 us) H' fun σ3 H4 => wipe σ3 us = wipe σ2 us ∧
        tk σ3 H4 fun y H5 => tv σ3 H5 fun z H6 => ∃ es k, H6 d = some (DkO w d es) ∧ DA K w H6 d es ∧ NK K H6 k y ∧ k.depth ≤ 8 ∧ es.length < sizeLine ∧ Then (upd H6 d (DkO w d (putE es k y z)))))
theorem pe_dcA2 {X : Cx} {kx vx ta ia tb ib : PySem.Expr} {scope : Scope} {own : List (Str × Nat)} {us : List Nat} {pos : Pos} {wi wj : TI} {g gj : TG} {tk tv : TE} (hu : X.A.units + 64 < cLine) (calm : X.calm = true) (nd : X.N.Nodup) (walk : PI X ta ia wi) (blk : BlkOk X.N X.env.scope scope own) (inner : ∀ i ∈ us, i ∈ own.map (·.2))
    (target : ∀ (s : Shared) (H : Hp) (C : Addr) (cl : List (Str × Addr)) (fp : List Addr), PG (X.blk s H scope (compEnvC scope cl C X.env) fp) ta g)
    (walkb : ∀ (s : Shared) (H : Hp) (C : Addr) (cl : List (Str × Addr)) (fp : List Addr), PI (X.blk s H scope (compEnvC scope cl C X.env) fp) tb ib wj)
    (targetb : ∀ (s : Shared) (H : Hp) (C : Addr) (cl : List (Str × Addr)) (fp : List Addr), PG (X.blk s H scope (compEnvC scope cl C X.env) fp) tb gj)
    (key : ∀ (s : Shared) (H : Hp) (C : Addr) (cl : List (Str × Addr)) (fp : List Addr), PE (X.blk s H scope (compEnvC scope cl C X.env) fp) kx tk)
    (val : ∀ (s : Shared) (H : Hp) (C : Addr) (cl : List (Str × Addr)) (fp : List Addr), PE (X.blk s H scope (compEnvC scope cl C X.env) fp) vx tv) (plain : ∀ x, foldedSetIterable ia X.env x = pure x := by intro _; rfl) (plainb : ∀ env x, foldedSetIterable ib env x = pure x := by intro _ _; rfl) :
    PE X (.DictComp kx vx [⟨ta, ia, [], 0⟩, ⟨tb, ib, [], 0⟩] scope pos) (tDcA2 X.K X.w wi g wj gj tk tv (own.map (·.2)) us) := by
  refine ⟨fun pins s0 σ H0 Q I0 start => ?_⟩
  rw [arm_eval_DictComp]
  have caught : ∀ y ∈ scope.names, y.2 = .free → ∃ c, X.env.cells.lookup y.1 = some c := fun y hy e => (blk.free y hy e).elim (fun k => I0.ok.has _ (.inl k)) fun k => I0.ok.has _ (.inr k)
  refine wpAny_comprehension_free (use := _) rfl plain (closure_ok caught) blk.kind (fun y hy e => by rw [blk.uniq y hy, e]) (thn (walk.run pins s0 σ H0 _ I0 start) fun _ sa ha => thn ha fun _ sb hb => ?_)
  obtain ⟨itA, feet, place, J, Hb, rfl, Ib, T, at0, apart, more⟩ := hb
  refine wpAny_newObj_type (newEnv_comp ?_)
  obtain ⟨Left, ⟨mFirst, first⟩, each⟩ := more sb.heap.objs.size (Ib.hok.fresh (Nat.le_refl _))
  have Ic := fresh_dict Ib
  have small : ∀ b ∈ feet, b < sb.heap.objs.size := fun b hb => let ⟨_, e, _⟩ := T.obj _ _ at0 b hb; Heap.lt_size e
  have apart2 : ∀ b ∈ feet, FpOk X pins (upd Hb sb.heap.objs.size (DkO X.w sb.heap.objs.size [])) b ∧ b < (sb.heap.push { cls := .type "dict", data := .dict #[] }).objs.size := fun b hb => by
    refine ⟨⟨?_, (apart b hb).2⟩, ?_⟩
    · rw [upd_ne (Nat.ne_of_lt (small b hb))]
      exact (apart b hb).1
    · rw [Heap.size_push]
      exact Nat.lt_succ_of_lt (small b hb)
  have at1 : place 0 (sb.heap.push { cls := .type "dict", data := .dict #[] }) := T.keep _ _ _ at0 fun b _ o e => Heap.get?_push_of_some _ e
  generalize eC : ({ sb with heap := sb.heap.push { cls := .type "dict", data := .dict #[] } } : Shared) = sc at Ic
  have hC : sb.heap.push { cls := .type "dict", data := .dict #[] } = sc.heap := by rw [← eC]
  rw [hC] at apart2 at1
  generalize sb.heap.objs.size = d at Ic apart2 first each ⊢
  generalize eH : upd Hb d (DkO X.w d []) = HC at Ic apart2 first
  have Id := block_start Ic blk nd apart2
  have ptg := target sc HC sc.heap.objs.size (cellsFrom (sc.heap.objs.size + 1) scope.names (cloFrom X.env.cells scope.names [])) feet
  have pwb := walkb sc HC sc.heap.objs.size (cellsFrom (sc.heap.objs.size + 1) scope.names (cloFrom X.env.cells scope.names [])) feet
  have ptb := targetb sc HC sc.heap.objs.size (cellsFrom (sc.heap.objs.size + 1) scope.names (cloFrom X.env.cells scope.names [])) feet
  have pky := key sc HC sc.heap.objs.size (cellsFrom (sc.heap.objs.size + 1) scope.names (cloFrom X.env.cells scope.names [])) feet
  have pvl := val sc HC sc.heap.objs.size (cellsFrom (sc.heap.objs.size + 1) scope.names (cloFrom X.env.cells scope.names [])) feet
  show codeAny _ _ (.compStart (.DictComp kx vx [⟨ta, ia, [], 0⟩, ⟨tb, ib, [], 0⟩] scope pos) 0 (.ref itA) (.ref d) (compEnvC scope (cellsFrom (sc.heap.objs.size + 1) scope.names (cloFrom X.env.cells scope.names [])) sc.heap.objs.size X.env)) (compPost (model X.prog X.w) X.A X.xe none (EP X pins σ Q) (.ref d) sc.heap.objs.size) { sc with heap := pushCells (sc.heap.push { cls := .type "dict", data := .dict #[] }) scope.names }
  generalize eEnv : compEnvC scope (cellsFrom (sc.heap.objs.size + 1) scope.names (cloFrom X.env.cells scope.names [])) sc.heap.objs.size X.env = env at Id ptg pwb ptb pky pvl ⊢
  have eLoc : env.locals = sc.heap.objs.size := by rw [← eEnv] <;> rfl
  generalize eD : ({ sc with heap := pushCells (sc.heap.push { cls := .type "dict", data := .dict #[] }) scope.names } : Shared) = sd at Id ⊢
  have at2 : place 0 sd.heap := by
    rw [← eD]
    exact T.keep _ _ _ at1 fun b _ o e => pushCells_keeps _ _ _ _ (Heap.get?_push_of_some _ e)
  have keptApart : ∀ {σ' : L2.St} {H' : Hp} {s' : Shared}, L2.Inv (X.blk sc HC scope env feet) [] σ' H' s' → (∀ b ∈ feet, H' b = none) → ∀ b ∈ feet, FpOk (X.blk sc HC scope env feet) [] H' b := fun I' no b hb => by
    obtain ⟨x1, x2⟩ := I'.ok.exf b hb
    exact ⟨no b hb, x1, I'.ok.exfs b hb, .inl hb, fun x c e => x2 x c e, fun p hp => by simp at hp⟩
  have turns : codeAny (model X.prog X.w) X.A (.compLoop (.DictComp kx vx [⟨ta, ia, [], 0⟩, ⟨tb, ib, [], 0⟩] scope pos) 0 (.ref itA) (.ref d) env) (compPost (model X.prog X.w) X.A X.xe none (EP X pins σ Q) (.ref d) sc.heap.objs.size) sd := by
    refine first_walk (plainb env) (fun n s' => ∃ i H', L2.Inv (X.blk sc HC scope env feet) [] (wipe σ (own.map (·.2))) H' s' ∧ place i s'.heap ∧ (∀ b ∈ feet, H' b = none) ∧ Left i n H') ?_ mFirst ⟨0, HC, Id, at2, (fun b hb => (apart2 b hb).1.1), first⟩
    rintro n s1 ⟨i, H1, I1, p1, no1, left⟩
    rcases each i n H1 left with ⟨halt, here⟩ | ⟨goes, Next, down, turn⟩
    · refine thnF (T.done (X.blk sc HC scope env feet) rfl rfl rfl calm i [] s1 _ H1 (fun _ _ => False) I1 (keptApart I1 no1) p1 halt) fun r s2 z => ?_
      obtain ⟨rfl, I2⟩ := z
      have back : L2.Inv X pins σ H1 s2 := Ic.call' (ch := feet) I2.os I2.base I2.hok I2.bare fun b hb => by
        obtain ⟨⟨_, y1, _, y2, y3, y4⟩, _⟩ := apart2 b hb
        exact ⟨y2, y1, y3, y4⟩
      have nLoc : H1 sc.heap.objs.size = none := by
        rw [← eLoc]
        exact I2.free
      obtain ⟨m, hm, _⟩ := I2.loc
      have hm2 : s2.heap.Ns sc.heap.objs.size m := by
        rw [← eLoc]
        exact hm
      refine ⟨m, hm2, fun h'' sb2 => ?_⟩
      obtain ⟨y0, y1, y2, y3, y4, y5⟩ := Ic.fpOk (Nat.le_refl _) nLoc
      exact ⟨.ref d, H1, back.turned (t' := s2.toks) (fun b o hb e => (sb2.2 b hb).trans e) y0 y1 y3 y4 y5, rfl, here⟩
    · refine thnF (T.item (X.blk sc HC scope env feet) rfl rfl rfl calm i [] s1 _ H1 (fun _ _ => False) I1 (keptApart I1 no1) p1 goes) fun r s2 z => ?_
      obtain ⟨u, rfl, got⟩ := z
      refine thnF got fun _ s3 z => ?_
      obtain ⟨x, H3, I3, rx, yl, p3, no3⟩ := z
      have I3p := I3.pinned (keptApart I3 no3) (T.obj _ _ p3)
      refine thnF (ptg.run _ s3 _ H3 x u _ I3p rx (turn x H3 yl)) fun _ s4 z => ?_
      obtain ⟨σ4, H4, I4, same, q4⟩ := z
      -- the end of a turn, from whatever slots know what was known at its start
      have ends : ∀ {σe : L2.St} {se : Shared} {He : Hp}, L2.Inv (X.blk sc HC scope env feet) ([] ++ pinsAt feet s3.heap) σe He se → (wipe σ (own.map (·.2))).length = σe.length → (∀ (j : Nat) v, (wipe σ (own.map (·.2)))[j]? = some (some v) → σe[j]? = some (some v)) → Next He →
          ∃ m, m < n ∧ ∃ i H', L2.Inv (X.blk sc HC scope env feet) [] (wipe σ (own.map (·.2))) H' se ∧ place i se.heap ∧ (∀ b ∈ feet, H' b = none) ∧ Left i m H' := fun {σe se He} Ie le ke nx => by
        obtain ⟨m', lower, left'⟩ := down He nx
        have pinned : ∀ b ∈ feet, ∀ o, s3.heap.get? b = some o → se.heap.get? b = some o ∧ He b = none := fun b hb o e => by
          have z := Ie.pin (b, o) (List.mem_append_right _ (List.mem_append_right _ (mem_pinsAt hb e)))
          exact ⟨z.1, z.2.1⟩
        refine ⟨m', lower, i + 1, He, (Ie.unpinned (pins := [])).weak le ke, T.keep _ _ _ p3 fun b hb o e => (pinned b hb o e).1, (fun b hb => ?_), left'⟩
        obtain ⟨o, e, _⟩ := T.obj _ _ p3 b hb
        exact (pinned b hb o e).2
      have len4 : (wipe σ (own.map (·.2))).length = σ4.length := by rw [← same, wipe_length]
      have know : ∀ (j : Nat) v, (wipe σ (own.map (·.2)))[j]? = some (some v) → (wipe σ4 us)[j]? = some (some v) := fun j v e => by
        rw [← same] at e
        obtain ⟨e1, e2⟩ := wipe_some e
        rw [wipe_out fun z => e2 (inner j z)]
        exact e1
      refine thnF (pwb.run _ s4 σ4 H4 _ I4 q4) fun _ s5 z => thnF z fun _ s6 z => ?_
      obtain ⟨itB, feetB, placeB, Jb, H6, rfl, I6, TB, atB, apartB, Rest, ⟨mB, restB⟩, eachB⟩ := z
      have keptB : ∀ {H' : Hp}, (∀ b ∈ feetB, H' b = none) → ∀ b ∈ feetB, FpOk (X.blk sc HC scope env feet) ([] ++ pinsAt feet s3.heap) H' b := fun no b hb => ⟨no b hb, (apartB b hb).2⟩
      have turnsB : codeAny (model X.prog X.w) X.A (.compLoop (.DictComp kx vx [⟨ta, ia, [], 0⟩, ⟨tb, ib, [], 0⟩] scope pos) 1 (.ref itB) (.ref d) env)
          (fun r s' => match r with
            | .ok _ => ∃ m, m < n ∧ ∃ i H', L2.Inv (X.blk sc HC scope env feet) [] (wipe σ (own.map (·.2))) H' s' ∧ place i s'.heap ∧ (∀ b ∈ feet, H' b = none) ∧ Left i m H'
            | .error _ => False) s6 := by
        refine second_walk (fun k s' => ∃ j H', L2.Inv (X.blk sc HC scope env feet) ([] ++ pinsAt feet s3.heap) (wipe σ4 us) H' s' ∧ placeB j s'.heap ∧ (∀ b ∈ feetB, H' b = none) ∧ Rest j k H') ?_ mB ⟨0, H6, I6.weak (wipe_length _ _) (fun j v e => (wipe_some e).1), atB, (fun b hb => (apartB b hb).1), restB⟩
        rintro k s7 ⟨j, H7, I7, p7, no7, rest⟩
        rcases eachB j k H7 rest with ⟨haltB, nx⟩ | ⟨goesB, Then, downB, turnB⟩
        · refine thnF (TB.done (X.blk sc HC scope env feet) rfl rfl rfl calm j _ s7 (wipe σ4 us) H7 (fun _ _ => False) I7 (keptB no7) p7 haltB) fun r s8 z => ?_
          obtain ⟨rfl, I8⟩ := z
          exact ends I8 (len4.trans (wipe_length σ4 us).symm) know nx
        · refine thnF (TB.item (X.blk sc HC scope env feet) rfl rfl rfl calm j _ s7 (wipe σ4 us) H7 (fun _ _ => False) I7 (keptB no7) p7 goesB) fun r s8 z => ?_
          obtain ⟨ub, rfl, gotB⟩ := z
          refine thnF gotB fun _ s9 z => ?_
          obtain ⟨xb, H9, I9, rxb, ylb, p9, no9⟩ := z
          have I9p := I9.pinned (keptB no9) (TB.obj _ _ p9)
          refine thnF (ptb.run _ s9 (wipe σ4 us) H9 xb ub _ I9p rxb (turnB xb H9 ylb)) fun _ s10 z => ?_
          obtain ⟨σ10, H10, I10, sameB, q10⟩ := z
          refine thnF (pky.run _ s10 σ10 H10 _ I10 q10) fun ku s11 z => ?_
          obtain ⟨y, H11, I11, ry, q11⟩ := z
          refine thnF (pvl.run _ s11 σ10 H11 _ I11 q11) fun vu s12 z => ?_
          obtain ⟨zv, H12, I12, rz, es, kk, e12, D12, n12, kd, few, then_⟩ := z
          refine comp_put (X := X.blk sc HC scope env feet) hu I12 e12 D12 n12 kd few ry rz fun s13 I13 => ?_
          obtain ⟨k', lowerB, rest'⟩ := downB _ then_
          have pinnedB : ∀ b ∈ feetB, ∀ o, s9.heap.get? b = some o → s13.heap.get? b = some o ∧ (upd H12 d (DkO X.w d (putE es kk y zv))) b = none := fun b hb o e => by
            have z := I13.pin (b, o) (List.mem_append_right _ (List.mem_append_right _ (mem_pinsAt hb e)))
            exact ⟨z.1, z.2.1⟩
          refine ⟨k', lowerB, j + 1, _, I13.unpinned.weak (by rw [← sameB, wipe_length]) (fun jj v e => ?_), TB.keep _ _ _ p9 fun b hb o e => (pinnedB b hb o e).1, (fun b hb => ?_), rest'⟩
          · rw [← sameB] at e
            exact (wipe_some e).1
          · obtain ⟨o, e, _⟩ := TB.obj _ _ p9 b hb
            exact (pinnedB b hb o e).2
      exact second_begins turnsB (TB.self X.A 0 _ _ _ atB turnsB)
  exact codeAny_compStart_dict turns (T.self X.A 0 _ _ _ at2 turns)
end AK

set_option Elab.async false
set_option linter.all false
set_option maxRecDepth 100000
set_option maxHeartbeats 4000000
namespace AK
open PySem PySem.Spec PyProof.Rows L2
/-! ### how both walks of such a comprehension are told: by the turn and the heap -/
theorem dc2_in {K : PySem.W.Frag} {w : World} {d : Addr} {Jb : It} {n : Nat} {G : Hp → Prop} {Y : Nat → Hp → V → Hp → Prop} {gj : TG} {tk tv : TE} {us : List Nat} {σ2 : L2.St} {H3 : Hp} {Next : Hp → Prop} (W : Walk Jb n G Y) (Pv : Nat → Hp → Prop) (h0 : Pv 0 H3) (hG : ∀ j H, j ≤ n → Pv j H → G H)
    (hs : ∀ j x H H', j < n → Pv j H → Y j H x H' → gj x (wipe σ2 us) H' fun σ3 H4 => wipe σ3 us = wipe σ2 us ∧ tk σ3 H4 fun y H5 => tv σ3 H5 fun z H6 => ∃ es k, H6 d = some (DkO w d es) ∧ DA K w H6 d es ∧ NK K H6 k y ∧ k.depth ≤ 8 ∧ es.length < sizeLine ∧ Pv (j + 1) (upd H6 d (DkO w d (putE es k y z)))) (hd : ∀ H, Pv n H → Next H) :
    ∃ Rest : Nat → Nat → Hp → Prop, (∃ m, Rest 0 m H3) ∧ ∀ j k H, Rest j k H →
      (Jb.stop j H ∧ Next H) ∨ (Jb.go j H ∧ ∃ Then : Hp → Prop, (∀ H', Then H' → ∃ k', k' < k ∧ Rest (j + 1) k' H') ∧ ∀ x H', Jb.yld j H x H' → gj x (wipe σ2 us) H' fun σ3 H4 => wipe σ3 us = wipe σ2 us ∧
        tk σ3 H4 fun y H5 => tv σ3 H5 fun z H6 => ∃ es k, H6 d = some (DkO w d es) ∧ DA K w H6 d es ∧ NK K H6 k y ∧ k.depth ≤ 8 ∧ es.length < sizeLine ∧ Then (upd H6 d (DkO w d (putE es k y z)))) := by
  refine ⟨fun i m H => m = n - i ∧ i ≤ n ∧ Pv i H, ⟨n, by simp, Nat.zero_le _, h0⟩, ?_⟩
  rintro i m H ⟨rfl, hi, p⟩
  have q := hG i H hi p
  by_cases hlt : i < n
  · exact .inr ⟨W.goes i H hlt q, Pv (i + 1), fun H' p' => ⟨n - (i + 1), by omega, rfl, hlt, p'⟩, fun x H' y => hs i x H H' hlt p (W.yields i H x H' hlt q y)⟩
  · have e : i = n := by omega
    subst e
    exact .inl ⟨W.stops H q, hd H p⟩
theorem dc2_out {K : PySem.W.Frag} {w : World} {d : Addr} {J : It} {n : Nat} {G : Hp → Prop} {Y : Nat → Hp → V → Hp → Prop} {g gj : TG} {wj : TI} {tk tv : TE} {vs us : List Nat} {σ : L2.St} {H1 : Hp} {Q : VK} (W : Walk J n G Y) (Pv : Nat → Hp → Prop) (h0 : Pv 0 (upd H1 d (DkO w d []))) (hG : ∀ j H, j ≤ n → Pv j H → G H)
    (hs : ∀ i x H H', i < n → Pv i H → Y i H x H' → g x (wipe σ vs) H' fun σ2 H2 => wipe σ2 vs = wipe σ vs ∧ wj σ2 H2 fun Jb H3 => ∃ Rest : Nat → Nat → Hp → Prop, (∃ m, Rest 0 m H3) ∧ ∀ j k H, Rest j k H →
      (Jb.stop j H ∧ Pv (i + 1) H) ∨ (Jb.go j H ∧ ∃ Then : Hp → Prop, (∀ H', Then H' → ∃ k', k' < k ∧ Rest (j + 1) k' H') ∧ ∀ x H', Jb.yld j H x H' → gj x (wipe σ2 us) H' fun σ3 H4 => wipe σ3 us = wipe σ2 us ∧
        tk σ3 H4 fun y H5 => tv σ3 H5 fun z H6 => ∃ es k, H6 d = some (DkO w d es) ∧ DA K w H6 d es ∧ NK K H6 k y ∧ k.depth ≤ 8 ∧ es.length < sizeLine ∧ Then (upd H6 d (DkO w d (putE es k y z))))) (hd : ∀ H, Pv n H → Q (.ref d) H) :
    ∃ Left : Nat → Nat → Hp → Prop, (∃ m, Left 0 m (upd H1 d (DkO w d []))) ∧ ∀ i m H, Left i m H →
      (J.stop i H ∧ Q (.ref d) H) ∨ (J.go i H ∧ ∃ Next : Hp → Prop, (∀ H', Next H' → ∃ m', m' < m ∧ Left (i + 1) m' H') ∧ ∀ x H', J.yld i H x H' → g x (wipe σ vs) H' fun σ2 H2 => wipe σ2 vs = wipe σ vs ∧
        wj σ2 H2 fun Jb H3 => ∃ Rest : Nat → Nat → Hp → Prop, (∃ m, Rest 0 m H3) ∧ ∀ j k H, Rest j k H →
          (Jb.stop j H ∧ Next H) ∨ (Jb.go j H ∧ ∃ Then : Hp → Prop, (∀ H', Then H' → ∃ k', k' < k ∧ Rest (j + 1) k' H') ∧ ∀ x H', Jb.yld j H x H' → gj x (wipe σ2 us) H' fun σ3 H4 => wipe σ3 us = wipe σ2 us ∧
            tk σ3 H4 fun y H5 => tv σ3 H5 fun z H6 => ∃ es k, H6 d = some (DkO w d es) ∧ DA K w H6 d es ∧ NK K H6 k y ∧ k.depth ≤ 8 ∧ es.length < sizeLine ∧ Then (upd H6 d (DkO w d (putE es k y z))))) := by
  refine ⟨fun i m H => m = n - i ∧ i ≤ n ∧ Pv i H, ⟨n, by simp, Nat.zero_le _, h0⟩, ?_⟩
  rintro i m H ⟨rfl, hi, p⟩
  have q := hG i H hi p
  by_cases hlt : i < n
  · exact .inr ⟨W.goes i H hlt q, Pv (i + 1), fun H' p' => ⟨n - (i + 1), by omega, rfl, hlt, p'⟩, fun x H' y => hs i x H H' hlt p (W.yields i H x H' hlt q y)⟩
  · have e : i = n := by omega
    subst e
    exact .inl ⟨W.stops H q, hd H p⟩
end AK

set_option Elab.async false
set_option linter.all false
set_option maxRecDepth 100000
set_option maxHeartbeats 4000000
namespace AK
open PySem PySem.Spec PyProof.Rows L2
/-! ### a display of such a dict -/
def tPutA (K : PySem.W.Frag) (w : World) (p : Addr) : List Eh → List (V × V) → Hp → (Hp → Prop) → Prop
  | _, [], H, Q => Q H
  | es, (x, y) :: r, H, Q => ∃ k, DA K w H p es ∧ NK K H k x ∧ k.depth ≤ 8 ∧ es.length < sizeLine ∧ tPutA K w p (putE es k x y) r (upd H p (DkO w p (putE es k x y))) Q
/-- {k: v, ..}: all pairs, then they are stored from the left -/
def tDispA (K : PySem.W.Frag) (w : World) (trs : List (TE × TE)) : TE := fun σ H Q => ∀ p, H p = none → tPairs trs σ (upd H p (DkO w p [])) fun ps H2 => H2 p = some (DkO w p []) ∧ tPutA K w p [] ps H2 (Q (.ref p))
section
variable {X : Cx} {pos : Pos}
theorem store_pairsA (hu : X.A.units + 64 < cLine) {pins : List (Addr × Obj)} {σ : L2.St} {p : Addr} {E : PySem.Value → Shared → Prop} : ∀ {ps : List (V × V)} {vs : List (PySem.Value × PySem.Value)} {es : List Eh} {H : Hp} {s : Shared} {Q : Hp → Prop}, VV ps vs → L2.Inv X pins σ H s → H p = some (DkO X.w p es) → tPutA X.K X.w p es ps H Q →
    wpAny (model X.prog X.w) X.A (forIn vs PUnit.unit fun (x : PySem.Value × PySem.Value) (_ : PUnit) => (do dictSet p x.1 x.2; pure (ForInStep.yield PUnit.unit) : Sem (ForInStep PUnit))) (fun _ s' => ∃ H', L2.Inv X pins σ H' s' ∧ Q H') E s
  | _, _, es, H, s, Q, .nil, I, e, q => by
    rw [List.forIn_nil]
    exact wpAny_pure ⟨H, I, q⟩
  | _, _, es, H, s, Q, @Paired.cons _ _ _ a b as bs h t, I, e, q => by
    obtain ⟨x, y⟩ := a
    obtain ⟨k, D, n, kd, hl, q⟩ := q
    rw [List.forIn_cons]
    refine wpAny_bind (wpAny_bind (comp_put hu I e D n kd hl h.1 h.2 fun s' I' => wpAny_pure ?_))
    exact store_pairsA hu t I' upd_same q
theorem pe_dispA {keys : List (Option PySem.Expr)} {values : List PySem.Expr} {trs : List (TE × TE)} (hu : X.A.units + 64 < cLine) (h : PPs X pos keys values trs) (hall : keys.all (·.isSome) = true := by rfl) (hl : keys.length = values.length := by rfl) (h0 : keys ≠ [] := by intro z; cases z)
    (h15 : keys.length ≤ 15 := by decide) : PE X (.Dict keys values pos) (tDispA X.K X.w trs) := by
  refine ⟨fun pins s σ H Q I q => ?_⟩
  have hn := I.hok.fresh (Nat.le_refl s.heap.objs.size)
  have I1 := fresh_dict I
  have q1 := q _ hn
  have len := pairTrees_length keys values X.env pos hall hl
  rw [arm_eval_Dict, zip_pairTrees keys values X.env pos hall hl, dictDisplay_pairs _ (by
    intro he
    rw [he] at len
    exact h0 (List.length_eq_zero_iff.mp len.symm)) (by rw [len]; omega)]
  refine wpAny_bind (wpAny_standAt (wpAny_bind ?_))
  unfold subDict
  refine wpAny_bind (wpAny_alloc ?_)
  refine wpAny_bind (wpAny_holding ?_)
  rw [if_pos (by rw [len]; exact h15)]
  refine wpAny_bind (thn (h.run pins _ σ _ _ I1 q1) fun vs s2 ⟨ps, H2, I2, rel, e, q2⟩ => ?_)
  refine wpAny_holding ?_
  refine wpAny_bind (thn (store_pairsA hu rel I2 e q2) fun _ s3 ⟨H3, I3, q3⟩ => ?_)
  exact wpAny_pure (wpAny_pure (wpAny_pure ⟨.ref s.heap.objs.size, H3, I3, rfl, q3⟩))
end
end AK

set_option Elab.async false
set_option linter.all false
set_option maxRecDepth 100000
set_option maxHeartbeats 4000000
namespace AK
open PySem PySem.Spec PyProof.Rows L2
/-! ### a tuple times 0, times 1 -/
theorem mul_one (l : Addr) (items : Array PySem.Value) (n : Nat) (dd : Option Addr) (sl : Array (Option PySem.Value)) (u : Tok) :
    Meets (Builtin.«tuple.__mul__» ⟨[.ref l, .int 1 u], []⟩) (fun _ R s => s.heap.get? l = some { cls := .type "tuple", dict := dd, data := .seq items n, slots := sl } ∧ R (.ok (.ret (PySem.Value.ref l))) s) :=
  .of_wp fun prog w A R s h => by
    obtain ⟨hp, g, d, tk, os⟩ := s
    obtain ⟨hl, h⟩ := h
    have f1 := AutoSeq1.idx_int
    have c0 : (decide ((1 : Int) < -(2 ^ 63)) || decide ((1 : Int) ≥ 2 ^ 63)) = false := by decide
    have c1 : (items.isEmpty || (1 : Int) == 1) = true := by rw [show ((1 : Int) == 1) = true from rfl, Bool.or_true]
    wp_walk using wpAny_loadPart' hl
    repeat (first
      | (refine wpAny_ite_false (decide_eq_false (by rw [c0]; exact Bool.false_ne_true)) ?_; wp_walk using wpAny_loadPart' hl)
      | (refine wpAny_ite_true (decide_eq_true (by rw [c1])) ?_; wp_walk using wpAny_loadPart' hl))
    exact ⟨_, rfl, h⟩
theorem mul_nil (l : Addr) (items : Array PySem.Value) (n : Nat) (dd : Option Addr) (sl : Array (Option PySem.Value)) (x : Int) (u : Tok) (c0 : (decide (x < -(2 ^ 63)) || decide (x ≥ 2 ^ 63)) = false) (c1 : (items.isEmpty || x == 1) = false) (c2 : (decide (x ≤ 0) || items.isEmpty) = true) :
    Meets (Builtin.«tuple.__mul__» ⟨[.ref l, .int x u], []⟩) (fun _ R s => s.heap.get? l = some { cls := .type "tuple", dict := dd, data := .seq items n, slots := sl } ∧
      R (.ok (.ret (PySem.Value.ref s.heap.objs.size))) { s with heap := s.heap.push { cls := PySem.Value.type "tuple", data := Data.seq #[] }, toks := s.toks }) :=
  .of_wp fun prog w A R s h => by
    obtain ⟨hp, g, d, tk, os⟩ := s
    obtain ⟨hl, h⟩ := h
    have f1 := AutoSeq1.idx_int
    wp_walk using wpAny_loadPart' hl
    repeat (first
      | (refine wpAny_ite_false (decide_eq_false (by rw [c0]; exact Bool.false_ne_true)) ?_; wp_walk using wpAny_loadPart' hl)
      | (refine wpAny_ite_false (decide_eq_false (by rw [c1]; exact Bool.false_ne_true)) ?_; wp_walk using wpAny_loadPart' hl)
      | (refine wpAny_ite_true (decide_eq_true (by rw [c2])) ?_; wp_walk using wpAny_loadPart' hl))
    exact ⟨_, rfl, h⟩
def rRep01 (K : PySem.W.Frag) : R2 := fun x y H Q => ∃ l k xs, x = .ref l ∧ y = .int k ∧ SqT K H l xs ∧ xs ≠ [] ∧ ((k = 1 ∧ Q (.ref l) H) ∨ (-1000 ≤ k ∧ k ≤ 0 ∧ ∀ p, H p = none → Q (.ref p) (upd H p (.tup []))))
theorem op_rep01 {X : Cx} : OpR X (binaryOp .Mult) (rRep01 X.K) := by
  intro pins s σ H x y v u Q I rx ry h
  obtain ⟨l, k, xs, rfl, rfl, hT, hne, q⟩ := h
  cases rx
  obtain ⟨t, rfl⟩ := ry
  obtain ⟨its, r, ⟨⟨cls, dd, data, sl⟩, ho, hc, n, hd⟩, hs⟩ := I.tuple hT
  simp only at hc hd
  subst hc hd
  have hle : its.length = xs.length := r.length.symm
  have hn : its ≠ [] := fun e => hne (by
    rw [e] at hle
    exact List.eq_nil_of_length_eq_zero hle.symm)
  have hi : its.toArray.isEmpty = false := by
    cases its with
    | nil => exact absurd rfl hn
    | cons a b => rfl
  rcases q with ⟨rfl, q⟩ | ⟨k0, k1, q⟩
  · refine wpAny_binaryOp_repeat_ref (T := "tuple") (U := "int") (by decide) ⟨_, ho, rfl⟩ (fun s' => typeIs_int s' 1 t) noFill_tuple_mul F.fills_int_mul F.slot_int_rmul repeat_tuple F.slot_int_index.lookup
      (call_meets F.slot_int_rmul (typeIs_int s 1 t) F.entry_int_rmul (F.args_int_rmul_2 _ _) (int_rmul_tuple 1 t l its.toArray n dd sl)
        ⟨ho, rfl, ⟨_, ho, rfl⟩, call_meets F.slot_tuple_mul ⟨_, ho, rfl⟩ F.entry_tuple_mul (F.args_tuple_mul_2 _ _) (mul_one l its.toArray n dd sl t) ⟨ho, ?_⟩⟩)
    exact ⟨.ref l, H, I, rfl, q⟩
  · have c0 : (decide (k < -(2 ^ 63)) || decide (k ≥ 2 ^ 63)) = false := by
      rw [decide_eq_false (by omega), decide_eq_false (by omega)] <;> rfl
    have c1 : (its.toArray.isEmpty || k == 1) = false := by
      rw [hi, Bool.false_or]
      exact beq_eq_false_iff_ne.mpr (by omega)
    have c2 : (decide (k ≤ 0) || its.toArray.isEmpty) = true := by
      rw [decide_eq_true k1]
      rfl
    refine wpAny_binaryOp_repeat_ref (T := "tuple") (U := "int") (by decide) ⟨_, ho, rfl⟩ (fun s' => typeIs_int s' k t) noFill_tuple_mul F.fills_int_mul F.slot_int_rmul repeat_tuple F.slot_int_index.lookup
      (call_meets F.slot_int_rmul (typeIs_int s k t) F.entry_int_rmul (F.args_int_rmul_2 _ _) (int_rmul_tuple k t l its.toArray n dd sl)
        ⟨ho, rfl, ⟨_, ho, rfl⟩, call_meets F.slot_tuple_mul ⟨_, ho, rfl⟩ F.entry_tuple_mul (F.args_tuple_mul_2 _ _) (mul_nil l its.toArray n dd sl k t c0 c1 c2) ⟨ho, ?_⟩⟩)
    refine ⟨.ref s.heap.objs.size, _, I.laid (t' := s.toks) (o := .tup []) (fun b ob q => Heap.get?_push_of_some _ q) (Nat.le_refl _) ?_, rfl, q _ (I.hok.fresh (Nat.le_refl _))⟩
    exact ⟨Nat.zero_le _, [], .nil, IsTup.new _ _⟩
/-- a tuple times any number from -1000 to 1000 -/
theorem op_repAny {X : Cx} : OpR X (binaryOp .Mult) (fun x y H Q => rRep01 X.K x y H Q ∨ rRepT X.K x y H Q) := by
  intro pins s σ H x y v u Q I rx ry h
  rcases h with h | h
  · exact op_rep01 pins s σ H x y v u Q I rx ry h
  · exact op_repT pins s σ H x y v u Q I rx ry h
end AK

set_option Elab.async false
set_option linter.all false
set_option maxRecDepth 100000
set_option maxHeartbeats 4000000
namespace Tr
open PySem PySem.Spec PyProof.Rows L2

/-! ### what the head must say of an own error's class -/
def xcB (K : PySem.W.Frag) (C : Addr) : Bool := match K.lookup C with
  | some ⟨.type "type", _, .cls cd, sl⟩ => (match cd.mro, sl.toList with
    | .ref C' :: bm, [_, _, _, _, some (.builtin n), _] => C' == C && (n == "ValueError.__new__" && (!cd.hasDel && (cd.hasDict && PySem.HandSPX.refsVE bm)))
    | _, _ => false)
  | _ => false
theorem xcB_ok {K : PySem.W.Frag} {C : Addr} (q : xcB K C = true) :
    ∃ nm qn N bs bm sn sub ab col dd k0 k1 k2 k3 k5, K.lookup C = some (excClassObj nm qn C N bs bm true sn sub ab col dd k0 k1 k2 k3 k5 "ValueError.__new__") ∧ PySem.HandSPX.refsVE bm = true := by
  unfold xcB at q
  split at q
  · rename_i dd cd sl ho
    split at q
    · rename_i C1 bm k0 k1 k2 k3 n k5 hm hs
      obtain ⟨q1, q⟩ := Bool.and_eq_true_iff.mp q
      obtain ⟨q2, q⟩ := Bool.and_eq_true_iff.mp q
      obtain ⟨q3, q⟩ := Bool.and_eq_true_iff.mp q
      obtain ⟨q4, q5⟩ := Bool.and_eq_true_iff.mp q
      have e1 : C1 = C := beq_iff_eq.mp q1
      have e2 : n = "ValueError.__new__" := beq_iff_eq.mp q2
      subst e1 e2
      obtain ⟨nm, bs, mro, ns, qn, hd, sn, sub, ab, col, del⟩ := cd
      dsimp only at hm q3 q4
      obtain ⟨l⟩ := sl
      dsimp only at hs
      subst hm hs q4
      have e3 : del = false := by
        cases del with
        | false => rfl
        | true => cases q3
      subst e3
      exact ⟨nm, qn, ns, bs, bm, sn, sub, ab, col, dd, k0, k1, k2, k3, k5, ho, q5⟩
    · cases q
  · cases q
/-- a class of errors of one's own: how it is made, how its fields are stored and read, how isinstance asks its instances -/
structure Xc (K : PySem.W.Frag) (C : Addr) : Prop where
  o : OexC K C
  f : XfC K C
  i : ExcC K C
def xcAll (K : PySem.W.Frag) (C : Addr) : Bool :=
  xcB K C && (xfB K C && (decide (PySem.W.findIn K (.ref C) "__setattr__" = some (some (.builtin "object.__setattr__"))) && (decide (PySem.W.typeIn K (.ref C) = some (.type "type")) && (PySem.W.keepIn K (.ref C) &&
    (decide (PySem.W.findIn K (.ref C) "__class__" = some (some (.builtin "object.__class__"))) && (decide (PySem.W.specialIn K (.builtin "object.__class__") "__get__" = some (some (.builtin "getset_descriptor.__get__"))) &&
      (decide (PySem.W.takesIn K (.builtin "object.__class__") = some true) && decide (PySem.W.mroIn K C (.type "object") = some true))))))))
theorem xcAll_ok {K : PySem.W.Frag} {C : Addr} (h : xcAll K C = true) : Xc K C := by
  obtain ⟨h1, h⟩ := Bool.and_eq_true_iff.mp h
  obtain ⟨h2, h⟩ := Bool.and_eq_true_iff.mp h
  obtain ⟨h3, h⟩ := Bool.and_eq_true_iff.mp h
  obtain ⟨h4, h⟩ := Bool.and_eq_true_iff.mp h
  obtain ⟨h5, h⟩ := Bool.and_eq_true_iff.mp h
  obtain ⟨h6, h⟩ := Bool.and_eq_true_iff.mp h
  obtain ⟨h7, h⟩ := Bool.and_eq_true_iff.mp h
  obtain ⟨h8, h9⟩ := Bool.and_eq_true_iff.mp h
  have F := xfB_ok h2
  exact ⟨⟨xcB_ok h1, of_decide_eq_true h3, F.exC, of_decide_eq_true h4, h5⟩, F, ⟨F.ga, F.gg, F.exC, F.hdC, of_decide_eq_true h6, of_decide_eq_true h7, of_decide_eq_true h8, of_decide_eq_true h9⟩⟩
/-- isinstance among these classes: each is just itself -/
def kitB1 (K : PySem.W.Frag) (Cs : List Addr) : Bool := Cs.all fun c => Cs.all fun d => decide (PySem.W.kitOne K (.ref c) (.ref d) = some (c == d))
def kitUp (K : PySem.W.Frag) (Cs : List Addr) (t : PySem.Value) : Bool := Cs.all fun c => decide (PySem.W.kitOne K (.ref c) t = some true)
end Tr
/-! ### constants of the written part that are data -/
namespace AK
open PySem PySem.Spec PyProof.Rows L2
mutual
def datB (K : PySem.W.Frag) : Nat → PySem.Value → PyData → Bool
  | 0, _, _ => false
  | n + 1, v, d => match d, v with
    | .none, .none => true
    | .int i, .int j _ => decide (i = j)
    | .str x, .str y _ => decide (x = y)
    | .tuple ds, .ref a => (match K.lookup a with
      | some ⟨.type c, _, .seq its _, _⟩ => decide (c = "tuple") && (decide (its.size ≤ 100) && datsB K n its.toList ds)
      | _ => false)
    | _, _ => false
def datsB (K : PySem.W.Frag) : Nat → List PySem.Value → List PyData → Bool
  | 0, _, _ => false
  | _ + 1, [], [] => true
  | n + 1, v :: vs, d :: ds => datB K n v d && datsB K n vs ds
  | _ + 1, _, _ => false
end
mutual
theorem datB_ok {K : PySem.W.Frag} : ∀ (n : Nat) (v : PySem.Value) (d : PyData), datB K n v d = true → ∃ x, RelV x v ∧ ∀ H, Dp K H x d
  | 0, _, _, h => by
    unfold datB at h
    cases h
  | n + 1, v, d, h => by
    unfold datB at h
    split at h
    · exact ⟨.non, rfl, fun _ => .non⟩
    · rename_i i j t
      obtain rfl := of_decide_eq_true h
      exact ⟨.int i, ⟨t, rfl⟩, fun _ => .int i⟩
    · rename_i x y t
      obtain rfl := of_decide_eq_true h
      exact ⟨.str x, ⟨t, rfl⟩, fun _ => .str x⟩
    · rename_i ds a
      split at h
      · rename_i c od its k sl e
        obtain ⟨h1, h⟩ := Bool.and_eq_true_iff.mp h
        obtain ⟨h2, h3⟩ := Bool.and_eq_true_iff.mp h
        obtain rfl := of_decide_eq_true h1
        have h2 := of_decide_eq_true h2
        obtain ⟨xs, r, q⟩ := datsB_ok n _ _ h3
        have hn : its.size ≤ sizeLine := by
          rw [sizeLine_eq]
          omega
        refine ⟨.ref a, rfl, fun H => .tup (.inr ⟨_, its, k, e, rfl, rfl, hn, r⟩) (q H)⟩
      · cases h
    · cases h
theorem datsB_ok {K : PySem.W.Frag} : ∀ (n : Nat) (vs : List PySem.Value) (ds : List PyData), datsB K n vs ds = true → ∃ xs, Vals xs vs ∧ ∀ H, DpAll K H xs ds
  | 0, _, _, h => by
    unfold datsB at h
    cases h
  | n + 1, [], [], _ => ⟨[], .nil, fun _ => .nil⟩
  | n + 1, v :: vs, d :: ds, h => by
    unfold datsB at h
    obtain ⟨h1, h2⟩ := Bool.and_eq_true_iff.mp h
    obtain ⟨x, r, q⟩ := datB_ok n v d h1
    obtain ⟨xs, rs, qs⟩ := datsB_ok n vs ds h2
    exact ⟨x :: xs, .cons r rs, fun H => .cons (q H) (qs H)⟩
  | n + 1, [], _ :: _, h => by
    unfold datsB at h
    cases h
  | n + 1, _ :: _, [], h => by
    unfold datsB at h
    cases h
end
end AK
namespace Tr
open PySem PySem.Spec PyProof.Rows L2

/-! ### an own error as a value: made by its __init__, kept, its fields read -/
/-- x(e, ..): what __init__ must bear at the new error, which stays tracked -/
def tXmk (C : Addr) (sp : Sp) (ta : TA) : TE := fun σ H Q => ta σ H fun vs H1 =>
  vs.length ≤ 1000 ∧ ∀ a, H1 a = none → sp (.ref a :: vs) (upd H1 a (exo a C none)) (fun v H2 => v = .non ∧ Q (.ref a) H2) E0
section
variable {Y : Cx} {nm : Str} {C fI : Addr} {k : Nat} {fd : FuncData} {ps : List Str} {sp : Sp} {pins : List (Addr × Obj)} {σ : L2.St} {H : Hp}
/-- the class is called with values -/
theorem xmk_run {s : Shared} {us : List PySem.Value} {vs : List V} {Q : VK} (T : OexC Y.K C) (hi : PySem.W.findIn Y.K (.ref C) "__init__" = some (some (.ref fI))) (ht : PySem.W.typeIn Y.K (.ref fI) = some (.type "function"))
    (FF : FnOk Y.prog Y.w Y.K Y.mg Y.base CX0 k fI fd ps sp) (room : Room (k + 1) Y.A) (bs : Binds Y.K fd ps []) (I : L2.Inv Y pins σ H s) (rel : Vals vs us) (small : vs.length ≤ 1000)
    (want : ∀ a, H a = none → sp (.ref a :: vs) (upd H a (exo a C none)) (fun v H2 => v = .non ∧ Q (.ref a) H2) E0) :
    wpAny (model Y.prog Y.w) Y.A (call (.ref C) us) (EP Y pins σ Q) Y.xe s := by
  obtain ⟨n1, n2, n3, n4, bm, n5, n6, n7, n8, n9, l0, l1, l2, l3, l5, look, chain⟩ := T.cls
  obtain ⟨h0, gs, dr, tk, os⟩ := s
  have le1 : h0.objs.size ≤ h0.objs.size + 1 := Nat.le_succ _
  have new1 : H (h0.objs.size + 1) = none := I.hok.fresh le1
  have sp1 := want (h0.objs.size + 1) new1
  have keep2 : ∀ b o, h0.get? b = some o → ((h0.push (PySem.W.kdv_tup us)).push (PySem.HandSPX.excO C h0.objs.size)).get? b = some o :=
    fun b o e => Heap.get?_push_of_some _ (Heap.get?_push_of_some _ e)
  have at2 : ((h0.push (PySem.W.kdv_tup us)).push (PySem.HandSPX.excO C h0.objs.size)).get? (h0.objs.size + 1) = some (PySem.HandSPX.excO C h0.objs.size) := by heap_get
  have J : L2.Inv Y pins σ (upd H (h0.objs.size + 1) (exo (h0.objs.size + 1) C none))
      ⟨(h0.push (PySem.W.kdv_tup us)).push (PySem.HandSPX.excO C h0.objs.size), gs, dr, tk, os⟩ :=
    I.laid (t' := tk) (a := h0.objs.size + 1) (o := exo (h0.objs.size + 1) C none)
      (h' := (h0.push (PySem.W.kdv_tup us)).push (PySem.HandSPX.excO C h0.objs.size)) keep2 le1 (exo_ok at2)
  have relS : Vals (V.ref (h0.objs.size + 1) :: vs) (PySem.Value.ref (h0.objs.size + 1) :: us) := .cons rfl rel
  have lenS : (PySem.Value.ref (h0.objs.size + 1) :: us ++ []).length = ps.length := by
    rw [List.append_nil, ← relS.length]
    exact FF.len _ _ _ _ sp1
  have few : us.length ≤ sizeLine := by
    have e := Paired.length rel
    rw [sizeLine_eq]
    omega
  have bound : BindsTo ⟨(h0.push (PySem.W.kdv_tup us)).push (PySem.HandSPX.excO C h0.objs.size), gs, dr, tk, os⟩ fd ⟨PySem.Value.ref (h0.objs.size + 1) :: us, []⟩ (ps.zip (PySem.Value.ref (h0.objs.size + 1) :: us)) := by
    have b := bs _ (PySem.Value.ref (h0.objs.size + 1) :: us) J.kIn lenS
    rw [List.append_nil] at b
    exact b
  refine wpAny_call (PySem.HandSPX.call_own F.excBase_ValueError (fun Z => PySem.HandSPX.refsVE_contains Z bm chain) (I.kIn _ _ look)
    (PySem.W.looks_findIn I.kIn hi) (fun self => PySem.W.bind_fn I.kIn self ht) few
    (codeAny_mono (FF.run _ Y.stack _ _ _ _ _ _ E0 (room.make C us []) (J.env0.make C us []) bound relS sp1) fun r s' hq => ?_))
  match r, hq with
  | .ok (.ret u), hq =>
    obtain ⟨v, H', K1, rv, ev, q⟩ := J.after hq
    subst ev
    exact ⟨rv, ⟨V.ref (h0.objs.size + 1), H', K1, rfl, q⟩⟩
  | .ok .next, hq => exact hq.elim
  | .ok .brk, hq => exact hq.elim
  | .ok .cont, hq => exact hq.elim
  | .error _, hq => exact hq.elim
theorem pe_xmk {e : PySem.Expr} {es : List PySem.Expr} {ta : TA} {p pos : Pos} (T : OexC Y.K C) (hi : PySem.W.findIn Y.K (.ref C) "__init__" = some (some (.ref fI))) (ht : PySem.W.typeIn Y.K (.ref fI) = some (.type "function"))
    (FF : FnOk Y.prog Y.w Y.K Y.mg Y.base CX0 k fI fd ps sp) (room : Room (k + 1) Y.A) (bs : Binds Y.K fd ps []) (hm : Y.mg nm = some (.ref C)) (ha : PA Y (e :: es) ta) (hg : Gl Y nm := by rfl)
    (nodebug : (nm == ("__debug__" : Str)) = false := by decide) (stars : starEach (e :: es) Y.env = (false, eval e Y.env) :: starEach es Y.env := by rfl)
    (plain : (backTo pos (starEach es Y.env)).any (·.1) = false := by rfl) : PE Y (.Call (.Name nm p) (e :: es) [] pos) (tXmk C sp ta) := by
  refine ⟨fun pins s σ H Q I h => wpAny_Call_Name_kw (ld_glob I hg hm ?_ nodebug)⟩
  refine PySem.W.callWith_K (h₀ := Y.base) I.ok.mod.kin T.kC (thn (ha.run pos pins s σ H _ I h) ?_) stars plain
  rintro us s1 ⟨vs, H1, I1, rel, small, want⟩
  exact ⟨I1.kIn, xmk_run T hi ht FF room bs I1 rel small want⟩
theorem pe_xmk0 {p pos : Pos} (T : OexC Y.K C) (hi : PySem.W.findIn Y.K (.ref C) "__init__" = some (some (.ref fI))) (ht : PySem.W.typeIn Y.K (.ref fI) = some (.type "function"))
    (FF : FnOk Y.prog Y.w Y.K Y.mg Y.base CX0 k fI fd ps sp) (room : Room (k + 1) Y.A) (bs : Binds Y.K fd ps []) (hm : Y.mg nm = some (.ref C)) (hg : Gl Y nm := by rfl)
    (nodebug : (nm == ("__debug__" : Str)) = false := by decide) : PE Y (.Call (.Name nm p) [] [] pos) (tXmk C sp tNil) := by
  refine ⟨fun pins s σ H Q I h => wpAny_Call_Name_kw (ld_glob I hg hm ?_ nodebug)⟩
  exact PySem.W.callWith_K0 I.kIn T.kC (xmk_run (us := []) (vs := []) T hi ht FF room bs I .nil h.1 h.2)

/-- e.f of such an error -/
def tXget (K : PySem.W.Frag) (te : TE) (f : Str) : TE := fun σ H Q => te σ H fun x H1 => ∃ (a C d : Addr) (fs : List (Str × V)) (v : V),
  x = .ref a ∧ H1 a = some (exo a C (some d)) ∧ H1 d = some (exd d fs) ∧ XfC K C ∧ PySem.W.findIn K (.ref C) f = some none ∧ fs.lookup f = some v ∧ Q v H1
theorem xo_inst {h : Heap} {a C d t1 : Addr} {od : Obj} (e : h.get? a = some ({ cls := .ref C, dict := some d, data := .fields #[.ref t1, .none, .none, .none, .bool false, .none] } : Obj)) (hd : h.get? d = some od) :
    PySem.W.InstAt h a { cls := .ref C, dict := some d, data := .fields #[.ref t1, .none, .none, .none, .bool false, .none] } C (some od) := ⟨e, rfl, rfl, hd⟩
theorem pe_xget {e : PySem.Expr} {te : TE} {f : Str} {pos : Pos} (he : PE Y e te) (base : attributeBase e f Y.env (eval e Y.env) = eval e Y.env := by rfl) : PE Y (.Attribute e f pos) (tXget Y.K te f) := by
  refine ⟨fun pins s σ H Q I h => attr_of base (thn (he.run pins s σ H _ I h) ?_)⟩
  rintro u s1 ⟨x, H1, I1, rx, a, C, d, fs, v, rfl, ea, ed, T, hno, hl, q⟩
  obtain rfl : u = PySem.Value.ref a := rx
  obtain ⟨t1, oa⟩ := exo_at I1.hok ea
  obtain ⟨mA, hns, rel⟩ := exd_at I1.hok ed
  obtain ⟨od, ho, look⟩ := lookIn_ns hns
  have some_f : RelO (some v) (mA f) := by
    have z := rel f
    rw [hl] at z
    exact z
  obtain ⟨u2, hu, ru⟩ := RelO.some_of some_f
  have own : PySem.W.lookIn f od = some (some u2) := by rw [look, hu]
  exact PySem.HandSPX.exc_get I1.kIn (xo_inst oa ho) T.ga T.gg T.exC (PySem.W.findObj_own T.hdC hno rfl own) (handed_of ru) ⟨v, H1, I1.tok _, ru, q⟩
end

/-! ### repr of data -/
/-- the shown text of a value that is data -/
def rShow (K : PySem.W.Frag) : List V → Hp → VK → Prop := fun xs H Q => ∃ (a : Addr) (d : PyData), xs = [.ref a] ∧ Dp K H (.ref a) d ∧ d.showable = true ∧ d.hasDict = false ∧ d.depth ≤ 60 ∧ d.shown.length ≤ sizeLine ∧ Q (.str d.shown) H
theorem call_show {Y : Cx} (free : Y.A.guards = some []) (hu : Y.A.units + 64 < cLine) : CallR Y (.builtin "repr") (rShow Y.K) := by
  intro pins s σ H xs us Q I rel h
  obtain ⟨a, d, rfl, hd, hs, nd, deep, short, q⟩ := h
  obtain ⟨u, rfl, ru⟩ := vals1 rel
  obtain rfl : u = PySem.Value.ref a := ru
  obtain ⟨as, rd⟩ := Dp.reads I d (.ref a) (.ref a) hd rfl
  refine repr_of_reads' rd hs (PyData.noDict_hsm nd) free (by omega) (fun _ _ e => e) (fun h' t' tk keep => ?_) short
  exact ⟨.str d.shown, H, I.kept (t' := tk) keep, ⟨_, rfl⟩, q⟩
end Tr
namespace Tr
open PySem PySem.Spec PyProof.Rows L2
/-! ### isinstance of an own error that is held as a value -/
/-- an own error at a: its class C, its dict (none as yet, or one with these fields) -/
def XoAt (H : Hp) (a C : Addr) (fs : Option (List (Str × V))) : Prop := match fs with
  | none => H a = some (exo a C none)
  | some l => ∃ d, H a = some (exo a C (some d)) ∧ H d = some (exd d l)
theorem xo_some {Y : Cx} {pins : List (Addr × Obj)} {σ : L2.St} {H : Hp} {s : Shared} {a C : Addr} {fs : Option (List (Str × V))} (I : L2.Inv Y pins σ H s) (h : XoAt H a C fs) : ∃ ox od, PySem.W.InstAt s.heap a ox C od := by
  cases fs with
  | none =>
    obtain ⟨t, e⟩ := exo_at I.hok (show H a = some (exo a C none) from h)
    exact ⟨_, none, e, rfl, rfl, trivial⟩
  | some l =>
    obtain ⟨d, ea, ed⟩ := h
    obtain ⟨t, oa⟩ := exo_at I.hok ea
    obtain ⟨mA, hns, _⟩ := exd_at I.hok ed
    obtain ⟨od, ho, _⟩ := lookIn_ns hns
    exact ⟨_, some od, xo_inst oa ho⟩
def rIsX (K : PySem.W.Frag) : List V → Hp → VK → Prop := fun xs H Q => ∃ (a C : Addr) (fs : Option (List (Str × V))) (c : V) (cv : PySem.Value) (b : Bool),
  xs = [.ref a, c] ∧ XoAt H a C fs ∧ ClsV c cv ∧ Xc K C ∧ PySem.W.kitOne K (.ref C) cv = some b ∧ Q (.bl b) H
theorem call_isX {Y : Cx} : CallR Y (.builtin "isinstance") (rIsX Y.K) := by
  intro pins s σ H xs us Q I rel h
  obtain ⟨a, C, fs, c, cv, b, rfl, hx, hc, T, e, q⟩ := h
  obtain ⟨u, u2, rfl, ru, rc⟩ := vals2 rel
  obtain rfl : u = PySem.Value.ref a := ru
  obtain rfl := hc.eq rc
  obtain ⟨ox, od, J⟩ := xo_some I hx
  have isC : (PySem.W.clsIn Y.K C).isSome = true := by
    obtain ⟨cd, e, _⟩ := PySem.W.any_some T.f.hdC
    rw [e]
    rfl
  have Z := PySem.W.kitx_exc (x := a) (ox := ox) (od := od) isC T.f.ga T.f.gg T.f.exC T.i.ha T.i.hn T.i.ht T.i.hm
  exact PySem.W.kia_one Z I.kIn J e (fun z => nomatch z) fun tk => ⟨.bl b, H, I.tok tk, rfl, q⟩
end Tr
namespace Tr
open PySem PySem.Spec PyProof.Rows L2
/-! ### a def that runs where nothing is being shown: repr may be asked in it -/
structure GOk (P : Program) (w : World) (K : PySem.W.Frag) (mg : Str → Option PySem.Value) (base : Heap) (k : Nat) (f : Addr) (fd : FuncData) (ps : List Str) (sp : Sp) : Prop where
  len : ∀ vs H Q, sp vs H Q E0 → vs.length = ps.length
  run : ∀ (A : Around) (outer : List Env) (s : Shared) (H : Hp) (args : Args) (us : List PySem.Value) (vs : List V) (Q : VK), Room k A → A.guards = some [] → Env0 P w K mg base A outer s H →
    BindsTo s fd args (ps.zip us) → Vals vs us → sp vs H Q E0 → codeAny (model P w) A (.call (.ref f) args) (CR CX0 outer P w H s Q E0) s
section
variable {P : Program} {w : World} {K : PySem.W.Frag} {mg : Str → Option PySem.Value} {base : Heap} {x qual : Str} {params : Arguments} {body : List PySem.Stmt} {scope : Scope} {f : Addr} {fd : FuncData}
theorem GOk.of {N ps : List Str} {k : Nat} {sp : Sp} {dvs : List V} {kws : List (Str × V)} (D : FunD K x qual params body scope dvs kws f fd) (S : FnScope N ps scope) (len : ∀ vs H Q, sp vs H Q E0 → vs.length = ps.length)
    (walk : ∀ (cdv : PySem.Value) (A : Around) (outer : List Env) (s : Shared) (H : Hp) (vs : List V) (Q : VK), Room k (A.deeper (envOfC qual scope s.heap.objs.size f cdv)) → A.guards = some [] → sp vs H Q E0 →
      ∃ t, PSs (cxOf CX0 P w K mg base N qual scope f cdv A outer s H E0).nox body t ∧ t { nx := fun _ H' => Q .non H', rt := Q } (start N vs) H) : GOk P w K mg base (k + 1) f fd ps sp := by
  obtain ⟨oc, od, dV, kV, doc, pm, an, cdv, ct, osl, rfl, found, isCode, _, _⟩ := D.ex
  refine ⟨len, fun A outer s H args us vs Q room free e0 bound rel h => ?_⟩
  have inK : K.In s.heap := e0.mod.kin.keeps fun b o e => (e0.bs b o e).1
  have roomy : s.heap.NoLimit := e0.mod.nolimit.keeps fun b o e => (e0.bs b o e).1
  have kinds : ∀ y ∈ ps.zip us, scope.names.lookup y.1 = some .local ∨ (scope.names.lookup y.1 = some .cell ∧ ((cellsFrom (s.heap.objs.size + 1) scope.names []).lookup y.1).isSome = true) := by
    rintro ⟨n, v⟩ hy
    exact (S.par n (List.of_mem_zip hy).1).imp id fun c => ⟨c, PySem.W.cellsFrom_some _ _ _ (.inl c)⟩
  refine codeAny_call_function room.depth (inK _ _ found) rfl S.co S.gen rfl (PySem.W.codeRec_of inK isCode) (bound _ _ _ _ (wpAny_newFunctionEnv_cells S.kind kinds ?_))
  rintro env1 rfl s1 into
  refine ⟨roomy.keeps into.toInCall.keep, codeAny_func ?_⟩
  obtain ⟨t, term, reads⟩ := walk cdv A outer s H vs Q (room.deeper _) free h
  have I1 := inv_start (CX := CX0) (P := P) (w := w) (K := K) (mg := mg) (base := base) (qual := qual) (f := f) (cd := cdv) (E := E0) S room.hd e0 (len _ _ _ h) rel into
  refine wpAny_mono (term.nox.run [] s1 (start N vs) H _ I1 reads) (fun fl s' z => ?_) fun _ _ z => z
  have done : ∀ {v : V} {u : PySem.Value} {H' : Hp} {σ' : L2.St}, L2.Inv (cxOf CX0 P w K mg base N qual scope f cdv A outer s H E0) [] σ' H' s' → RelV v u → Q v H' → CE outer P w H s Q u s' :=
    fun {v u H' σ'} J r q => ⟨v, H', J.os, J.bare, J.base, J.hok, r, q⟩
  match fl, z with
  | .ret _, ⟨v, _, H', J, r, q⟩ => exact done J r q
  | .next, ⟨_, H', J, q⟩ => exact done (v := V.non) J rfl q
  | .brk, ⟨_, _, _, q⟩ => exact q.elim
  | .cont, ⟨_, _, _, q⟩ => exact q.elim
end
/-! ### the end: such a def is the law -/
section
variable {P : Program} {w : World} {K : PySem.W.Frag} {mg mb : Str → Option PySem.Value} {k : Nat} {fa a : Addr} {fd : FuncData} {x : Str} {sp : Sp} {s₁ : Shared} {vs : List PySem.Value} {ns : List Int}
theorem law_run (KX : K.In s₁.heap) (gl : s₁.heap.Ns mainGlobals mg) (bl : s₁.heap.Ns builtinsNs mb) (blb : ∀ x : Str, x ≠ "__name__" → mb x = bootBuiltins x) (lim : s₁.heap.NoLimit) (noGens : s₁.gens = #[])
    (script : s₁.heap.get? a = some { cls := .type "list", data := .seq vs.toArray }) (theInts : IntsAre vs ns) (few : ns.length ≤ sizeLine) (room : Room k callerA)
    (FF : ∀ base : Heap, K.In base → base.Ns mainGlobals mg → GOk P w K mg base k fa fd [x] sp) (bound : ∀ (s : Shared) (u : PySem.Value), BindsTo s fd ⟨[u], []⟩ [(x, u)])
    (asks : ∀ H : Hp, SqL K H a (ns.map V.int) → sp [.ref a] H (fun v _ => v = .bl true) E0) :
    codeAny (model P w) callerA (.call (.ref fa) ⟨[.ref a], []⟩) (fun r s' => r = .ok (.ret (.bool true)) ∧ OldK s₁.heap s'.heap ∧ s'.os = s₁.os ∧ AllBare s'.gens) s₁ := by
  have rel : Vals (ns.map V.int) vs := vals_ints theInts
  have sized : vs.length = ns.length := theInts.length
  -- the script is tracked, locked, unless it is an object of the written part
  have main : ∀ H : Hp, (∀ b o, H b = some o → b = a ∧ K.lookup a = none ∧ o = .frz { cls := .type "list", data := .seq vs.toArray } (.lst (ns.map V.int))) → SqL K H a (ns.map V.int) →
      codeAny (model P w) callerA (.call (.ref fa) ⟨[.ref a], []⟩) (fun r s' => r = .ok (.ret (.bool true)) ∧ OldK s₁.heap s'.heap ∧ s'.os = s₁.os ∧ AllBare s'.gens) s₁ := by
    intro H only sq
    have hok : HOk P w H s₁.heap := by
      intro b o e
      obtain ⟨rfl, _, rfl⟩ := only b o e
      exact ⟨script, by rw [List.length_map]; exact few, vs, _, rel, script⟩
    have off : ∀ {b : Addr}, (∀ o, H b ≠ some o) → H b = none := fun {b} z => by
      match e : H b with
      | none => rfl
      | some o => exact absurd e (z o)
    have notDict : ∀ {b : Addr} {o : Obj} {es : Array DictEntry} {n : Nat}, s₁.heap.get? b = some o → o.data = .dict es n → H b = none := fun {b o es n} e d => off fun u q => by
      obtain ⟨rfl, _, _⟩ := only b u q
      rw [script] at e
      obtain rfl := Option.some.inj e
      cases d
    have names : ∀ {b : Addr} {m : Str → Option PySem.Value}, s₁.heap.Ns b m → (hidT s₁.heap H).Ns b m := by
      rintro b m ⟨o, es, n, e, d, r⟩
      exact ⟨o, es, n, hidT_get e (notDict e d), d, r⟩
    have inK : K.In (hidT s₁.heap H) := fun b o e => hidT_get (KX b o e) (off fun u q => by
      obtain ⟨rfl, none_, _⟩ := only b u q
      rw [none_] at e
      cases e)
    obtain ⟨mc, lim1, lim2⟩ := lim
    have mod : Mod K mg (hidT s₁.heap H) := ⟨inK, names gl, ⟨mb, names bl, blb⟩, ⟨mc, names lim1, lim2⟩⟩
    have e0 : Env0 P w K mg (hidT s₁.heap H) callerA [] s₁ H :=
      ⟨rfl, mod, fun _ _ e => of_hidT e, Nat.le_of_eq (hidT_size _ _), trivial, fun _ z => (nomatch z), hok, .of_eq noGens⟩
    refine codeAny_mono ((FF _ inK (names gl)).run callerA [] s₁ H ⟨[.ref a], []⟩ [.ref a] [.ref a] _ room rfl e0 (bound s₁ _) (.cons rfl .nil) (asks H sq)) ?_
    intro r s' z
    match r, z with
    | .ok (.ret u), ⟨v, H', os, bare, un, hok', ru, q⟩ =>
      obtain rfl : v = .bl true := q
      obtain rfl : u = PySem.Value.bool true := ru
      refine ⟨rfl, OldK.of_keep fun b o e => ?_, os, bare⟩
      match eb : H b with
      | none => exact un.keep b o e eb (fun z => nomatch z) (fun z => nomatch z)
      | some u =>
        obtain ⟨rfl, _, rfl⟩ := only b u eb
        obtain ⟨there, _⟩ := hok' _ _ (un.frzs b _ _ eb)
        rw [script] at e
        obtain rfl := Option.some.inj e
        exact there
    | .ok .next, z => exact z.elim
    | .ok .brk, z => exact z.elim
    | .ok .cont, z => exact z.elim
    | .error _, z => exact z.elim
  match ek : K.lookup a with
  | some o =>
    have same := KX a o ek
    rw [script] at same
    obtain rfl := Option.some.inj same
    exact main (fun _ => none) (fun _ _ z => nomatch z) (.inr ⟨_, vs.toArray, _, ek, rfl, rfl, rfl, by rw [List.size_toArray, sized]; exact few, by simpa using rel⟩)
  | none =>
    refine main (fun b => if b = a then some (.frz { cls := .type "list", data := .seq vs.toArray } (.lst (ns.map V.int))) else none) (fun b o z => ?_) (.inl (.inr ⟨_, if_pos rfl⟩))
    by_cases hb : b = a
    · exact ⟨hb, ek, (Option.some.inj ((if_pos hb).symm.trans z)).symm⟩
    · exact nomatch (if_neg hb).symm.trans z
end
/-- for the goal that head_any leaves -/
theorem law_walk {l : PySem.W.OpenLaw} {n k : Nat} {q : Program} {loose : List Str} {XP : (Str → Option PySem.Value) → Heap → Prop} {YP : World → Heap → Prop} {d : DefRec} {x : Str}
    (most : l.most = some n) (small : n ≤ sizeLine) (plain : d.params.defaults = []) (room : Room k callerA)
    (told : ∀ (w : World) (mg : Str → Option PySem.Value) (fa : Addr) (h : Heap), YP w h → h.Ns mainGlobals mg → mg d.name = some (.ref fa) →
      ∃ (K : PySem.W.Frag) (fd : FuncData) (sp : Sp), K.In h ∧ (∀ (s : Shared) (u : PySem.Value), BindsTo s fd ⟨[u], []⟩ [(x, u)]) ∧
        (∀ (H : Hp) (a : Addr) (ns : List Int), ns.length ≤ n → SqL K H a (ns.map V.int) → sp [.ref a] H (fun v _ => v = .bl true) E0) ∧
        ∀ base : Heap, K.In base → base.Ns mainGlobals mg → GOk l.prog w K mg base k fa fd [x] sp) :
    PySem.W.WalkO q loose XP YP l.row.toRowW d [] (fun f vs => PySem.call f vs) := by
  refine Att.attach_call most plain ?_
  intro w s₀ s₁ mg mb fa o pm cd doc a vs ns G Y ho hd hcd hmg script theInts few noGens
  obtain ⟨K, fd, sp, KX, bound, asks, FF⟩ := told w mg fa _ Y G.T.g hmg
  exact law_run KX G.T.g G.T.b G.T.builtins G.T.nolimit noGens script theInts (Nat.le_trans few small) room FF bound fun H z => asks H a ns few z
end Tr
namespace Pen
open PySem PySem.Spec PyProof.Rows L2
/-! ### the pen: a dict of five names -/
def penK (l : Addr) (at_ dg ct fo : Int) : List (Key × V) := [(Sum.inr "cells", .ref l), (Sum.inr "at", .int at_), (Sum.inr "digits", .int dg), (Sum.inr "count", .int ct), (Sum.inr "fold", .int fo)]
section
variable {H : Hp} {p l : Addr} {a d c f z : Int}
theorem get_ {k : Str} {v : V} (e : valV (penK l a d c f) (Sum.inr k) = some v) (h : H p = some (.dK (penK l a d c f))) : DGet H p (.str k) (some v) := by
  have g := DGet.k (k := Sum.inr k) h
  rw [e] at g
  exact g
theorem put_ {k : Str} {v : V} {kvs : List (Key × V)} (e : putK (penK l a d c f) (Sum.inr k) v = kvs) (h : H p = some (.dK (penK l a d c f))) : DPut H p (.str k) v (upd H p (.dK kvs)) := by
  have g := DPut.k (k := Sum.inr k) (v := v) h (small1000 (by show 5 ≤ 1000; decide))
  rw [e] at g
  exact g
theorem gCells (h : H p = some (.dK (penK l a d c f))) : DGet H p (.str "cells") (some (.ref l)) := get_ (by kernel_rfl) h
theorem gAt (h : H p = some (.dK (penK l a d c f))) : DGet H p (.str "at") (some (.int a)) := get_ (by kernel_rfl) h
theorem gDigits (h : H p = some (.dK (penK l a d c f))) : DGet H p (.str "digits") (some (.int d)) := get_ (by kernel_rfl) h
theorem gCount (h : H p = some (.dK (penK l a d c f))) : DGet H p (.str "count") (some (.int c)) := get_ (by kernel_rfl) h
theorem gFold (h : H p = some (.dK (penK l a d c f))) : DGet H p (.str "fold") (some (.int f)) := get_ (by kernel_rfl) h
theorem pAt (h : H p = some (.dK (penK l a d c f))) : DPut H p (.str "at") (.int z) (upd H p (.dK (penK l z d c f))) := put_ (by kernel_rfl) h
theorem pDigits (h : H p = some (.dK (penK l a d c f))) : DPut H p (.str "digits") (.int z) (upd H p (.dK (penK l a z c f))) := put_ (by kernel_rfl) h
theorem pCount (h : H p = some (.dK (penK l a d c f))) : DPut H p (.str "count") (.int z) (upd H p (.dK (penK l a d z f))) := put_ (by kernel_rfl) h
theorem pFold (h : H p = some (.dK (penK l a d c f))) : DPut H p (.str "fold") (.int z) (upd H p (.dK (penK l a d c z))) := put_ (by kernel_rfl) h
end
/-- the pen at p with these fields -/
structure PenV (H : Hp) (p l : Addr) (cells : List Int) (a d c f : Int) : Prop where
  di : H p = some (.dK (penK l a d c f))
  li : H l = some (.lst (cells.map V.int))
  a0 : 0 ≤ a
  d0 : 0 ≤ d
  c0 : 0 ≤ c
  f0 : 0 ≤ f
  f1 : f < 2147483648
/-- a pen at p that was asked at most n times -/
def PenAt (H : Hp) (p l : Addr) (n : Nat) : Prop := ∃ cells a d c f, PenV H p l cells a d c f ∧ c ≤ n
/-- all that was tracked but p is as it was -/
def But (p : Addr) (H H' : Hp) : Prop := ∀ b o, H b = some o → b ≠ p → H' b = some o
theorem But.refl {p : Addr} {H : Hp} : But p H H := fun _ _ e _ => e
theorem But.trans {p : Addr} {H H1 H2 : Hp} (x : But p H H1) (y : But p H1 H2) : But p H H2 := fun b o e n => y b o (x b o e n) n
theorem But.upd {p : Addr} {H H1 : Hp} {o : HO} (x : But p H H1) : But p H (L2.upd H1 p o) := fun b u e n => by rw [upd_ne n]; exact x b u e n
theorem But.same {p : Addr} {H H1 : Hp} (x : Same H H1) : But p H H1 := fun b o e _ => x b o e
theorem PenV.keep {H H' : Hp} {p l : Addr} {cells : List Int} {a d c f : Int} (P : PenV H p l cells a d c f) (s : Same H H') : PenV H' p l cells a d c f := ⟨s _ _ P.di, s _ _ P.li, P.a0, P.d0, P.c0, P.f0, P.f1⟩
theorem PenAt.keep {H H' : Hp} {p l : Addr} {n : Nat} (P : PenAt H p l n) (s : Same H H') : PenAt H' p l n := by
  obtain ⟨cells, a, d, c, f, P, h⟩ := P
  exact ⟨cells, a, d, c, f, P.keep s, h⟩
theorem PenAt.mono {H : Hp} {p l : Addr} {n m : Nat} (P : PenAt H p l n) (h : n ≤ m) : PenAt H p l m := by
  obtain ⟨cells, a, d, c, f, P, h1⟩ := P
  exact ⟨cells, a, d, c, f, P, by omega⟩
theorem PenAt.is {H : Hp} {p l : Addr} {n : Nat} (P : PenAt H p l n) : ∃ kvs, H p = some (.dK kvs) := by
  obtain ⟨cells, a, d, c, f, P, _⟩ := P
  exact ⟨_, P.di⟩
theorem PenAt.lis {H : Hp} {p l : Addr} {n : Nat} (P : PenAt H p l n) : ∃ xs, H l = some (.lst xs) := by
  obtain ⟨cells, a, d, c, f, P, _⟩ := P
  exact ⟨_, P.li⟩
/-- another object changes -/
theorem PenAt.other {H : Hp} {p l D : Addr} {o : HO} {n : Nat} (P : PenAt H p l n) (h1 : D ≠ p) (h2 : D ≠ l) : PenAt (L2.upd H D o) p l n := by
  obtain ⟨cells, a, d, c, f, P, h⟩ := P
  exact ⟨cells, a, d, c, f, ⟨by rw [upd_ne (Ne.symm h1)]; exact P.di, by rw [upd_ne (Ne.symm h2)]; exact P.li, P.a0, P.d0, P.c0, P.f0, P.f1⟩, h⟩
/-- the pen with another dict -/
theorem PenV.set {H : Hp} {p l : Addr} {cells : List Int} {a d c f a' d' c' f' : Int} (P : PenV H p l cells a d c f) (a0 : 0 ≤ a') (d0 : 0 ≤ d') (c0 : 0 ≤ c') (f0 : 0 ≤ f') (f1 : f' < 2147483648) :
    PenV (upd H p (.dK (penK l a' d' c' f'))) p l cells a' d' c' f' :=
  ⟨upd_same, by rw [upd_ne (ne_of P.li P.di (by intro z; cases z))]; exact P.li, a0, d0, c0, f0, f1⟩
/-! ### promises -/
def spPen (K : PySem.W.Frag) : Sp := fun vs H Q _ => ∃ (a : Addr) (ns : List Int), vs = [.ref a] ∧ SqL K H a (ns.map V.int) ∧ ns.length ≤ 63 ∧ ∀ p l H', PenAt H' p l 0 → Same H H' → H p = none → Q (.ref p) H'
def spDraw : Sp := fun vs H Q _ => ∃ (p l : Addr) (n : Nat) (m : Int), vs = [.ref p, .int m] ∧ PenAt H p l n ∧ n ≤ 1000000 ∧ 1 ≤ m ∧ m < 1073741824 ∧
  ∀ r H', 0 ≤ r → r < m → PenAt H' p l (n + 1) → But p H H' → Q (.int r) H'
def spPick (K : PySem.W.Frag) : Sp := fun vs H Q _ => ∃ (p l s : Addr) (n : Nat) (xs : List V), vs = [.ref p, .ref s] ∧ PenAt H p l n ∧ n ≤ 1000000 ∧ SqL K H s xs ∧ xs ≠ [] ∧ xs.length < 1073741824 ∧ s ≠ p ∧
  ∀ (i : Nat) v H', xs[i]? = some v → PenAt H' p l (n + 1) → But p H H' → Q v H'
end Pen
namespace Pen
open PySem PySem.Spec PyProof.Rows L2
theorem But.seq {K : PySem.W.Frag} {p a : Addr} {H H' : Hp} {xs : List V} (s : But p H H') (n : a ≠ p) (h : SqL K H a xs) : SqL K H' a xs := by
  rcases h with (h | ⟨o, h⟩) | h
  · exact .inl (.inl (s _ _ h n))
  · exact .inl (.inr ⟨o, s _ _ h n⟩)
  · exact .inr h
theorem But.seqT {K : PySem.W.Frag} {p a : Addr} {H H' : Hp} {xs : List V} (s : But p H H') (n : a ≠ p) (h : SqT K H a xs) : SqT K H' a xs := by
  rcases h with (h | ⟨o, h⟩) | h
  · exact .inl (.inl (s _ _ h n))
  · exact .inl (.inr ⟨o, s _ _ h n⟩)
  · exact .inr h
/-! ### digits -/
theorem dv_lt : ∀ (cs : List Nat) (a : Nat), NumText.AllDigits cs → cs.foldl (fun acc c => acc * 10 + (c - 48)) a < (a + 1) * 10 ^ cs.length
  | [], a, _ => by
    show a < (a + 1) * 10 ^ 0
    omega
  | c :: cs, a, h => by
    have h0 := h.head
    have z := dv_lt cs (a * 10 + (c - 48)) h.tail
    show cs.foldl (fun acc c => acc * 10 + (c - 48)) (a * 10 + (c - 48)) < (a + 1) * 10 ^ (cs.length + 1)
    have e : (a + 1) * 10 ^ (cs.length + 1) = (a * 10 + 10) * 10 ^ cs.length := by
      rw [Nat.pow_succ, Nat.mul_comm (10 ^ cs.length) 10, ← Nat.mul_assoc]
      have : (a + 1) * 10 = a * 10 + 10 := by omega
      rw [this]
    rw [e]
    refine Nat.lt_of_lt_of_le z (Nat.mul_le_mul_right _ ?_)
    omega
/-- the last fg figures of a number, read back -/
theorem cut_num (n fg : Nat) (h1 : 1 ≤ fg) (short : (TL.numL n).length ≤ 640) :
    ∃ z : Nat, PySem.intText? (cutS (Str.ofString (toString (n : Int))) (some (-(fg : Int))) none) = some (z : Int) ∧ z < 10 ^ fg ∧ (cutS (Str.ofString (toString (n : Int))) (some (-(fg : Int))) none).length ≤ 640 := by
  have hd : (Str.ofString (toString (n : Int))).cps.toList = TL.numL n := TL.tl_num n
  have hlen : (Str.ofString (toString (n : Int))).length = (TL.numL n).length := by
    show (Str.ofString (toString (n : Int))).cps.size = _
    rw [← Array.length_toList, hd]
  have hne : 0 < (TL.numL n).length := List.length_pos_iff.mpr (TL.numL_ne n)
  have shape : cutS (Str.ofString (toString (n : Int))) (some (-(fg : Int))) none = SX.S ((TL.numL n).drop ((TL.numL n).length - fg)) := by
    unfold cutS
    rw [hd, hlen]
    have e1 : HT.sIx (TL.numL n).length 0 (some (-(fg : Int))) = (TL.numL n).length - fg := by
      show (if (-(fg : Int)) < 0 then ((-(fg : Int)) + ((TL.numL n).length : Int)).toNat else _) = _
      rw [if_pos (by omega)]
      omega
    have e2 : HT.sIx (TL.numL n).length (TL.numL n).length none = (TL.numL n).length := rfl
    rw [e1, e2, List.take_of_length_le (by rw [List.length_drop]; omega)]
  have dl : ((TL.numL n).drop ((TL.numL n).length - fg)).length ≤ fg := by rw [List.length_drop]; omega
  have dg : NumText.AllDigits ((TL.numL n).drop ((TL.numL n).length - fg)) := fun c hc => TL.numL_digits n c (List.mem_of_mem_drop hc)
  rw [shape]
  refine ⟨NumText.digitsVal ((TL.numL n).drop ((TL.numL n).length - fg)), SX.int_S ?_ ?_ ?_, ?_, ?_⟩
  · refine List.all_eq_true.mpr fun c hc => ?_
    obtain ⟨a, b⟩ := dg c hc
    rw [decide_eq_true a, decide_eq_true b] <;> rfl
  · intro e
    have := congrArg List.length e
    rw [List.length_drop] at this
    simp at this
    omega
  · rw [List.length_drop]
    omega
  · have z := dv_lt _ 0 dg
    refine Nat.lt_of_lt_of_le z ?_
    rw [Nat.zero_add, Nat.one_mul]
    exact Nat.pow_le_pow_right (by decide) dl
  · rw [SX.S_len, List.length_drop]
    omega
/-- _law_big: a number of at most fg figures -/
def spBig : Sp := fun vs H Q _ => ∃ (p l : Addr) (n fg : Nat), vs = [.ref p, .int fg] ∧ PenAt H p l n ∧ n ≤ 900000 ∧ 1 ≤ fg ∧ fg ≤ 500 ∧
  ∀ (z : Nat) H', z < 10 ^ fg → PenAt H' p l (n + 1 + (fg + 3)) → But p H H' → Q (.int z) H'
end Pen
namespace Tr
open PySem PySem.Spec PyProof.Rows L2
/-! ### defs that run where nothing is being shown; what they hold of code objects -/
structure GFn (P : Program) (w : World) (K : PySem.W.Frag) (mg : Str → Option PySem.Value) (base : Heap) (CX : CXT) (k : Nat) (f : Addr) (fd : FuncData) (ps : List Str) (sp : Sp) : Prop where
  len : ∀ vs H Q E, sp vs H Q E → vs.length = ps.length
  run : ∀ (A : Around) (outer : List Env) (s : Shared) (H : Hp) (args : Args) (us : List PySem.Value) (vs : List V) (Q : VK) (E : XK), Room k A → A.guards = some [] → Env0 P w K mg base A outer s H →
    BindsTo s fd args (ps.zip us) → Vals vs us → sp vs H Q E → codeAny (model P w) A (.call (.ref f) args) (CR CX outer P w H s Q E) s
section
variable {CX : CXT} {P : Program} {w : World} {K : PySem.W.Frag} {mg : Str → Option PySem.Value} {base : Heap} {x qual : Str} {params : Arguments} {body : List PySem.Stmt} {scope : Scope} {f : Addr} {fd : FuncData}
theorem GFn.of {N ps : List Str} {k : Nat} {sp : Sp} {dvs : List V} {kws : List (Str × V)} (D : FunD K x qual params body scope dvs kws f fd) (S : FnScope N ps scope) (len : ∀ vs H Q E, sp vs H Q E → vs.length = ps.length)
    (walk : ∀ (c : Addr) (A : Around) (outer : List Env) (s : Shared) (H : Hp) (vs : List V) (Q : VK) (E : XK), (∀ p, He.fAd K p = f → He.codeOf K p = c) → Room k (A.deeper (envOfC qual scope s.heap.objs.size f (.ref c))) → A.guards = some [] → sp vs H Q E →
      ∃ t, PSs (cxOf CX P w K mg base N qual scope f (.ref c) A outer s H E) body t ∧ t { nx := fun _ H' => Q .non H', rt := Q } (start N vs) H) : GFn P w K mg base CX (k + 1) f fd ps sp := by
  obtain ⟨oc, od, dV, kV, doc, pm, an, cdv, ct, osl, rfl, found, isCode, _, _⟩ := D.ex
  obtain ⟨c, rfl⟩ := He.codeIn_ref isCode
  refine ⟨len, fun A outer s H args us vs Q E room free e0 bound rel h => ?_⟩
  have inK : K.In s.heap := e0.mod.kin.keeps fun b o e => (e0.bs b o e).1
  have roomy : s.heap.NoLimit := e0.mod.nolimit.keeps fun b o e => (e0.bs b o e).1
  have kinds : ∀ y ∈ ps.zip us, scope.names.lookup y.1 = some .local ∨ (scope.names.lookup y.1 = some .cell ∧ ((cellsFrom (s.heap.objs.size + 1) scope.names []).lookup y.1).isSome = true) := by
    rintro ⟨n, v⟩ hy
    exact (S.par n (List.of_mem_zip hy).1).imp id fun c => ⟨c, PySem.W.cellsFrom_some _ _ _ (.inl c)⟩
  refine codeAny_call_function room.depth (inK _ _ found) rfl S.co S.gen rfl (PySem.W.codeRec_of inK isCode) (bound _ _ _ _ (wpAny_newFunctionEnv_cells S.kind kinds ?_))
  rintro env1 rfl s1 into
  refine ⟨roomy.keeps into.toInCall.keep, codeAny_func ?_⟩
  obtain ⟨t, term, reads⟩ := walk c A outer s H vs Q E (fun p e => He.codeOf_eq (by rw [e]; exact found) rfl) (room.deeper _) free h
  have I1 := inv_start (CX := CX) (P := P) (w := w) (K := K) (mg := mg) (base := base) (qual := qual) (f := f) (cd := PySem.Value.ref c) (E := E) S room.hd e0 (len _ _ _ _ h) rel into
  refine wpAny_mono (term.run [] s1 (start N vs) H _ I1 reads) (fun fl s' z => ?_) fun _ _ z => z
  have done : ∀ {v : V} {u : PySem.Value} {H' : Hp} {σ' : L2.St}, L2.Inv (cxOf CX P w K mg base N qual scope f (.ref c) A outer s H E) [] σ' H' s' → RelV v u → Q v H' → CE outer P w H s Q u s' :=
    fun {v u H' σ'} J r q => ⟨v, H', J.os, J.bare, J.base, J.hok, r, q⟩
  match fl, z with
  | .ret _, ⟨v, _, H', J, r, q⟩ => exact done J r q
  | .next, ⟨_, H', J, q⟩ => exact done (v := V.non) J rfl q
  | .brk, ⟨_, _, _, q⟩ => exact q.elim
  | .cont, ⟨_, _, _, q⟩ => exact q.elim
end
section
variable {X : Cx} {CX : CXT} {k : Nat} {f C : Addr} {fd : FuncData} {ps : List Str} {sp : Sp} {E : XK} {x m : Str} {p pos apos : Pos} {e o : Expr} {es : List Expr} {ta : TE} {t : TA}
theorem run_fnG {pins : List (Addr × Obj)} {σ : L2.St} {H : Hp} {s : Shared} {Q : VK} {us : List PySem.Value} {vs : List V} (F : GFn X.prog X.w X.K X.mg X.base CX k f fd ps sp) (hG : X.A.guards = some []) (hr : Room k X.A) (hb : L2.Binds X.K fd ps []) (hx : Passes CX X E)
    (I : L2.Inv X pins σ H s) (r : Vals vs us) (h : sp vs H Q E) : wpAny (model X.prog X.w) X.A (call (.ref f) us) (EP X pins σ Q) X.xe s := by
  have hl : (us ++ []).length = ps.length := by
    rw [List.append_nil, ← r.length]
    exact F.len _ _ _ _ h
  have b := hb s us I.kIn hl
  rw [List.append_nil] at b
  refine wpAny_call (codeAny_mono (F.run X.A X.stack s H ⟨us, []⟩ us vs Q E hr hG I.env0 b r h) fun r s' hq => ?_)
  cases r with
  | error e => exact hx pins σ H s e s' I hq
  | ok fl =>
    cases fl with
    | ret u => exact I.after hq
    | next => exact False.elim hq
    | brk => exact False.elim hq
    | cont => exact False.elim hq
theorem pe_callG (F : GFn X.prog X.w X.K X.mg X.base CX k f fd ps sp) (hG : X.A.guards = some []) (hr : Room k X.A) (hg : Gl X x) (hm : X.mg x = some (.ref f)) (hk : PySem.W.keepIn X.K (.ref f) = true) (hb : L2.Binds X.K fd ps []) (hx : Passes CX X E)
    (ha : PA X (e :: es) t) (hdb : (x == ("__debug__" : Str)) = false := by decide) (he : starEach (e :: es) X.env = (false, eval e X.env) :: starEach es X.env := by rfl) (hpl : (backTo pos (starEach es X.env)).any (·.1) = false := by rfl) :
    PE X (.Call (.Name x p) (e :: es) [] pos) (fun σ H Q => t σ H fun vs H1 => sp vs H1 Q E) := by
  refine ⟨fun pins s σ H Q I h => ?_⟩
  refine wpAny_Call_Name_kw (ld_glob I hg hm ?_ hdb)
  refine PySem.W.callWith_K (h₀ := X.base) I.ok.mod.kin hk (thn (ha.run pos pins s σ H _ I h) fun us s1 ⟨vs, H1, I1, r, q⟩ => ⟨I1.kIn, ?_⟩) he hpl
  exact run_fnG F hG hr hb hx I1 r q
def tMakeG (C : Addr) (sp : Sp) (E : XK) (t : TA) : TE := fun σ H Q => t σ H fun vs H1 => ∀ x dx, H1 x = none → H1 dx = none → dx ≠ x →
  sp (.ref x :: vs) (upd (upd H1 dx (.own x)) x (.ins C dx [])) (fun v H2 => v = .non ∧ Q (.ref x) H2) E
/-- for exceptions that look at the heap from which the call was made: a promise of the class's call as a whole -/
theorem run_makeG {pins : List (Addr × Obj)} {σ : L2.St} {H : Hp} {s : Shared} {Q : VK} {us : List PySem.Value} {vs : List V} (M : Mk X.K C f) (F : GFn X.prog X.w X.K X.mg X.base CX k f fd ps sp) (hG : X.A.guards = some []) (hr : Room (k + 1) X.A) (hb : L2.Binds X.K fd ps [])
    (hx : Passes CX X E) (I : L2.Inv X pins σ H s) (r : Vals vs us)
    (h : ∀ x dx, H x = none → H dx = none → dx ≠ x → sp (.ref x :: vs) (upd (upd H dx (.own x)) x (.ins C dx [])) (fun v H2 => v = .non ∧ Q (.ref x) H2) E) :
    wpAny (model X.prog X.w) X.A (call (.ref C) us) (EP X pins σ Q) X.xe s := by
  have hq := h (s.heap.objs.size + 1) s.heap.objs.size (I.hok.fresh (Nat.le_succ _)) (I.hok.fresh (Nat.le_refl _)) (Nat.ne_of_lt (Nat.lt_succ_self _))
  have I2 := Inv.made (C := C) I
  have r2 : Vals (V.ref (s.heap.objs.size + 1) :: vs) (PySem.Value.ref (s.heap.objs.size + 1) :: us) := .cons rfl r
  have hl : (PySem.Value.ref (s.heap.objs.size + 1) :: us ++ []).length = ps.length := by
    have e := r2.length
    rw [F.len _ _ _ _ hq] at e
    rw [List.append_nil]
    exact e.symm
  have b := hb { s with heap := _ } (PySem.Value.ref (s.heap.objs.size + 1) :: us) I2.kIn hl
  rw [List.append_nil] at b
  have hG2 : (X.A.under (.builtin "type.__call__" ⟨.ref C :: us, []⟩)).guards = some [] := by
    have e1 : (Code.builtin "type.__call__" ⟨.ref C :: us, []⟩).guards = [] := by
      have e2 : (Code.builtin "type.__call__" ⟨.ref C :: us, []⟩).isGuard = false := by
        show guardIds.contains "type.__call__" = false
        decide +kernel
      unfold Code.guards
      rw [e2]
      rfl
    show pushGuards (Code.builtin "type.__call__" ⟨.ref C :: us, []⟩).guards X.A.guards = some []
    rw [e1, hG]
    first | rfl | (rw [pushGuards_eq]; rfl)
  refine wpAny_call (make_map (f := f) I.kIn M.makes M.init (beq_iff_eq.mp M.fn) (codeAny_mono (F.run _ X.stack _ _ ⟨PySem.Value.ref (s.heap.objs.size + 1) :: us, []⟩ (PySem.Value.ref (s.heap.objs.size + 1) :: us) _ _ E (hr.make C us []) hG2
    (I2.env0.make C us []) b r2 hq) fun r s' hq' => ?_))
  cases r with
  | error e => exact hx pins σ _ _ e s' I2 hq'
  | ok fl =>
    cases fl with
    | ret u =>
      obtain ⟨v, H', I3, rv, ev, q3⟩ := I2.after hq'
      subst ev
      exact ⟨rv, ⟨V.ref (s.heap.objs.size + 1), H', I3, rfl, q3⟩⟩
    | next => exact False.elim hq'
    | brk => exact False.elim hq'
    | cont => exact False.elim hq'
theorem pe_makeG (M : Mk X.K C f) (F : GFn X.prog X.w X.K X.mg X.base CX k f fd ps sp) (hG : X.A.guards = some []) (hr : Room (k + 1) X.A) (hg : Gl X x) (hm : X.mg x = some (.ref C)) (hb : L2.Binds X.K fd ps []) (hx : Passes CX X E)
    (ha : PA X (e :: es) t) (hdb : (x == ("__debug__" : Str)) = false := by decide) (he : starEach (e :: es) X.env = (false, eval e X.env) :: starEach es X.env := by rfl) (hpl : (backTo pos (starEach es X.env)).any (·.1) = false := by rfl) :
    PE X (.Call (.Name x p) (e :: es) [] pos) (tMakeG C sp E t) := by
  refine ⟨fun pins s σ H Q I h => ?_⟩
  refine wpAny_Call_Name_kw (ld_glob I hg hm ?_ hdb)
  refine PySem.W.callWith_K (h₀ := X.base) I.ok.mod.kin M.kp (thn (ha.run pos pins s σ H _ I h) fun us s1 ⟨vs, H1, I1, r, q⟩ => ⟨I1.kIn, ?_⟩) he hpl
  exact run_makeG M F hG hr hb hx I1 r q
end
end Tr
namespace Tr
open PySem PySem.Spec PyProof.Rows L2 LamX AK
section
variable {prog : Program} {w : World} {A : Around} {E : PySem.Value → Shared → Prop} {s : Shared} {Q : PySem.Value → Shared → Prop}
theorem repr_any {v : PySem.Value} {d : PyData} {as : List Addr} (r : Reads s.heap v d as) (hs : d.showable = true) (nd : d.hasDict = false) (free : A.guards = some []) (hu : A.units + (d.depth + 1) < cLine) (short : d.shown.length ≤ sizeLine)
    (hQ : ∀ h' u tk, (∀ b o, s.heap.get? b = some o → h'.get? b = some o) → Q (.str d.shown u) { s with heap := h', toks := tk }) : wpAny (model prog w) A (call (.builtin "repr") [v]) Q E s := by
  cases r with
  | none => exact P.repr_of_none (hQ s.heap _ _ fun _ _ e => e)
  | bool b => exact P.repr_of_bool (hQ s.heap _ _ fun _ _ e => e)
  | int i t => exact P.repr_of_int (of_decide_eq_true hs) (hQ s.heap _ _ fun _ _ e => e)
  | str x t => exact P.repr_of_str (hQ s.heap _ _ fun _ _ e => e) short
  | list h1 h2 h3 h4 => exact repr_of_reads' (.list h1 h2 h3 h4) hs (PyData.noDict_hsm nd) free hu (fun _ _ e => e) hQ short
  | tuple h1 h2 h3 h4 => exact repr_of_reads' (.tuple h1 h2 h3 h4) hs (PyData.noDict_hsm nd) free hu (fun _ _ e => e) hQ short
  | dict _ _ _ _ _ => cases nd
end
/-- repr(x) of any data -/
def rShowV (K : PySem.W.Frag) : List V → Hp → VK → Prop := fun xs H Q => ∃ (x : V) (d : PyData), xs = [x] ∧ Dp K H x d ∧ d.showable = true ∧ d.hasDict = false ∧ d.depth ≤ 60 ∧ d.shown.length ≤ sizeLine ∧ Q (.str d.shown) H
theorem call_showV {Y : Cx} (free : Y.A.guards = some []) (hu : Y.A.units + 64 < cLine) : CallR Y (.builtin "repr") (rShowV Y.K) := by
  intro pins s σ H xs us Q I rel h
  obtain ⟨x, d, rfl, hd, hs, nd, deep, short, q⟩ := h
  obtain ⟨u, rfl, ru⟩ := vals1 rel
  obtain ⟨as, rd⟩ := Dp.reads I d x u hd ru
  refine repr_any rd hs nd free (by omega) short (fun h' t' tk keep => ?_)
  exact ⟨.str d.shown, H, I.kept (t' := tk) keep, ⟨_, rfl⟩, q⟩
/-! ### sorted(x, key=lambda n: repr(n)) -/
abbrev Vd := V × PyData
def srt (xs : List Vd) : List Vd := xs.mergeSort (PySem.W.dataLe false fun x : Vd => .str x.2.shown)
theorem srt_perm (xs : List Vd) : (srt xs).Perm xs := List.mergeSort_perm _ _
theorem srt_len (xs : List Vd) : (srt xs).length = xs.length := (srt_perm xs).length_eq
theorem ExtN.rd {H H' : Hp} (e : ExtN H H') {a : Addr} {o : HO} (n : ∀ ps, o ≠ .tbl ps) (h : Rd H a o) : Rd H' a o := h.elim (fun h => .inl (e _ _ h n)) fun ⟨u, h⟩ => .inr ⟨u, e _ _ h fun ps z => nomatch z⟩
theorem ExtN.tups {H H' : Hp} (e : ExtN H H') : Tups H H' := fun a xs h => ExtN.rd e (fun ps z => nomatch z) h
theorem ExtN.seq {K : PySem.W.Frag} {H H' : Hp} (e : ExtN H H') {a : Addr} {xs : List V} (h : SqL K H a xs) : SqL K H' a xs := h.elim (fun h => .inl (ExtN.rd e (fun ps z => nomatch z) h)) .inr
theorem ExtN.da {K : PySem.W.Frag} {w : World} {H H' : Hp} (e : ExtN H H') {d : Addr} {es : List Eh} (D : DA K w H d es) : DA K w H' d es :=
  ⟨ExtN.rd e (fun ps z => nomatch z) D.at_, fun x hx => ⟨(D.nk x hx).1.tups (ExtN.tups e), (D.nk x hx).2⟩, D.nd⟩
/-- its items, in order: a list's, a dict's keys -/
def Colls (K : PySem.W.Frag) (w : World) (H : Hp) (x : V) (xs : List V) : Prop := ∃ a, x = .ref a ∧ (SqL K H a xs ∨ ∃ es : List Eh, DA K w H a es ∧ es.map (·.2.1) = xs)
/-- what is known of the things that are shown -/
def ShowOk (K : PySem.W.Frag) (H : Hp) (p : Vd) : Prop := Dp K H p.1 p.2 ∧ p.2.showable = true ∧ p.2.hasDict = false ∧ p.2.depth ≤ 60 ∧ p.2.shown.length ≤ sizeLine ∧ ∃ k, keyD p.2 = some k
theorem ShowOk.tups {K : PySem.W.Frag} {H H' : Hp} {p : Vd} (t : Tups H H') (h : ShowOk K H p) : ShowOk K H' p := by
  obtain ⟨h1, h2, h3, h4, h5, k, h6⟩ := h
  exact ⟨dp_tups t _ _ k h6 h1, h2, h3, h4, h5, k, h6⟩
section
variable {X : Cx} {pins : List (Addr × Obj)} {σ : L2.St} {H : Hp} {s : Shared}
theorem colls_run {x : V} {xs : List V} {r : Addr} {R : List PySem.Value → Shared → Prop} {E : PySem.Value → Shared → Prop} {A : Around} (hh : A.handled = none) (I : L2.Inv X pins σ H s) (c : Colls X.K X.w H x xs) (e : x = .ref r) (hz : xs.length ≤ sizeLine)
    (h : ∀ (h' : Heap) (tk : Nat) (us : List PySem.Value), (∀ b o, s.heap.get? b = some o → h'.get? b = some o) → Vals xs us → R us { s with heap := h', toks := tk }) : wpAny (model X.prog X.w) A (collect (.ref r)) R E s := by
  obtain ⟨a, rfl, c⟩ := c
  cases e
  rcases c with hs | ⟨es, D, rfl⟩
  · obtain ⟨its, rv, pl, _⟩ := I.list hs
    refine collect_list pl.isList ?_ (by rw [← rv.length]; exact hz)
    refine h _ _ its (fun b o q => ?_) rv
    rw [Heap.get?_update_ne _ _ _ _ (Nat.ne_of_lt (Heap.lt_size q))]
    exact Heap.get?_push_of_some _ q
  · obtain ⟨hd, _, us, ⟨⟨o, arr, ep, ho, hc, hdat, he⟩, his, nd⟩, rel⟩ := D.raw I
    have hsz : arr.size = es.length := by
      rw [ent_size he]
      exact (Paired.length rel).symm
    rw [List.length_map] at hz
    refine PySem.W.kdu_collect (KdlSrc.rawDict hd) hh ⟨o, ho, hc, hdat⟩ (by rw [hsz]; exact hz) fun h' tk acc keep items => h h' tk acc.toList keep ?_
    obtain ⟨hl, hi⟩ := items
    have key : acc.toList = us.map (·.2.1) := by
      refine List.ext_getElem? fun i => ?_
      by_cases hlt : i < arr.size
      · obtain ⟨v, h1⟩ : ∃ v, acc.toList[i]? = some v := ⟨_, List.getElem?_eq_getElem (by rw [Array.length_toList, hl]; exact hlt)⟩
        obtain ⟨hlt2, e2⟩ := hi i v (by rw [← Array.getElem?_toList]; exact h1)
        have h3 : arr[i]? = some arr[i] := Array.getElem?_eq_getElem hlt2
        have h4 := ent_at he i
        rw [h3] at h4
        obtain ⟨f, hf1, hf2⟩ := Option.map_eq_some_iff.mp h4.symm
        rw [h1, e2, List.getElem?_map, hf1, ← hf2]
        rfl
      · rw [List.getElem?_eq_none (by rw [Array.length_toList, hl]; omega), List.getElem?_eq_none (by rw [List.length_map, ← ent_size he]; omega)]
    rw [key]
    clear key
    have gen : ∀ {l : List Eh} {m : List En}, Paired (fun (p : Eh) (q : En) => p.1 = q.1 ∧ RelV p.2.1 q.2.1 ∧ RelV p.2.2 q.2.2) l m → Vals (l.map (·.2.1)) (m.map (·.2.1)) := by
      intro l m q
      induction q with
      | nil => exact .nil
      | cons hq t ih => exact .cons hq.2.1 ih
    exact gen rel
end
end Tr
namespace Tr
open PySem PySem.Spec PyProof.Rows L2 LamX AK
/-- the lambda's scope: its one name is local, repr is none of its own -/
structure LamR (scope : Scope) (n : Str) : Prop where
  kind : scope.kind = .function
  co : scope.isCoroutine = false
  gen : scope.isGenerator = false
  loc : scope.names.lookup n = some .local
  rep : scope.names.lookup ("repr" : Str) = some .globalImplicit
  nocell : ∀ y ∈ scope.names, y.2 ≠ .cell
  nofree : ∀ y ∈ scope.names, y.2 ≠ .free
section
variable {X : Cx} {pins : List (Addr × Obj)} {σ : L2.St} {H : Hp} {s : Shared}
/-- the lambda called where all that was there stays -/
theorem lam_repr {f c' : Addr} {pm ctv : PySem.Value} {params : Arguments} {scope : Scope} {n : Str} {p1 p2 p3 : Pos} {k : Nat} {h : Heap} {tk : Nat} {x : V} {v : PySem.Value} {d : PyData} (I : L2.Inv X pins σ H s) (L : LamR scope n) (hr : Room (k + 3) X.A) (free : X.A.guards = some [])
    (hm : X.mg "repr" = none) (hnd : (n == ("__debug__" : Str)) = false)
    (hf : s.heap.get? f = some (PySem.W.kla_obj "<lambda>" (X.env.qual ++ "<lambda>") params (.Call (.Name "repr" p1) [.Name n p2] [] p3) scope (cloFrom X.env.cells scope.names []) pm c' ctv)) (hc : H c' = some (CodeO c' (X.env.qual ++ "<lambda>")))
    (hbind : ∀ (q : Str) (cl : List (Str × Addr)) (pm cv ctv u : PySem.Value), bindArgs (PySem.W.kla_fn "<lambda>" q params (.Call (.Name "repr" p1) [.Name n p2] [] p3) scope cl pm cv ctv) ⟨[u], []⟩ = pure [(n, u)])
    (kept : ∀ b o, s.heap.get? b = some o → h.get? b = some o) (rx : RelV x v) (hd : ShowOk X.K H (x, d)) :
    wpAny (model X.prog X.w) X.A.in1.in1 (call (.ref f) [v]) (PySem.W.KeyPure (.str d.shown) { s with heap := h, toks := tk }) (fun _ _ => False) { s with heap := h, toks := tk } := by
  have J : L2.Inv X pins σ H { s with heap := h, toks := tk } := I.kept kept
  obtain ⟨hD, hs, nd, deep, short, _⟩ := hd
  obtain ⟨as, rd⟩ := Dp.reads J d x v hD rx
  have of1 := kept _ _ hf
  obtain ⟨⟨oc, vs, t, hoc, hdc, hvc⟩, _, _⟩ := J.hok c' _ hc
  have rc : codeAny (model X.prog X.w) X.A.in1.in1 (.call (.ref f) ⟨[v], []⟩) (fun r s' => ∃ u, r = .ok (.ret u) ∧ PySem.W.KeyPure (.str d.shown) { s with heap := h, toks := tk } u s') { s with heap := h, toks := tk } := by
    refine PySem.W.kla_callFunE (hr.in1.in1).depth of1 rfl L.co L.gen rfl ⟨c', oc, vs, t, rfl, hoc, hdc, hvc⟩ ?_
    rw [hbind]
    refine wpAny_pure (wpAny_newFunctionEnv (fun y hy => L.nocell y hy) (fun y hy => by
      obtain rfl : y = (n, v) := by simpa using hy
      exact L.loc) (fun h₁ hns hsb => ⟨J.nolimit.fresh _ hsb, ?_⟩) L.kind)
    have kp : ∀ b o, h.get? b = some o → h₁.get? b = some o := fun b o e => hsb.extBut b o (Nat.ne_of_lt (Heap.lt_size e)) (Heap.get?_push_of_some _ e)
    have J1 : L2.Inv X pins σ H { s with heap := h₁, toks := tk + 1 } := J.kept kp
    show codeAny _ _ (.expr (.Call (.Name "repr" p1) [.Name n p2] [] p3) (PySem.W.envX (X.env.qual ++ "<lambda>") scope h.objs.size f (.ref c') (cloFrom X.env.cells scope.names []))) _ _
    refine PySem.W.kla_codeExpr ?_
    obtain ⟨mb, b1, b2⟩ := J1.mod.blt
    refine wpAny_Call_Name_kw (Calls.Name_function_global L.kind L.rep (Calls.loadGlobal_builtin (J1.mod.glob.keeps J1.bk) hm (b1.keeps J1.bk) ((b2 "repr" (by decide)).trans boot_repr) ?_) (by decide))
    refine PyProof.Rows.callWith_builtin1 (Calls.spliced_cons ?_) rfl rfl
    show wpAny _ _ (eval (.Name n p2) (PySem.W.envX (X.env.qual ++ "<lambda>") scope h.objs.size f (.ref c') (cloFrom X.env.cells scope.names []))) _ _ _
    refine wpAny_Name (wpAny_loadName_local (m := fun y => ([(n, v)] : List (Str × PySem.Value)).reverse.lookup y) L.kind L.loc hns (show ([(n, v)] : List (Str × PySem.Value)).reverse.lookup n = some v by simp) ?_) hnd
    refine Calls.spliced_nil ?_
    have hu := hr.units
    refine repr_any (PyProof.Rows.Reads.keeps kp rd) hs nd (by exact free) (by
      show X.A.units + 1 + 1 + 3 + (d.depth + 1) < cLine
      have := hr.un
      have deep : d.depth ≤ 60 := deep
      omega) short fun h2 u tk2 keep => ?_
    exact ⟨_, rfl, h2, tk2, rfl, fun b o e => keep b o (kp b o e), .str _ _⟩
  refine wpAny_call (codeAny_mono rc fun r s' hq => ?_)
  obtain ⟨u, rfl, q⟩ := hq
  exact q
/-- the whole call's reading -/
def aSortR (K : PySem.W.Frag) (w : World) (T : List (Addr × Str)) (Q : VK) (x : V) (H1 : Hp) : Prop := Tabs T H1 ∧ ∃ xs : List Vd, Colls K w H1 x (xs.map (·.1)) ∧ (∀ q ∈ xs, ShowOk K H1 q) ∧ xs.length ≤ sizeLine ∧
  ∀ H2 p, ExtN H1 H2 → Tabs T H2 → H2 p = none → Q (.ref p) (upd H2 p (.lst ((srt xs).map (·.1))))
def tSortR (K : PySem.W.Frag) (w : World) (T : List (Addr × Str)) (te : TE) : TE := fun σ H Q => te σ H fun x H1 => aSortR K w T Q x H1
def oneOf (R : V → Hp → Prop) : List V → Hp → Prop := fun vs H => match vs with
  | [x] => R x H
  | _ => False
theorem oneOf_is {R : V → Hp → Prop} {vs : List V} {H : Hp} (h : oneOf R vs H) : ∃ x, vs = [x] ∧ R x H := by
  match vs, h with
  | [x], h => exact ⟨x, rfl, h⟩
theorem objok_get {P : Program} {w : World} {H : Hp} {h : Heap} {a : Addr} {o : HO} (x : ObjOk P w H h a o) : ∃ ob, h.get? a = some ob := by
  cases o with
  | lst xs => obtain ⟨_, _, _, _, e⟩ := x; exact ⟨_, e⟩
  | tup xs => obtain ⟨_, _, _, o, e, _⟩ := x; exact ⟨_, e⟩
  | dK kvs => obtain ⟨_, _, _, _, o, _, _, e, _⟩ := x; exact ⟨_, e⟩
  | dT kvs => obtain ⟨_, _, _, _, o, _, _, e, _⟩ := x; exact ⟨_, e⟩
  | set S n => obtain ⟨o, _, _, _, e, _⟩ := x; exact ⟨_, e⟩
  | ins C dx fs => obtain ⟨_, _, _, e, _⟩ := x; exact ⟨_, e⟩
  | own y => exact x
  | xd fs => obtain ⟨_, ⟨_, _, _, e, _⟩, _⟩ := x; exact ⟨_, e⟩
  | rng lo hi => obtain ⟨_, _, _, e⟩ := x; exact ⟨_, e⟩
  | frz ob u => obtain ⟨e, _⟩ := x; exact ⟨_, e⟩
  | tbl ps => exact ⟨_, x⟩
  | met f y => exact ⟨_, x⟩
  | ext φ => obtain ⟨_, e, _⟩ := x; exact e
theorem each_of : ∀ {xs : List Vd} {us : List PySem.Value}, Vals (xs.map (·.1)) us → PySem.W.EachIs (fun (v : PySem.Value) (x : Vd) => RelV x.1 v) us xs
  | [], _, r => by cases r; exact .nil
  | x :: xs, _, r => by
    cases r with
    | cons h t => exact .cons h (each_of t)
theorem of_each : ∀ {xs : List Vd} {us : List PySem.Value}, PySem.W.EachIs (fun (v : PySem.Value) (x : Vd) => RelV x.1 v) us xs → Vals (xs.map (·.1)) us
  | _, _, .nil => .nil
  | _, _, .cons h t => .cons h (of_each t)
theorem boot_sortedN : bootBuiltins ("sorted" : Str) = some (.builtin "sorted") := by decide +kernel
theorem key_kz {xs : List Vd} : ∀ d ∈ xs.map (fun x : Vd => PyData.str x.2.shown), ∃ z, d = .str z := fun d hd => by
  obtain ⟨x, _, rfl⟩ := List.mem_map.mp hd
  exact ⟨_, rfl⟩
theorem pe_sortR {T : List (Addr × Str)} {c P : Addr} {te : TE} {e : PySem.Expr} {params : Arguments} {scope : Scope} {n : Str} {p pos lp kp p1 p2 p3 : Pos} {k : Nat} (he : PE X e te) (TB : TabB X.base X.mg c P) (hcode : X.env.code = .ref c)
    (hmT : (P, X.env.qual ++ "<lambda>") ∈ T) (huT : ∀ p ∈ T, p.1 = P → p.2 = X.env.qual ++ "<lambda>") (L : LamR scope n) (hr : Room (k + 3) X.A) (free : X.A.guards = some []) (hm : X.mg "repr" = none) (hms : X.mg "sorted" = none) (hgs : Gl X "sorted")
    (hnd : (n == ("__debug__" : Str)) = false) (hdef : defaultsOf params X.env = ([], []))
    (hbind : ∀ (q : Str) (cl : List (Str × Addr)) (pm cv ctv u : PySem.Value), bindArgs (PySem.W.kla_fn "<lambda>" q params (.Call (.Name "repr" p1) [.Name n p2] [] p3) scope cl pm cv ctv) ⟨[u], []⟩ = pure [(n, u)])
    (hst : starEach [e] X.env = (false, eval e X.env) :: starEach [] X.env := by rfl) :
    PE X (.Call (.Name "sorted" p) [e] [⟨some "key", .Lambda params (.Call (.Name "repr" p1) [.Name n p2] [] p3) scope lp, kp⟩] pos) (tSortR X.K X.w T te) := by
  refine ⟨fun pins s σ H Q I h => ?_⟩
  refine wpAny_Call_Name_kw (ld_blt I hgs hms boot_sortedN ?_ (by decide))
  refine PyProof.Rows.callWith_kw (thn ((pa_cons he pa_nil hst).run pos pins s σ H (oneOf (aSortR X.K X.w T Q)) I h) fun xsv s1 ⟨vs, H1, I1, rvs, one⟩ => ?_) (by rw [hst] <;> rfl) (by rw [hst] <;> rfl) rfl rfl
  obtain ⟨x, rfl, hT, xs, hC, hS, hz, q1⟩ := oneOf_is one
  obtain ⟨xv, rfl, rx⟩ := vals1 rvs
  show wpAny _ _ (evalAll [do let v ← eval (.Lambda params (.Call (.Name "repr" p1) [.Name n p2] [] p3) scope lp) X.env; standAt pos; pure v]) _ _ s1
  refine wpAny_evalAll_cons (wpAny_bind (lam_make2 I1 TB hcode hmT huT hT hdef (fun y hy e => absurd e (L.nofree y hy)) fun f c' pm ctv H2 s2 I2 ext hT2 hf hfn hfr hco => ?_))
  refine wpAny_bind (wpAny_standAt (wpAny_pure (wpAny_evalAll_nil ?_)))
  obtain ⟨r, rfl, hC⟩ := hC
  cases rx
  have hC2 : Colls X.K X.w H2 (.ref r) (xs.map (·.1)) := ⟨r, rfl, hC.elim (fun z => .inl (ExtN.seq ext z)) fun ⟨es, D, e⟩ => .inr ⟨es, ExtN.da ext D, e⟩⟩
  have hS2 : ∀ q ∈ xs, ShowOk X.K H2 q := fun q hq => (hS q hq).tups (ExtN.tups ext)
  show wpAny _ _ (call (.builtin "sorted") [.ref r] [(Str.ofString "key", .ref f)]) _ _ s2
  have hz2 : (xs.map (·.1)).length ≤ sizeLine := by
    rw [List.length_map]
    exact hz
  refine call_function_entry_kw PyProof.Rows.kind_sorted PyProof.Rows.plain_sorted PyProof.Rows.entry_sorted (PyProof.Rows.ksk_s1 _ _) ?_
  unfold Builtin.«sorted»
  refine wpAny_bind (m := checkCount "sorted" 1 1 _) (wpAny_pure ?_)
  refine wpAny_bind (colls_run (A := X.A.in1) hr.hd I2 hC2 rfl hz2 fun h' tk us keep rel => ?_)
  have hus : us.length = xs.length := by
    rw [← rel.length, List.length_map]
  refine wpAny_bind (wpAny_newList ?_ (by rw [hus]; exact hz))
  have at1 : (h'.push (seqObj "list" us.toArray 0)).get? h'.objs.size = some (seqObj "list" us.toArray 0) := Heap.get?_push_size _ rfl
  have keep1 : ∀ b o, s2.heap.get? b = some o → b ≠ h'.objs.size ∧ (h'.push (seqObj "list" us.toArray 0)).get? b = some o := fun b o e => ⟨Nat.ne_of_lt (Heap.lt_size (keep b o e)), Heap.get?_push_of_some _ (keep b o e)⟩
  refine wpAny_bind (wpAny_holding (wpAny_call_entry_kw PyProof.Rows.slot_list_sort ⟨_, at1, rfl⟩ PyProof.Rows.entry_list_sort ?_ (PyProof.Rows.ksk_l1 _ _)))
  rw [PyProof.Rows.ksk_t1]
  have alk : PySem.W.AllAlike (xs.map fun x : Vd => PyData.str x.2.shown) := fun d hd d' hd' => by
    obtain ⟨z, rfl⟩ := key_kz d hd
    obtain ⟨z', rfl⟩ := key_kz d' hd'
    rfl
  have srtb : PySem.W.Sortable (xs.map fun x : Vd => PyData.str x.2.shown) := .inr fun d hd => by
    obtain ⟨z, rfl⟩ := key_kz d hd
    exact ⟨(fun e => nomatch e), (fun _ e => nomatch e)⟩
  have eu := each_of rel
  refine PySem.W.keyH_tree (A := X.A.in1.in1) (b := false) (kz := xs.map fun x : Vd => PyData.str x.2.shown) (vs := us) (s := { s2 with heap := h'.push (seqObj "list" us.toArray 0), toks := tk }) at1 (by rw [List.length_map, hus]) (by rw [hus]; exact hz) alk srtb (fun d hd => ?_)
    (PySem.W.keyH_turns (bs := xs) (k := fun x : Vd => PyData.str x.2.shown) (s := { s2 with heap := h'.push (seqObj "list" us.toArray 0), toks := tk }) eu fun v x hR hx g tk2 kp => ?_) fun h3 tk3 out c3 kp hD ko => ?_
  · obtain ⟨z, rfl⟩ := key_kz d hd
    have := hr.un
    show X.A.units + 1 + 1 + 0 < cLine
    omega
  · exact lam_repr (s := s2) (h := g) (tk := tk2) I2 L hr free hm hnd hf hco hbind (fun b o e => kp b o (keep1 b o e).1 (keep1 b o e).2) hR (hS2 x hx)
  · have eo := of_each (PySem.W.keyedOut_each (fun x : Vd => PyData.str x.2.shown) ko eu)
    have np : ∀ o, s2.heap.get? h'.objs.size ≠ some o := fun o e => Nat.lt_irrefl _ (Heap.lt_size (keep _ _ e))
    have n1 : s2.heap.get? h'.objs.size = none := by
      cases q : s2.heap.get? h'.objs.size with
      | none => rfl
      | some o => exact absurd q (np o)
    have n2 : H2 h'.objs.size = none := by
      cases q : H2 h'.objs.size with
      | none => rfl
      | some o =>
        obtain ⟨ob, e⟩ := objok_get (I2.hok _ _ q)
        exact absurd e (np ob)
    refine ⟨_, rfl, wpAny_pure ⟨_, rfl, .ref h'.objs.size, _, I2.laidN (t' := tk3) (fun b o e => kp b o (keep1 b o e).1 (keep1 b o e).2) n1 n2 (show ObjOk X.prog X.w _ h3 _ (.lst ((srt xs).map (·.1))) from ⟨?_, out, c3, eo, hD⟩), rfl, q1 H2 _ ext hT2 n2⟩⟩
    rw [List.length_map, srt_len]
    exact hz
end
end Tr
namespace Tr
open PySem PySem.Spec PyProof.Rows L2 AK
/-- the type of a datum -/
def tyD : PyData → String
  | .none => "NoneType"
  | .bool _ => "bool"
  | .int _ => "int"
  | .str _ => "str"
  | .list _ => "list"
  | .tuple _ => "tuple"
  | .dict _ => "dict"
/-- isinstance(x, c), x a datum, c a built-in type -/
def rIsD (K : PySem.W.Frag) : List V → Hp → VK → Prop := fun xs H Q => ∃ (x : V) (c : String) (d : PyData) (b : Bool), xs = [x, .ty c] ∧ Dp K H x d ∧ kitB (tyD d) c = some b ∧ Q (.bl b) H
theorem call_isD {X : Cx} : CallR X (.builtin "isinstance") (rIsD X.K) := by
  intro pins s σ H xs us Q I r h
  obtain ⟨x, c, d, b, rfl, hD, e, q⟩ := h
  obtain ⟨u1, u2, rfl, r1, r2⟩ := vals2 r
  obtain rfl : u2 = PySem.Value.type c := r2
  have kit : ∃ P : Heap → Prop, PySem.W.KitX X.K u1 (.type (tyD d)) P ∧ P s.heap ∧ u1 ≠ .builtin "__main__.__loader__#opaque" := by
    cases hD with
    | non => cases (show u1 = PySem.Value.none from r1); exact ⟨_, PySem.W.kitx_none, True.intro, fun z => nomatch z⟩
    | bl y => cases (show u1 = PySem.Value.bool y from r1); exact ⟨_, PySem.W.kitx_bool, True.intro, fun z => nomatch z⟩
    | int i => obtain ⟨t, rfl⟩ := r1; exact ⟨_, PySem.W.kitx_int, True.intro, fun z => nomatch z⟩
    | str y => obtain ⟨t, rfl⟩ := r1; exact ⟨_, PySem.W.kitx_str, True.intro, fun z => nomatch z⟩
    | lst hs ha =>
      cases r1
      obtain ⟨its, rv, ⟨o, n, ho, hc, _⟩, _⟩ := I.list hs
      exact ⟨_, PySem.W.kitx_list, ⟨o, ho, hc⟩, fun z => nomatch z⟩
    | tup hs ha =>
      cases r1
      obtain ⟨its, rv, ⟨o, ho, hc, _⟩, _⟩ := I.tuple hs
      exact ⟨_, PySem.W.kitx_tuple, ⟨o, ho, hc⟩, fun z => nomatch z⟩
  obtain ⟨P, Z, p, hx⟩ := kit
  exact PySem.W.kia_one Z I.kIn p (kit_ty e) hx fun tk => ⟨.bl b, H, I.tok tk, rfl, q⟩
def isIntD : PyData → Bool
  | .int _ => true
  | _ => false
def isTupD : PyData → Bool
  | .tuple _ => true
  | _ => false
def notBoolD : PyData → Bool
  | .bool _ => false
  | _ => true
theorem kit_int (d : PyData) (nd : ∀ kvs, d ≠ .dict kvs) : ∃ b, kitB (tyD d) "int" = some b ∧ (b = true → ∃ c, kitB (tyD d) "bool" = some c ∧ (!c) = isIntD d) ∧ (b = false → isIntD d = false) := by
  have k1 : kitB "NoneType" "int" = some false := by decide +kernel
  have k2 : kitB "bool" "int" = some true := by decide +kernel
  have k3 : kitB "int" "int" = some true := by decide +kernel
  have k4 : kitB "str" "int" = some false := by decide +kernel
  have k5 : kitB "list" "int" = some false := by decide +kernel
  have k6 : kitB "tuple" "int" = some false := by decide +kernel
  have k7 : kitB "bool" "bool" = some true := by decide +kernel
  have k8 : kitB "int" "bool" = some false := by decide +kernel
  cases d with
  | none => exact ⟨false, k1, nofun, fun _ => rfl⟩
  | bool b => exact ⟨true, k2, fun _ => ⟨true, k7, rfl⟩, nofun⟩
  | int i => exact ⟨true, k3, fun _ => ⟨false, k8, rfl⟩, nofun⟩
  | str x => exact ⟨false, k4, nofun, fun _ => rfl⟩
  | list xs => exact ⟨false, k5, nofun, fun _ => rfl⟩
  | tuple xs => exact ⟨false, k6, nofun, fun _ => rfl⟩
  | dict kvs => exact absurd rfl (nd kvs)
theorem kit_tup (d : PyData) (nd : ∀ kvs, d ≠ .dict kvs) : kitB (tyD d) "tuple" = some (isTupD d) := by
  have k1 : kitB "NoneType" "tuple" = some false := by decide +kernel
  have k2 : kitB "bool" "tuple" = some false := by decide +kernel
  have k3 : kitB "int" "tuple" = some false := by decide +kernel
  have k4 : kitB "str" "tuple" = some false := by decide +kernel
  have k5 : kitB "list" "tuple" = some false := by decide +kernel
  have k6 : kitB "tuple" "tuple" = some true := by decide +kernel
  cases d with
  | none => exact k1
  | bool b => exact k2
  | int i => exact k3
  | str x => exact k4
  | list xs => exact k5
  | tuple xs => exact k6
  | dict kvs => exact absurd rfl (nd kvs)
theorem dp_nodict {K : PySem.W.Frag} {H : Hp} {v : V} {d : PyData} (h : Dp K H v d) : ∀ kvs, d ≠ .dict kvs := by
  intro kvs e
  subst e
  cases h
/-- called with a datum: whether it is such a one -/
def spAsk (f : PyData → Bool) (K : PySem.W.Frag) : Sp := fun vs H Q _ => ∃ (v : V) (d : PyData), vs = [v] ∧ Dp K H v d ∧ Q (.bl (f d)) H
theorem spAsk_len {f : PyData → Bool} {K : PySem.W.Frag} {x : Str} {vs : List V} {H : Hp} {Q : VK} {E : XK} (h : spAsk f K vs H Q E) : vs.length = [x].length := by
  obtain ⟨v, d, rfl, _⟩ := h
  rfl
end Tr
namespace Tr
open PySem PySem.Spec PyProof.Rows L2 Pen
/-! ### what __init__ of an own error bears: each parameter stored under its name -/
def spI (C : Addr) (fs : List Str) : Sp := fun vs H Q _ => ∃ (a : Addr) (ws : List V), vs = .ref a :: ws ∧ ws.length = fs.length ∧ H a = some (exo a C none) ∧
  ∀ (H' : Hp) (d : Addr), H d = none → H' a = some (exo a C (some d)) → H' d = some (exd d (fs.zip ws).reverse) → But a H H' → Q .non H'
theorem spI_len {C : Addr} {fs : List Str} {vs : List V} {H : Hp} {Q : VK} {E : XK} (h : spI C fs vs H Q E) : vs.length = (("self" : Str) :: fs).length := by
  obtain ⟨a, ws, rfl, hl, _⟩ := h
  exact congrArg Nat.succ hl
theorem XoAt.keep {H H' : Hp} {a C : Addr} {fs : Option (List (Str × V))} (x : XoAt H a C fs) (s : Same H H') : XoAt H' a C fs := by
  cases fs with
  | none => exact s _ _ x
  | some l =>
    obtain ⟨d, e1, e2⟩ := x
    exact ⟨d, s _ _ e1, s _ _ e2⟩
theorem same_new {H H1 : Hp} {a : Addr} {o : HO} (n : H a = none) (b : But a (upd H a o) H1) : Same H H1 := fun c u e => by
  have ne := ne_of_none e n
  exact b c u (by rw [upd_ne ne]; exact e) ne
/-- the first field -/
theorem xo_first {H : Hp} {a C d : Addr} {f : Str} {v : V} (hd : H d = none) (hne : d ≠ a) : XoAt (upd (upd H d (exd d [(f, v)])) a (exo a C (some d))) a C (some [(f, v)]) :=
  ⟨d, upd_same, by rw [upd_ne hne, upd_same]⟩
theorem but_first {H : Hp} {a C d : Addr} {f : Str} {v : V} (hd : H d = none) : But a H (upd (upd H d (exd d [(f, v)])) a (exo a C (some d))) := fun b o e n => by
  rw [upd_ne n, upd_ne (ne_of_none e hd)]
  exact e
/-- a class of errors, all that a body asks -/
structure Er (P : Program) (w : World) (K : PySem.W.Frag) (mg : Str → Option PySem.Value) (base : Heap) (x : Str) (C : Addr) (fs : List Str) : Prop where
  t : Xc K C
  no : ∀ f ∈ fs, PySem.W.findIn K (.ref C) f = some none
  mgx : mg x = some (.ref C)
  ini : ∃ fI fd, PySem.W.findIn K (.ref C) "__init__" = some (some (.ref fI)) ∧ PySem.W.typeIn K (.ref fI) = some (.type "function") ∧ FnOk P w K mg base CX0 1 fI fd ("self" :: fs) (spI C fs) ∧ L2.Binds K fd ("self" :: fs) []
/-- raise x(e, ..) -/
theorem pmk_er {X : Cx} {k : Nat} {x : Str} {C : Addr} {fs : List Str} {ta : TA} {e : PySem.Expr} {es : List PySem.Expr} {p pos : Pos} (T : Er X.prog X.w X.K X.mg X.base x C fs) (hr : Room (k + 2) X.A) (hg : Gl X x) (ha : PA X (e :: es) ta)
    (hdb : (x == ("__debug__" : Str)) = false := by decide) (he : starEach (e :: es) X.env = (false, eval e X.env) :: starEach es X.env := by rfl) (hpl : (backTo pos (starEach es X.env)).any (·.1) = false := by rfl) :
    PMk X (.Call (.Name x p) (e :: es) [] pos) (tMkO C (spI C fs) [] ta) := by
  obtain ⟨fI, fd, i1, i2, F, b⟩ := T.ini
  exact pmk_oex (p := p) (pos := pos) T.t.o i1 i2 F (hr.mono (by omega)) b .nil pass0 hg T.mgx ha hdb he hpl
/-- .. what is to be shown then: cls is the class, its dict is new -/
theorem raise_sp {C : Addr} {fs : List Str} {vs : List V} {H1 : Hp} {Q : XK} (z1 : vs.length = fs.length) (z0 : fs.length ≤ 10) (z3 : ∀ d, H1 d = none → ∀ H2, Same H1 H2 → H2 d = some (.xd (fs.zip vs).reverse) → Q (.ref C) (some d) H2) :
    vs.length ≤ 1000 ∧ ∀ a, H1 a = none → spI C fs (.ref a :: (vs ++ [])) (upd H1 a (exo a C none)) (fun v H2 => v = .non ∧ ∃ (d : Addr) (gs : List (Str × V)), H2 a = some (exo a C (some d)) ∧ H2 d = some (exd d gs) ∧ H1 d = none ∧ Q (.ref C) (some d) (upd (del H2 a) d (.xd gs))) (fun _ _ _ => False) := by
  refine ⟨by omega, fun a na => ⟨a, vs, by rw [List.append_nil], z1, upd_same, fun H' d hd e1 e2 but => ⟨rfl, d, _, e1, e2, ?_, ?_⟩⟩⟩
  · by_cases eda : d = a
    · subst eda
      exact na
    · rw [upd_ne eda] at hd
      exact hd
  · have nda : d ≠ a := by
      rintro rfl
      rw [upd_same] at hd
      cases hd
    have hd1 : H1 d = none := by
      rw [upd_ne nda] at hd
      exact hd
    refine z3 d hd1 _ (fun b o e => ?_) upd_same
    have nb : b ≠ a := ne_of_none e na
    rw [upd_ne (ne_of_none e hd1)]
    show del H' a b = some o
    unfold del
    rw [if_neg nb]
    exact but b o (by rw [upd_ne nb]; exact e) nb
end Tr
namespace Tr
open PySem PySem.Spec PyProof.Rows L2 AK Pen
/-- a value is looked at, else the error C is raised with the fields that are told -/
def spCheck (K : PySem.W.Frag) (f : PyData → Bool) (C : Addr) (fs : V → List (Str × V)) : Sp := fun vs H Q E => ∃ v d, vs = [v] ∧ Dp K H v d ∧ (f d = true → Q .non H) ∧ (f d = false → ∀ dd H2, H dd = none → Same H H2 → H2 dd = some (.xd (fs v)) → E (.ref C) (some dd) H2)
theorem spCheck_len {K : PySem.W.Frag} {f : PyData → Bool} {C : Addr} {fs : V → List (Str × V)} {x : Str} {vs : List V} {H : Hp} {Q : VK} {E : XK} (h : spCheck K f C fs vs H Q E) : vs.length = [x].length := by
  obtain ⟨v, d, rfl, _⟩ := h
  rfl
theorem same_refl {H : Hp} : Same H H := fun _ _ e => e
theorem same_trans {H H1 H2 : Hp} (a : Same H H1) (b : Same H1 H2) : Same H H2 := fun c o e => b c o (a c o e)
theorem same_upd {H : Hp} {a : Addr} {o : HO} (n : H a = none) : Same H (upd H a o) := fun b u e => by
  rw [upd_ne (ne_of_none e n)]
  exact e
theorem same_rd {H H' : Hp} (s : Same H H') {a : Addr} {o : HO} (h : Rd H a o) : Rd H' a o := h.elim (fun h => .inl (s _ _ h)) fun ⟨u, h⟩ => .inr ⟨u, s _ _ h⟩
mutual
theorem dp_same {K : PySem.W.Frag} {H H' : Hp} (s : Same H H') : ∀ (d : PyData) (v : V), Dp K H v d → Dp K H' v d
  | .none, _, h => by cases h; exact .non
  | .bool b, _, h => by cases h; exact .bl b
  | .int i, _, h => by cases h; exact .int i
  | .str x, _, h => by cases h; exact .str x
  | .list ds, _, h => by
    cases h with
    | lst hs ha => exact .lst (hs.elim (fun z => .inl (same_rd s z)) .inr) (dps_same s ds _ ha)
  | .tuple ds, _, h => by
    cases h with
    | tup hs ha => exact .tup (hs.elim (fun z => .inl (same_rd s z)) .inr) (dps_same s ds _ ha)
  | .dict _, _, h => by cases h
theorem dps_same {K : PySem.W.Frag} {H H' : Hp} (s : Same H H') : ∀ (ds : List PyData) (vs : List V), DpAll K H vs ds → DpAll K H' vs ds
  | [], _, h => by cases h; exact .nil
  | d :: ds, _, h => by
    cases h with
    | cons h1 h2 => exact .cons (dp_same s d _ h1) (dps_same s ds _ h2)
end
theorem but_of_same {a : Addr} {H H1 H2 : Hp} (s : Same H H1) (b : But a H1 H2) : But a H H2 := fun c o e n => b c o (s c o e) n
end Tr

set_option Elab.async false
set_option linter.all false
set_option maxRecDepth 100000
set_option maxHeartbeats 4000000
namespace Tr
open PySem PySem.Spec PyProof.Rows L2 AK Pen LamX
theorem yes_if {σ : L2.St} {H : Hp} {A B : Hp → Prop} (h : A H) : tYes σ H (fun b H => if b = true then A H else B H) := by
  show (if true = true then A H else B H)
  rw [if_pos rfl]
  exact h
theorem at_new {T : Hp → Prop} {H1 : Hp} (h : ∀ H2, H2 = H1 → T H2) : T H1 := h H1 rfl
theorem rd_nil {σ : L2.St} {H : Hp} {Q : List V → Hp → Prop} (h : Q [] H) : tNil σ H Q := h
theorem dps_len {K : PySem.W.Frag} : ∀ {xs : List V} {ds : List PyData} {H : Hp}, DpAll K H xs ds → xs.length = ds.length
  | [], _, _, h => by cases h; rfl
  | x :: xs, _, _, h => by
    cases h with
    | cons _ t => exact congrArg Nat.succ (dps_len t)
/-- all but these stay -/
def Stay (S : Addr → Prop) (H H' : Hp) : Prop := ∀ b o, H b = some o → ¬ S b → H' b = some o
theorem Stay.rfl' {S : Addr → Prop} {H : Hp} : Stay S H H := fun _ _ e _ => e
theorem Stay.of {S : Addr → Prop} {H H' : Hp} (s : Same H H') : Stay S H H' := fun b o e _ => s b o e
theorem Stay.trans {S : Addr → Prop} {H H1 H2 : Hp} (a : Stay S H H1) (b : Stay S H1 H2) : Stay S H H2 := fun c o e n => b c o (a c o e n) n
theorem Stay.mono {S S' : Addr → Prop} {H H1 : Hp} (a : Stay S H H1) (h : ∀ b, S b → S' b) : Stay S' H H1 := fun c o e n => a c o e fun z => n (h c z)
theorem Stay.upd {S : Addr → Prop} {H H1 : Hp} {p : Addr} {o : HO} (a : Stay S H H1) (h : S p) : Stay S H (L2.upd H1 p o) := fun c u e n => by
  have ne : c ≠ p := by
    rintro rfl
    exact n h
  rw [upd_ne ne]
  exact a c u e n
theorem Stay.new {S : Addr → Prop} {H H1 : Hp} {p : Addr} {o : HO} (a : Stay S H H1) (h : H p = none) : Stay S H (L2.upd H1 p o) := fun c u e n => by
  rw [upd_ne (ne_of_none e h)]
  exact a c u e n
/-- what changes are no tuples -/
theorem Stay.tups {S : Addr → Prop} {H H' : Hp} (a : Stay S H H') (h : ∀ b, S b → ∀ xs, ¬ Rd H b (.tup xs)) : Tups H H' := fun c xs r => by
  have n : ¬ S c := fun z => h c z xs r
  exact r.elim (fun r => .inl (a c _ r n)) fun ⟨o, r⟩ => .inr ⟨o, a c _ r n⟩
theorem lst_ntup {H : Hp} {l : Addr} {ys : List V} (e : H l = some (.lst ys)) : ∀ xs, ¬ Rd H l (.tup xs) := fun xs h => by
  unfold Rd at h
  rw [e] at h
  rcases h with h | ⟨_, h⟩ <;> cases h
theorem daPut {K : PySem.W.Frag} {w : World} {H : Hp} {d : Addr} {es : List Eh} (D : DA K w H d es) (e : H d = some (DkO w d es)) {k : NestedKey} {v x : V} (n : NK K H k v) (kd : k.depth ≤ 8) : DA K w (upd H d (DkO w d (putE es k v x))) d (putE es k v x) := by
  have t : Tups H (upd H d (DkO w d (putE es k v x))) := Tups.upd (dk_ntup e)
  refine ⟨.inl upd_same, fun f hf => ?_, putE_nd D.nd⟩
  rcases putE_mem hf with ⟨g, hg, e1, e2⟩ | ⟨e1, e2⟩
  · rw [← e1, ← e2]
    exact ⟨(D.nk g hg).1.tups t, (D.nk g hg).2⟩
  · rw [e1, e2]
    exact ⟨n.tups t, kd⟩
theorem daKeep {K : PySem.W.Frag} {w : World} {H H' : Hp} {d : Addr} {es : List Eh} (D : DA K w H d es) (t : Tups H H') (e : Rd H' d (DkO w d es)) : DA K w H' d es := ⟨e, fun x hx => ⟨(D.nk x hx).1.tups t, (D.nk x hx).2⟩, D.nd⟩
theorem atK_mem {es : List Eh} {k : NestedKey} {v : V} (h : atK es k = some v) : ∃ e ∈ es, e.2.2 = v := by
  unfold atK at h
  obtain ⟨e, h1, h2⟩ := Option.map_eq_some_iff.mp h
  exact ⟨e, List.mem_of_find?_eq_some h1, h2⟩
theorem putE_vals {es : List Eh} {k : NestedKey} {u v : V} {e : Eh} (h : e ∈ putE es k u v) : e.2.2 = v ∨ ∃ f ∈ es, f.2.2 = e.2.2 := by
  cases q : atK es k with
  | none =>
    rw [putE_new q] at h
    rcases List.mem_append.mp h with h | h
    · exact .inr ⟨e, h, rfl⟩
    · obtain rfl : e = (k, u, v) := by simpa using h
      exact .inl rfl
  | some y =>
    rw [putE_old q] at h
    obtain ⟨f, hf, rfl⟩ := List.mem_map.mp h
    by_cases z : f.1 = k
    · rw [if_pos z]
      exact .inl rfl
    · rw [if_neg z]
      exact .inr ⟨f, hf, rfl⟩
theorem passE {P : Program} {w : World} {X : Cx} : Passes (L2.CX P w) X E0 := fun _ _ _ _ _ _ _ h => by
  obtain ⟨_, _, _, _, _, _, _, _, _, _, _, _, h⟩ := h
  exact h.elim
/-- all but a and the tables stay -/
def ButN (a : Addr) (H H' : Hp) : Prop := ∀ b o, H b = some o → (∀ ps, o ≠ .tbl ps) → b ≠ a → H' b = some o
/-- tuple(x): one that holds what x holds -/
def rTupOf (K : PySem.W.Frag) : List V → Hp → VK → Prop := fun xs H Q => ∃ x ys, xs = [.ref x] ∧ (SqL K H x ys ∨ SqT K H x ys) ∧ ∀ l H1, Same H H1 → SqT K H1 l ys → Q (.ref l) H1
theorem call_tupR {X : Cx} : CallR X (.type "tuple") (rTupOf X.K) := by
  intro pins s σ H xs us Q I r h
  obtain ⟨x, ys, rfl, hx, q⟩ := h
  exact call_tuple_of pins s σ H _ us Q I r ⟨x, ys, rfl, hx.imp (fun z => ⟨z, fun l nl => q l _ (same_upd nl) (SqT.of upd_same)⟩) fun z => ⟨z, q x H same_refl z⟩⟩
theorem ins_ntup {H : Hp} {a C dx : Addr} {fs : List (Str × V)} (e : H a = some (.ins C dx fs)) : ∀ xs, ¬ Rd H a (.tup xs) := fun xs h => by
  rcases h with h | ⟨u, h⟩ <;> rw [e] at h <;> cases h
/-- not there, or a table -/
def NewB (H : Hp) (b : Addr) : Prop := ∀ o, H b = some o → ∃ ps, o = .tbl ps
theorem ButN.of {a : Addr} {H H' : Hp} (b : But a H H') : ButN a H H' := fun c o e _ n => b c o e n
theorem ButN.trans {a : Addr} {H H1 H2 : Hp} (x : ButN a H H1) (y : ButN a H1 H2) : ButN a H H2 := fun c o e t n => y c o (x c o e t n) t n
theorem ButN.tups {a C dx : Addr} {fs : List (Str × V)} {H H' : Hp} (x : ButN a H H') (ha : H a = some (.ins C dx fs)) : Tups H H' := fun c xs r => by
  have n : c ≠ a := by
    rintro rfl
    exact ins_ntup ha xs r
  rcases r with r | ⟨o, r⟩
  · exact .inl (x _ _ r (fun ps z => nomatch z) n)
  · exact .inr ⟨o, x _ _ r (fun ps z => nomatch z) n⟩
theorem NewB.of {a C dx b : Addr} {fs : List (Str × V)} {H H' : Hp} (x : ButN a H H') (ha : H' a = some (.ins C dx fs)) (n : H' b = none) : NewB H b := fun o e => by
  by_cases t : ∃ ps, o = .tbl ps
  · exact t
  · have nb : b ≠ a := by
      rintro rfl
      rw [ha] at n
      cases n
    rw [x _ _ e (fun ps z => t ⟨ps, z⟩) nb] at n
    cases n
theorem Tabs.but {T : List (Addr × Str)} {a C dx : Addr} {fs : List (Str × V)} {H H' : Hp} (t : Tabs T H) (ha : H a = some (.ins C dx fs)) (b : But a H H') : Tabs T H' := fun p hp => by
  obtain ⟨ps, h1, h2, h3⟩ := t p hp
  refine ⟨ps, b _ _ h1 (ne_of h1 ha fun z => nomatch z), h2, fun pos cv hc => ?_⟩
  obtain ⟨c, e1, e2⟩ := h3 pos cv hc
  exact ⟨c, e1, b _ _ e2 (ne_of e2 ha fun z => nomatch z)⟩
theorem pen_tups {p pl : Addr} {Ha Hb : Hp} {m : Nat} (PA : PenAt Ha p pl m) (b : But p Ha Hb) : Tups Ha Hb := fun c xs h => by
  obtain ⟨kvs, hp⟩ := PA.is
  have n : c ≠ p := by
    rintro rfl
    rcases h with h | ⟨u, h⟩ <;> rw [hp] at h <;> cases h
  exact h.imp (fun h => b _ _ h n) fun ⟨u, h⟩ => ⟨u, b _ _ h n⟩
/-- o.m(..) where what the method lets out is told at the slots -/
def tMethW (C : Addr) (m : Str) (sp : Sp) (E : L2.St → XK) (ta : TE) (t : TA) : TE := fun σ H Q => ta σ H fun x H1 => ∃ a dx fs, x = .ref a ∧ H1 a = some (.ins C dx fs) ∧ fs.lookup m = none ∧ t σ H1 fun vs H2 => sp (x :: vs) H2 Q (E σ)
theorem pe_methW {X : Cx} {CX : CXT} {k : Nat} {C f : Addr} {m : Str} {fd : FuncData} {ps : List Str} {sp : Sp} {E : L2.St → XK} {o e : PySem.Expr} {es : List PySem.Expr} {ta : TE} {t : TA} {apos pos : Pos} {pl : Sem Bool} (he : PE X o ta) (c : Cls X.K C) (hm : Meth X.K C m f)
    (F : FnOk X.prog X.w X.K X.mg X.base CX k f fd ps sp) (hr : Room k X.A) (hb : L2.Binds X.K fd ps []) (hx : ∀ σ, PassesAt CX X σ (E σ)) (ha : PA X (e :: es) t)
    (hst : starEach (e :: es) X.env = (false, eval e X.env) :: starEach es X.env := by rfl) (hpl : (backTo pos (starEach es X.env)).any (·.1) = false := by rfl)
    (ht : eval (.Call (.Attribute o m apos) (e :: es) [] pos) X.env = (do
      let ov ← eval o X.env
      standAt apos.atName
      let (f, first) ← holding [ov] (getMethod ov m pl)
      callWith pos f first (backTo pos (starEach (e :: es) X.env)) (backToKw pos (keywordEach [] X.env))) := by rfl) :
    PE X (.Call (.Attribute o m apos) (e :: es) [] pos) (tMethW C m sp E ta t) := by
  refine ⟨fun pins s σ H Q I h => ?_⟩
  refine PySem.W.methodCall_KW (pl := pl) (thn (he.run pins s σ H _ I h) fun u s1 ⟨x, H1, I1, rx, a, dx, fs, ex, ea, l, q⟩ => ?_) ht
  subst ex
  obtain rfl : u = PySem.Value.ref a := rx
  refine getmeth_ok I1 ea c hm l ?_
  refine PySem.W.callWith_K (first := [.ref a]) (h₀ := X.base) I.ok.mod.kin hm.kp (thn (ha.run pos pins s1 σ H1 _ I1 q) fun us s2 ⟨vs, H2, I2, r, q2⟩ => ⟨I2.kIn, ?_⟩) hst hpl
  exact run_fnS (us := .ref a :: us) (vs := .ref a :: vs) F hr hb (hx σ) I2 (.cons rfl r) q2
/-! ### C(..) within try: what __init__ lets out is told at the slots -/
def tMakeW (C : Addr) (sp : Sp) (E : L2.St → XK) (t : TA) : TE := fun σ H Q => t σ H fun vs H1 => ∀ x dx, H1 x = none → H1 dx = none → dx ≠ x →
  sp (.ref x :: vs) (upd (upd H1 dx (.own x)) x (.ins C dx [])) (fun v H2 => v = .non ∧ Q (.ref x) H2) (E σ)
section
variable {X : Cx} {CX : CXT} {k : Nat} {f C : Addr} {fd : FuncData} {ps : List Str} {sp : Sp} {E : L2.St → XK} {x : Str} {p pos : Pos} {e : PySem.Expr} {es : List PySem.Expr} {t : TA}
theorem run_makeGW {pins : List (Addr × Obj)} {σ : L2.St} {H : Hp} {s : Shared} {Q : VK} {us : List PySem.Value} {vs : List V} (M : Mk X.K C f) (F : GFn X.prog X.w X.K X.mg X.base CX k f fd ps sp) (hG : X.A.guards = some []) (hr : Room (k + 1) X.A) (hb : L2.Binds X.K fd ps [])
    (hx : PassesAt CX X σ (E σ)) (I : L2.Inv X pins σ H s) (r : Vals vs us)
    (h : ∀ x dx, H x = none → H dx = none → dx ≠ x → sp (.ref x :: vs) (upd (upd H dx (.own x)) x (.ins C dx [])) (fun v H2 => v = .non ∧ Q (.ref x) H2) (E σ)) :
    wpAny (model X.prog X.w) X.A (call (.ref C) us) (EP X pins σ Q) X.xe s := by
  have hq := h (s.heap.objs.size + 1) s.heap.objs.size (I.hok.fresh (Nat.le_succ _)) (I.hok.fresh (Nat.le_refl _)) (Nat.ne_of_lt (Nat.lt_succ_self _))
  have I2 := Inv.made (C := C) I
  have r2 : Vals (V.ref (s.heap.objs.size + 1) :: vs) (PySem.Value.ref (s.heap.objs.size + 1) :: us) := .cons rfl r
  have hl : (PySem.Value.ref (s.heap.objs.size + 1) :: us ++ []).length = ps.length := by
    have e := r2.length
    rw [F.len _ _ _ _ hq] at e
    rw [List.append_nil]
    exact e.symm
  have b := hb { s with heap := _ } (PySem.Value.ref (s.heap.objs.size + 1) :: us) I2.kIn hl
  rw [List.append_nil] at b
  have hG2 : (X.A.under (.builtin "type.__call__" ⟨.ref C :: us, []⟩)).guards = some [] := by
    have e1 : (Code.builtin "type.__call__" ⟨.ref C :: us, []⟩).guards = [] := by
      have e2 : (Code.builtin "type.__call__" ⟨.ref C :: us, []⟩).isGuard = false := by
        show guardIds.contains "type.__call__" = false
        decide +kernel
      unfold Code.guards
      rw [e2]
      rfl
    show pushGuards (Code.builtin "type.__call__" ⟨.ref C :: us, []⟩).guards X.A.guards = some []
    rw [e1, hG]
    first | rfl | (rw [pushGuards_eq]; rfl)
  refine wpAny_call (make_map (f := f) I.kIn M.makes M.init (beq_iff_eq.mp M.fn) (codeAny_mono (F.run _ X.stack _ _ ⟨PySem.Value.ref (s.heap.objs.size + 1) :: us, []⟩ (PySem.Value.ref (s.heap.objs.size + 1) :: us) _ _ (E σ) (hr.make C us []) hG2
    (I2.env0.make C us []) b r2 hq) fun r s' hq' => ?_))
  cases r with
  | error e => exact hx pins _ _ e s' I2 hq'
  | ok fl =>
    cases fl with
    | ret u =>
      obtain ⟨v, H', I3, rv, ev, q3⟩ := I2.after hq'
      subst ev
      exact ⟨rv, ⟨V.ref (s.heap.objs.size + 1), H', I3, rfl, q3⟩⟩
    | next => exact False.elim hq'
    | brk => exact False.elim hq'
    | cont => exact False.elim hq'
theorem pe_makeGW (M : Mk X.K C f) (F : GFn X.prog X.w X.K X.mg X.base CX k f fd ps sp) (hG : X.A.guards = some []) (hr : Room (k + 1) X.A) (hg : Gl X x) (hm : X.mg x = some (.ref C)) (hb : L2.Binds X.K fd ps []) (hx : ∀ σ, PassesAt CX X σ (E σ))
    (ha : PA X (e :: es) t) (hdb : (x == ("__debug__" : Str)) = false := by decide) (he : starEach (e :: es) X.env = (false, eval e X.env) :: starEach es X.env := by rfl) (hpl : (backTo pos (starEach es X.env)).any (·.1) = false := by rfl) :
    PE X (.Call (.Name x p) (e :: es) [] pos) (tMakeW C sp E t) := by
  refine ⟨fun pins s σ H Q I h => ?_⟩
  refine wpAny_Call_Name_kw (ld_glob I hg hm ?_ hdb)
  refine PySem.W.callWith_K (h₀ := X.base) I.ok.mod.kin M.kp (thn (ha.run pos pins s σ H _ I h) fun us s1 ⟨vs, H1, I1, r, q⟩ => ⟨I1.kIn, ?_⟩) he hpl
  exact run_makeGW M F hG hr hb (hx σ) I1 r q
/-- a def that needs no free guards, where they are free -/
theorem FnOk.gfn {P : Program} {w : World} {K : PySem.W.Frag} {mg : Str → Option PySem.Value} {base : Heap} (F : FnOk P w K mg base CX k f fd ps sp) : GFn P w K mg base CX k f fd ps sp :=
  ⟨F.len, fun A outer s H args us vs Q E hr _ e0 b r h => F.run A outer s H args us vs Q E hr e0 b r h⟩
end
/-! ### l != [] -/
def rNeE (K : PySem.W.Frag) : R2 := fun x y H Q => ∃ a b xs, x = .ref a ∧ y = .ref b ∧ SqL K H a xs ∧ SqL K H b [] ∧ Q (.bl (decide (xs ≠ []))) H
theorem op_neE {X : Cx} (hu : X.A.units < cLine) : OpR X (compareOp .NotEq) (rNeE X.K) := by
  intro pins s σ H x y v u Q I rx ry h
  obtain ⟨a, b, xs, rfl, rfl, ha, hb, q⟩ := h
  cases rx
  cases ry
  obtain ⟨its, r1, p1, _⟩ := I.list ha
  obtain ⟨its2, r2, p2, _⟩ := I.list hb
  cases r2
  cases r1 with
  | nil => exact SeqAt.RcNeAt.lists (e := fun _ => true) p1.isList p2.isList rfl hu (fun j h => nomatch h) _ _ _ _ ⟨.bl false, H, I, rfl, q⟩
  | cons h t => exact SeqAt.RcNeAt.lists_lengths p1.isList p2.isList (by simp) hu _ _ _ _ ⟨.bl true, H, I, rfl, q⟩
/-- isinstance(x, tuple) of a tuple of anything -/
def rIsTu (K : PySem.W.Frag) : List V → Hp → VK → Prop := fun xs H Q => ∃ a ys, xs = [.ref a, .ty "tuple"] ∧ SqT K H a ys ∧ Q (.bl true) H
theorem call_isTu {X : Cx} : CallR X (.builtin "isinstance") (rIsTu X.K) := by
  intro pins s σ H xs us Q I r h
  obtain ⟨a, ys, rfl, hs, q⟩ := h
  obtain ⟨u1, u2, rfl, r1, r2⟩ := vals2 r
  obtain rfl : u2 = PySem.Value.type "tuple" := r2
  cases r1
  obtain ⟨its, rv, ⟨o, ho, hc, _⟩, _⟩ := I.tuple hs
  exact PySem.W.kia_one PySem.W.kitx_tuple I.kIn ⟨o, ho, hc⟩ (kit_ty (show kitB "tuple" "tuple" = some true by decide +kernel)) (fun z => nomatch z) fun tk => ⟨.bl true, H, I.tok tk, rfl, q⟩
/-! ### what stays while the pen draws, tables change, new things come -/
def Kp (H H' : Hp) : Prop := ∀ b o, H b = some o → (∀ ps, o ≠ .tbl ps) → (∀ kvs, o ≠ .dK kvs) → H' b = some o
theorem Kp.rfl' {H : Hp} : Kp H H := fun _ _ e _ _ => e
theorem Kp.trans {H H1 H2 : Hp} (x : Kp H H1) (y : Kp H1 H2) : Kp H H2 := fun b o e t k => y b o (x b o e t k) t k
theorem Kp.same {H H' : Hp} (s : Same H H') : Kp H H' := fun b o e _ _ => s b o e
theorem Kp.ext {H H' : Hp} (s : ExtN H H') : Kp H H' := fun b o e t _ => s b o e t
theorem Kp.pen {H H' : Hp} {p pl : Addr} {n : Nat} (PA : PenAt H p pl n) (s : But p H H') : Kp H H' := fun b o e _ k => s b o e (by
  rintro rfl
  obtain ⟨kvs, hp⟩ := PA.is
  rw [hp] at e
  cases e
  exact k _ rfl)
theorem Kp.tups {H H' : Hp} (k : Kp H H') : Tups H H' := fun c xs r => r.elim (fun r => .inl (k _ _ r (fun _ z => nomatch z) fun _ z => nomatch z)) fun ⟨u, r⟩ => .inr ⟨u, k _ _ r (fun _ z => nomatch z) fun _ z => nomatch z⟩
theorem Kp.lst {H H' : Hp} (k : Kp H H') {a : Addr} {xs : List V} (e : H a = some (.lst xs)) : H' a = some (.lst xs) := k _ _ e (fun _ z => nomatch z) fun _ z => nomatch z
theorem Kp.tup {H H' : Hp} (k : Kp H H') {a : Addr} {xs : List V} (e : H a = some (.tup xs)) : H' a = some (.tup xs) := k _ _ e (fun _ z => nomatch z) fun _ z => nomatch z
theorem Kp.ins {H H' : Hp} (k : Kp H H') {a C dx : Addr} {fs : List (Str × V)} (e : H a = some (.ins C dx fs)) : H' a = some (.ins C dx fs) := k _ _ e (fun _ z => nomatch z) fun _ z => nomatch z
theorem Kp.dko {w : World} {H H' : Hp} (k : Kp H H') {a : Addr} {es : List Eh} (e : H a = some (DkO w a es)) : H' a = some (DkO w a es) := k _ _ e (fun _ z => nomatch z) fun _ z => nomatch z
theorem Kp.da {K : PySem.W.Frag} {w : World} {H H' : Hp} (k : Kp H H') {a : Addr} {es : List Eh} (D : DA K w H a es) : DA K w H' a es :=
  daKeep D k.tups (D.at_.elim (fun h => .inl (k.dko h)) fun ⟨u, h⟩ => .inr ⟨u, k _ _ h (fun _ z => nomatch z) fun _ z => nomatch z⟩)
theorem Kp.sql {K : PySem.W.Frag} {H H' : Hp} (k : Kp H H') {a : Addr} {xs : List V} (h : SqL K H a xs) : SqL K H' a xs :=
  h.elim (fun h => .inl (h.elim (fun h => .inl (k.lst h)) fun ⟨u, h⟩ => .inr ⟨u, k _ _ h (fun _ z => nomatch z) fun _ z => nomatch z⟩)) .inr
theorem Kp.sqt {K : PySem.W.Frag} {H H' : Hp} (k : Kp H H') {a : Addr} {xs : List V} (h : SqT K H a xs) : SqT K H' a xs := SqT.tups k.tups h
/-- all but the lists that H0 had -/
def Kl (H0 H H' : Hp) : Prop := ∀ b o, H b = some o → (∀ ps, o ≠ .tbl ps) → (∀ kvs, o ≠ .dK kvs) → (NewB H0 b ∨ ∀ xs, o ≠ .lst xs) → H' b = some o
theorem Kp.kl {H0 H H' : Hp} (k : Kp H H') : Kl H0 H H' := fun b o e t d _ => k b o e t d
theorem Kl.upd {H0 H : Hp} {x : Addr} {xs ys zs : List V} (h0 : H0 x = some (.lst xs)) (h1 : H x = some (.lst ys)) : Kl H0 H (L2.upd H x (.lst zs)) := fun b o e _ _ c => by
  have n : b ≠ x := by
    rintro rfl
    rcases c with c | c
    · obtain ⟨ps, z⟩ := c _ h0
      cases z
    · rw [h1] at e
      cases e
      exact c _ rfl
  rw [upd_ne n]
  exact e
theorem Kl.tups {H0 H H' : Hp} (k : Kl H0 H H') : Tups H H' := fun c xs r => r.elim (fun r => .inl (k _ _ r (fun _ z => nomatch z) (fun _ z => nomatch z) (.inr fun _ z => nomatch z))) fun ⟨u, r⟩ => .inr ⟨u, k _ _ r (fun _ z => nomatch z) (fun _ z => nomatch z) (.inr fun _ z => nomatch z)⟩
theorem Kl.da {K : PySem.W.Frag} {w : World} {H0 H H' : Hp} (k : Kl H0 H H') {a : Addr} {es : List Eh} (D : DA K w H a es) : DA K w H' a es :=
  daKeep D k.tups (D.at_.elim (fun h => .inl (k _ _ h (fun _ z => nomatch z) (fun _ z => nomatch z) (.inr fun _ z => nomatch z))) fun ⟨u, h⟩ => .inr ⟨u, k _ _ h (fun _ z => nomatch z) (fun _ z => nomatch z) (.inr fun _ z => nomatch z)⟩)
/-- the pen across all but a and the tables -/
theorem PenAt.butN {H H' : Hp} {a p pl : Addr} {n : Nat} (PA : PenAt H p pl n) (b : ButN a H H') (h1 : p ≠ a) (h2 : pl ≠ a) : PenAt H' p pl n := by
  obtain ⟨cells, x, d, c, f, P, h⟩ := PA
  exact ⟨cells, x, d, c, f, ⟨b _ _ P.di (fun _ z => nomatch z) h1, b _ _ P.li (fun _ z => nomatch z) h2, P.a0, P.d0, P.c0, P.f0, P.f1⟩, h⟩
theorem PenAt.extN {H H' : Hp} {p pl : Addr} {n : Nat} (PA : PenAt H p pl n) (b : ExtN H H') : PenAt H' p pl n := by
  obtain ⟨cells, x, d, c, f, P, h⟩ := PA
  exact ⟨cells, x, d, c, f, ⟨b _ _ P.di (fun _ z => nomatch z), b _ _ P.li (fun _ z => nomatch z), P.a0, P.d0, P.c0, P.f0, P.f1⟩, h⟩
/-! ### tables by key -/
theorem atK_find {α : Type} {kf : α → NestedKey} {nf vf : α → V} {k : NestedKey} : ∀ l : List α, (∃ x ∈ l, kf x = k ∧ atK (l.map fun x => (kf x, nf x, vf x)) k = some (vf x)) ∨ ((∀ x ∈ l, kf x ≠ k) ∧ atK (l.map fun x => (kf x, nf x, vf x)) k = none)
  | [] => .inr ⟨(fun _ h => nomatch h), rfl⟩
  | x :: l => by
    by_cases h : kf x = k
    · exact .inl ⟨x, List.mem_cons_self .., h, atK_pos (e := (kf x, nf x, vf x)) h⟩
    · have e : atK ((x :: l).map fun x => (kf x, nf x, vf x)) k = atK (l.map fun x => (kf x, nf x, vf x)) k := atK_neg (e := (kf x, nf x, vf x)) h
      rcases atK_find (kf := kf) (nf := nf) (vf := vf) (k := k) l with ⟨y, h1, h2, h3⟩ | ⟨h1, h2⟩
      · exact .inl ⟨y, List.mem_cons_of_mem _ h1, h2, e.trans h3⟩
      · exact .inr ⟨fun y hy => (List.mem_cons.mp hy).elim (fun z => z ▸ h) (h1 y), e.trans h2⟩
theorem nodup_inj {α β : Type} {f : α → β} : ∀ {l : List α}, (l.map f).Nodup → ∀ {x y}, x ∈ l → y ∈ l → f x = f y → x = y
  | [], _, _, _, h, _, _ => nomatch h
  | a :: l, nd, x, y, hx, hy, e => by
    have nd2 : f a ∉ l.map f ∧ (l.map f).Nodup := List.nodup_cons.mp (by simpa using nd)
    rcases List.mem_cons.mp hx with e1 | hx2 <;> rcases List.mem_cons.mp hy with e2 | hy2
    · rw [e1, e2]
    · subst e1
      exact (nd2.1 (List.mem_map.mpr ⟨y, hy2, e.symm⟩)).elim
    · subst e2
      exact (nd2.1 (List.mem_map.mpr ⟨x, hx2, e⟩)).elim
    · exact nodup_inj nd2.2 hx2 hy2 e
theorem lay_all {ds : List PyData} {m : Nat} (h : ∀ d ∈ ds, d.canLay0 = true ∧ d.depth ≤ m) : PyData.canLayAll0 ds = true ∧ PyData.depthAll ds ≤ m := by
  induction ds with
  | nil => exact ⟨by simp [PyData.canLayAll0], by simp [PyData.depthAll]⟩
  | cons d ds ih =>
    obtain ⟨h1, h2⟩ := h d (List.mem_cons_self ..)
    obtain ⟨h3, h4⟩ := ih fun d hd => h d (List.mem_cons_of_mem _ hd)
    refine ⟨by simp [PyData.canLayAll0, h1, h3], ?_⟩
    simp only [PyData.depthAll]
    omega
theorem shaped_list {ds : List PyData} (h : ∀ d ∈ ds, d.canLay0 = true ∧ d.depth ≤ 40) : SeqAt.shaped (.list ds) = true := by
  obtain ⟨h1, h2⟩ := lay_all h
  unfold SeqAt.shaped
  rw [show PyData.canLay0 (.list ds) = true by simpa [PyData.canLay0] using h1, show decide (PyData.depth (.list ds) ≤ 64) = true from decide_eq_true (by simp only [PyData.depth]; omega)]
  rfl
theorem shaped_tuple {ds : List PyData} (h : ∀ d ∈ ds, d.canLay0 = true ∧ d.depth ≤ 40) : SeqAt.shaped (.tuple ds) = true := by
  obtain ⟨h1, h2⟩ := lay_all h
  unfold SeqAt.shaped
  rw [show PyData.canLay0 (.tuple ds) = true by simpa [PyData.canLay0] using h1, show decide (PyData.depth (.tuple ds) ≤ 64) = true from decide_eq_true (by simp only [PyData.depth]; omega)]
  rfl
theorem shaped_flat {d : PyData} (h1 : d.canLay0 = true) (h2 : d.depth ≤ 40) : SeqAt.shaped d = true := by
  unfold SeqAt.shaped
  rw [h1, decide_eq_true (show d.depth ≤ 64 by omega)]
  rfl
theorem Tabs.pen {T : List (Addr × Str)} {p pl : Addr} {n : Nat} {H H' : Hp} (t : Tabs T H) (PA : PenAt H p pl n) (b : But p H H') : Tabs T H' := fun x hx => by
  obtain ⟨ps, h1, h2, h3⟩ := t x hx
  obtain ⟨kvs, hp⟩ := PA.is
  refine ⟨ps, b _ _ h1 (ne_of h1 hp fun z => nomatch z), h2, fun pos cv hc => ?_⟩
  obtain ⟨c, e1, e2⟩ := h3 pos cv hc
  exact ⟨c, e1, b _ _ e2 (ne_of e2 hp fun z => nomatch z)⟩
/-- from H to H': what stays, the pen, the tables -/
structure Go (T : List (Addr × Str)) (p pl : Addr) (H H' : Hp) (m : Nat) : Prop where
  kp : Kp H H'
  pen : PenAt H' p pl m
  tabs : Tabs T H'
section
variable {T : List (Addr × Str)} {p pl : Addr} {H H1 H2 : Hp} {m k : Nat}
theorem Go.same (g : Go T p pl H H1 m) (s : Same H1 H2) : Go T p pl H H2 m := ⟨g.kp.trans (.same s), g.pen.keep s, g.tabs.ext s⟩
theorem Go.draw (g : Go T p pl H H1 m) (PA : PenAt H2 p pl k) (b : But p H1 H2) : Go T p pl H H2 k := ⟨g.kp.trans (.pen g.pen b), PA, Tabs.pen g.tabs g.pen b⟩
theorem Go.mono (g : Go T p pl H H1 m) (h : m ≤ k) : Go T p pl H H1 k := ⟨g.kp, g.pen.mono h, g.tabs⟩
end
theorem cut_take {xs : List V} {n : Nat} (h : n ≤ xs.length) : cutV xs none (some (n : Int)) = xs.take n := by
  unfold cutV
  rw [HT.sIx_nat, HT.sIx_none, Nat.min_eq_left h, List.drop_zero, Nat.sub_zero]
theorem cut_drop {xs : List V} {n : Nat} (h : n ≤ xs.length) : cutV xs (some (n : Int)) none = xs.drop n := by
  unfold cutV
  rw [HT.sIx_nat, HT.sIx_none, Nat.min_eq_left h]
  exact List.take_of_length_le (by rw [List.length_drop]; omega)
theorem Tabs.updL {T : List (Addr × Str)} {H : Hp} {x : Addr} {xs ys : List V} (t : Tabs T H) (h : H x = some (.lst xs)) : Tabs T (L2.upd H x (.lst ys)) := fun y hy => by
  obtain ⟨ps, h1, h2, h3⟩ := t y hy
  refine ⟨ps, by rw [upd_ne (ne_of h1 h fun z => nomatch z)]; exact h1, h2, fun pos cv hc => ?_⟩
  obtain ⟨c, e1, e2⟩ := h3 pos cv hc
  exact ⟨c, e1, by rw [upd_ne (ne_of e2 h fun z => nomatch z)]; exact e2⟩
section
variable {K : PySem.W.Frag} {w : World} {CS CT CN : Addr} {T : List (Addr × Str)} {p pl x dx y : Addr} {m : Nat} {H : Hp} {ts : List Til}
theorem ins_new {C : Addr} (nx : H x = none) (ndx : H dx = none) : Same H (upd (upd H dx (.own x)) x (.ins C dx [])) := fun b o e => by
  rw [upd_ne (ne_of_none e nx), upd_ne (ne_of_none e ndx)]
  exact e
theorem butN_kp {H0 H1 H2 : Hp} {a : Addr} (s : Same H0 H1) (na : H0 a = none) (b : ButN a H1 H2) : Kp H0 H2 := fun c o e t _ => b _ _ (s _ _ e) t (ne_of_none e na)
theorem butN_pen {H0 H1 H2 : Hp} {a : Addr} (s : Same H0 H1) (na : H0 a = none) (b : ButN a H1 H2) (PA : PenAt H0 p pl m) : PenAt H2 p pl m := by
  obtain ⟨kvs, hp⟩ := PA.is
  obtain ⟨xs, hl⟩ := PA.lis
  exact PenAt.butN (PA.keep s) b (ne_of_none hp na) (ne_of_none hl na)
end
/-! ### the end, where tables of code are tracked, too -/
section
variable {P : Program} {w : World} {K : PySem.W.Frag} {mg mb : Str → Option PySem.Value} {k : Nat} {fa a : Addr} {cs : List (Addr × Addr)} {fd : FuncData} {x : Str} {sp : Sp} {s₁ : Shared} {vs : List PySem.Value} {ns : List Int}
/-- the script, unless it stands in the written part, and the tables -/
def seen (K : PySem.W.Frag) (a : Addr) (o : HO) (ts : List Addr) : Hp := fun b => if b = a ∧ (K.lookup a).isNone = true then some o else if b ∈ ts then some (.tbl #[]) else none
theorem run_tab (KX : K.In s₁.heap) (gl : s₁.heap.Ns mainGlobals mg) (bl : s₁.heap.Ns builtinsNs mb) (blb : ∀ x : Str, x ≠ "__name__" → mb x = bootBuiltins x) (lim : s₁.heap.NoLimit) (noGens : s₁.gens = #[])
    (mods : ∃ (bm : Addr) (ob : Obj), mg "__builtins__" = some (.ref bm) ∧ bm ≠ builtinsNs ∧ s₁.heap.get? bm = some ob ∧ ob.cls = .type "module" ∧ ob.dict = some builtinsNs ∧ ob.data = .plain)
    (script : s₁.heap.get? a = some { cls := .type "list", data := .seq vs.toArray }) (theInts : IntsAre vs ns) (few : ns.length ≤ sizeLine) (room : Room k callerA)
    (empt : ∀ p ∈ cs, s₁.heap.get? p.2 = some { cls := .none, data := .fields #[] }) (out : ∀ p ∈ cs, K.lookup p.2 = none) (hd : ∀ p ∈ cs, PySem.W.codeHdIn K p.1 p.2 = true)
    (FF : ∀ base : Heap, K.In base → base.Ns mainGlobals mg → (∀ p ∈ cs, TabB base mg p.1 p.2) → GFn P w K mg base CX0 k fa fd [x] sp) (bound : ∀ (s : Shared) (u : PySem.Value), BindsTo s fd ⟨[u], []⟩ [(x, u)])
    (asks : ∀ H : Hp, (∀ p ∈ cs, H p.2 = some (.tbl #[])) → SqL K H a (ns.map V.int) → sp [.ref a] H (fun v _ => v = .bl true) E0) :
    codeAny (model P w) callerA (.call (.ref fa) ⟨[.ref a], []⟩) (fun r s' => r = .ok (.ret (.bool true)) ∧ OldK s₁.heap s'.heap ∧ s'.os = s₁.os ∧ AllBare s'.gens) s₁ := by
  have rel : Vals (ns.map V.int) vs := vals_ints theInts
  have sized : vs.length = ns.length := theInts.length
  have emptyAt : ∀ b ∈ cs.map (·.2), s₁.heap.get? b = some { cls := .none, data := .fields #[] } := fun b hb => by
    obtain ⟨p, hp, rfl⟩ := List.mem_map.mp hb
    exact empt p hp
  have apart : a ∉ cs.map (·.2) := fun hb => by
    have e := (emptyAt a hb).symm.trans script
    cases e
  obtain ⟨H, hH⟩ : ∃ H, H = seen K a (.frz { cls := .type "list", data := .seq vs.toArray } (.lst (ns.map V.int))) (cs.map (·.2)) := ⟨_, rfl⟩
  have only : ∀ b o, H b = some o → (b = a ∧ K.lookup a = none ∧ o = .frz { cls := .type "list", data := .seq vs.toArray } (.lst (ns.map V.int))) ∨ (b ∈ cs.map (·.2) ∧ o = .tbl #[]) := fun b o z => by
    rw [hH] at z
    unfold seen at z
    split at z
    · rename_i h
      exact .inl ⟨h.1, Option.isNone_iff_eq_none.mp h.2, (Option.some.inj z).symm⟩
    · split at z
      · rename_i h
        exact .inr ⟨h, (Option.some.inj z).symm⟩
      · cases z
  have tabsAt : ∀ p ∈ cs, H p.2 = some (.tbl #[]) := fun p hp => by
    have m : p.2 ∈ cs.map (·.2) := List.mem_map.mpr ⟨p, hp, rfl⟩
    rw [hH]
    unfold seen
    have nz : ¬ (p.2 = a ∧ (K.lookup a).isNone = true) := fun z => apart (z.1 ▸ m)
    rw [if_neg nz, if_pos m]
  have sq : SqL K H a (ns.map V.int) := by
    cases ek : K.lookup a with
    | some o =>
      have same := KX a o ek
      rw [script] at same
      obtain rfl := Option.some.inj same
      exact .inr ⟨_, vs.toArray, _, ek, rfl, rfl, rfl, by rw [List.size_toArray, sized]; exact few, by simpa using rel⟩
    | none =>
      refine .inl (.inr ⟨{ cls := .type "list", data := .seq vs.toArray }, ?_⟩)
      rw [hH]
      unfold seen
      rw [if_pos ⟨rfl, by rw [ek]; rfl⟩]
  clear hH
  have hok : HOk P w H s₁.heap := fun b o e => by
    rcases only b o e with ⟨rfl, _, rfl⟩ | ⟨m, rfl⟩
    · exact ⟨script, by rw [List.length_map]; exact few, vs, _, rel, script⟩
    · exact emptyAt b m
  -- what is neither a list nor an empty table is not tracked
  have off : ∀ {b : Addr} {o : Obj}, s₁.heap.get? b = some o → (∀ xs n, o.data ≠ .seq xs n) → o.data ≠ .fields #[] → H b = none := fun {b o} e n1 n2 => by
    cases q : H b with
    | none => rfl
    | some u =>
      rcases only b u q with ⟨rfl, _, _⟩ | ⟨m, _⟩
      · rw [script] at e
        cases e
        exact absurd rfl (n1 _ _)
      · rw [emptyAt b m] at e
        cases e
        exact absurd rfl n2
  have names : ∀ {b : Addr} {m : Str → Option PySem.Value}, s₁.heap.Ns b m → (hidT s₁.heap H).Ns b m := by
    rintro b m ⟨o, es, n, e, d, r⟩
    exact ⟨o, es, n, hidT_get e (off e (fun _ _ z => by rw [d] at z; cases z) fun z => by rw [d] at z; cases z), d, r⟩
  have inK : K.In (hidT s₁.heap H) := fun b o e => hidT_get (KX b o e) (by
    cases q : H b with
    | none => rfl
    | some u =>
      rcases only b u q with ⟨rfl, none_, _⟩ | ⟨m, _⟩
      · rw [none_] at e
        cases e
      · obtain ⟨p, hp, rfl⟩ := List.mem_map.mp m
        rw [out p hp] at e
        cases e)
  obtain ⟨mc, lim1, lim2⟩ := lim
  have mod : Mod K mg (hidT s₁.heap H) := ⟨inK, names gl, ⟨mb, names bl, blb⟩, ⟨mc, names lim1, lim2⟩⟩
  have notG : ∀ p ∈ cs, mainGlobals ≠ p.2 := fun p hp z => by
    obtain ⟨o, es, n, e, d, _⟩ := gl
    rw [z, empt p hp] at e
    cases e
    cases d
  have tb : ∀ p ∈ cs, TabB (hidT s₁.heap H) mg p.1 p.2 := fun p hp => by
    refine NdefX.tabB_of_K inK (hd p hp) ?_ (notG p hp)
    obtain ⟨bm, ob, b1, b2, b3, b4, b5, b6⟩ := mods
    refine ⟨bm, ob, b1, b2, fun z => ?_, fun z => ?_, hidT_get b3 (off b3 (fun _ _ z => by rw [b6] at z; cases z) fun z => by rw [b6] at z; cases z), b4, b5, b6⟩
    · obtain ⟨o, es, n, e, d, _⟩ := gl
      rw [← z, b3] at e
      cases e
      rw [b6] at d
      cases d
    · rw [z, empt p hp] at b3
      cases b3
      cases b6
  have e0 : Env0 P w K mg (hidT s₁.heap H) callerA [] s₁ H :=
    ⟨rfl, mod, fun _ _ e => of_hidT e, Nat.le_of_eq (hidT_size _ _), trivial, fun _ z => (nomatch z), hok, .of_eq noGens⟩
  refine codeAny_mono ((FF _ inK (names gl) tb).run callerA [] s₁ H ⟨[.ref a], []⟩ [.ref a] [.ref a] _ E0 room rfl e0 (bound s₁ _) (.cons rfl .nil) (asks H tabsAt sq)) ?_
  intro r s' z
  match r, z with
  | .ok (.ret u), ⟨v, H', os, bare, un, hok', ru, q⟩ =>
    obtain rfl : v = .bl true := q
    obtain rfl : u = PySem.Value.bool true := ru
    have kept : ∀ b o, b ∉ cs.map (·.2) → s₁.heap.get? b = some o → s'.heap.get? b = some o := fun b o nb e => by
      cases eb : H b with
      | none => exact un.keep b o e eb (fun z => nomatch z) (fun z => nomatch z)
      | some u =>
        rcases only b u eb with ⟨rfl, _, rfl⟩ | ⟨m, _⟩
        · obtain ⟨there, _⟩ := hok' _ _ (un.frzs b _ _ eb)
          rw [script] at e
          obtain rfl := Option.some.inj e
          exact there
        · exact absurd m nb
    have more : ∀ b ∈ cs.map (·.2), ∃ p ∈ cs, p.2 = b ∧ ∃ ps : Array PySem.Value, s'.heap.get? b = some { cls := .none, data := .fields ps } := fun b hb => by
      obtain ⟨p, hp, rfl⟩ := List.mem_map.mp hb
      obtain ⟨ps, e⟩ := un.tbls _ _ (tabsAt p hp)
      exact ⟨p, hp, rfl, _, hok' _ _ e⟩
    refine ⟨rfl, ⟨fun b o e => ?_, fun b o e => ?_⟩, os, bare⟩
    · by_cases hb : b ∈ cs.map (·.2)
      · obtain ⟨p, hp, rfl, ps, e2⟩ := more b hb
        rw [empt p hp] at e
        cases e
        exact .inr (.inl ⟨((PySem.W.codeHd_of_K KX (hd p hp)).tab (empt p hp)).isCodeTable, rfl, #[], ps, rfl, by rw [Array.empty_append]; exact e2⟩)
      · exact .inl (kept b o hb e)
    · by_cases hb : b ∈ cs.map (·.2)
      · obtain ⟨_, _, _, ps, e2⟩ := more b hb
        exact ⟨_, e2⟩
      · exact ⟨o, kept b o hb e⟩
  | .ok .next, z => exact z.elim
  | .ok .brk, z => exact z.elim
  | .ok .cont, z => exact z.elim
  | .error _, z => exact z.elim
end
/-- for the goal that head_any leaves -/
theorem law_walkT {l : PySem.W.OpenLaw} {n k : Nat} {q : Program} {loose : List Str} {XP : (Str → Option PySem.Value) → Heap → Prop} {YP : World → Heap → Prop} {d : DefRec} {x : Str}
    (most : l.most = some n) (small : n ≤ sizeLine) (plain : d.params.defaults = []) (room : Room k callerA)
    (told : ∀ (w : World) (mg : Str → Option PySem.Value) (fa : Addr) (h : Heap), YP w h → h.Ns mainGlobals mg → mg d.name = some (.ref fa) →
      ∃ (K : PySem.W.Frag) (fd : FuncData) (sp : Sp) (cs : List (Addr × Addr)), K.In h ∧ (∀ p ∈ cs, h.get? p.2 = some { cls := .none, data := .fields #[] }) ∧ (∀ p ∈ cs, K.lookup p.2 = none) ∧ (∀ p ∈ cs, PySem.W.codeHdIn K p.1 p.2 = true) ∧ (∀ (s : Shared) (u : PySem.Value), BindsTo s fd ⟨[u], []⟩ [(x, u)]) ∧
        (∀ (H : Hp) (a : Addr) (ns : List Int), ns.length ≤ n → (∀ p ∈ cs, H p.2 = some (.tbl #[])) → SqL K H a (ns.map V.int) → sp [.ref a] H (fun v _ => v = .bl true) E0) ∧
        ∀ base : Heap, K.In base → base.Ns mainGlobals mg → (∀ p ∈ cs, TabB base mg p.1 p.2) → GFn l.prog w K mg base CX0 k fa fd [x] sp) :
    PySem.W.WalkO q loose XP YP l.row.toRowW d [] (fun f vs => PySem.call f vs) := by
  refine Att.attach_call most plain ?_
  intro w s₀ s₁ mg mb fa o pm cd doc a vs ns G Y ho hd hcd hmg script theInts few noGens
  obtain ⟨K, fd, sp, cs, KX, empt, out, hcs, bound, asks, FF⟩ := told w mg fa _ Y G.T.g hmg
  exact run_tab KX G.T.g G.T.b G.T.builtins G.T.nolimit noGens G.T.bmain script theInts (Nat.le_trans few small) room empt out hcs FF bound fun H ht z => asks H a ns few ht z
end Tr

set_option Elab.async false
set_option linter.all false
set_option maxRecDepth 100000
set_option maxHeartbeats 4000000
namespace AK
open PySem PySem.Spec PyProof.Rows L2
/-! ### a walk over the keys of such a dict, locked -/
def ItA (w : World) (d : Addr) (o : Obj) (es : List Eh) : It :=
  ⟨fun i H => H d = some (.frz o (DkO w d es)) ∧ i < es.length, fun i H x H' => H' = H ∧ ∃ e, es[i]? = some e ∧ x = e.2.1, fun i H => H d = some (.frz o (DkO w d es)) ∧ es.length ≤ i⟩
theorem frzA {X : Cx} {pins : List (Addr × Obj)} {σ : L2.St} {H : Hp} {s : Shared} {d : Addr} {o : Obj} {es : List Eh} (I : L2.Inv X pins σ H s) (h : H d = some (.frz o (DkO X.w d es))) :
    (d == sysModules) = false ∧ s.heap.get? d = some o ∧ o.ExactDict ∧ ∃ (arr : Array DictEntry) (ep : Nat) (us : List En), o.data = .dict arr ep ∧ arr.toList = us.map (ent X.w) ∧ Paired (fun (p : Eh) (q : En) => p.1 = q.1 ∧ RelV p.2.1 q.2.1 ∧ RelV p.2.2 q.2.2) es us := by
  obtain ⟨there, raw, _⟩ := I.hok d _ h
  obtain ⟨h1, h2, o', arr, ep, us, g, ex, dt, l, pr⟩ := raw
  rw [there] at g
  cases g
  exact ⟨h1, there, ex, arr, ep, us, dt, l, pr⟩
theorem pair_at {es : List Eh} {us : List En} (r : Paired (fun (p : Eh) (q : En) => p.1 = q.1 ∧ RelV p.2.1 q.2.1 ∧ RelV p.2.2 q.2.2) es us) {i : Nat} {e : Eh} (h : es[i]? = some e) : ∃ u, us[i]? = some u ∧ RelV e.2.1 u.2.1 := by
  induction r generalizing i with
  | nil => simp at h
  | cons p t ih =>
    cases i with
    | zero =>
      cases (show some _ = some e from h)
      exact ⟨_, rfl, p.2.1⟩
    | succ j =>
      obtain ⟨u, h1, h2⟩ := ih (i := j) (by simpa using h)
      exact ⟨u, by simpa using h1, h2⟩
theorem turn_keysA {P : Program} {w : World} {K : PySem.W.Frag} {tg : PySem.Expr} {d : Addr} {o : Obj} {es : List Eh} {arr : Array DictEntry} {ep : Nat} (it : Addr) (hod : o.data = .dict arr ep) :
    Turn P w K tg (ItA w d o es) [it] it (fun i h => h.IsKeyIter it d i es.length ep) where
  mem := by simp
  obj := fun i h st b hb => by
    obtain rfl := List.mem_singleton.mp hb
    obtain ⟨oi, e, _, dd⟩ := st
    exact ⟨oi, e, fun v z => by rw [dd] at z; cases z⟩
  keep := fun i h h' st k => st.at fun oi e => k it (List.mem_singleton.mpr rfl) oi e
  item := by
    intro X hP hw hK hc i pins s σ H E I apart st go
    subst hP hw hK
    obtain ⟨lock, few⟩ := go
    obtain ⟨f0, f1, f2, f3, f4, f5⟩ := apart it (List.mem_singleton.mpr rfl)
    obtain ⟨_, there, _, arr', ep', us, dt, l, pr⟩ := frzA I lock
    rw [hod] at dt
    cases dt
    have at_ := List.getElem?_eq_getElem few
    obtain ⟨u, hu, ru⟩ := pair_at pr at_
    have size : arr.size = es.length := by
      have z := congrArg List.length l
      rw [Array.length_toList, List.length_map] at z
      exact z.trans (Paired.length pr).symm
    have ea : arr[i]? = some (ent X.w u) := by
      rw [← Array.getElem?_toList, l, List.getElem?_map, hu]
      rfl
    refine next_key_item st there hod size ea fun h' st' sb => ?_
    have J : L2.Inv X pins σ H { s with heap := h' } := I.turned (t' := s.toks) (fun b ob hb e => (sb.2 b hb).trans e) f0 f1 f3 f4 f5
    obtain ⟨oi, e, c, dd⟩ := id st'
    exact ⟨(ent X.w u).key, rfl, go_of (s := { s with heap := h' }) e c dd (by decide) ⟨_, H, J, ru, ⟨rfl, _, at_, rfl⟩, st', fun b hb => (apart b hb).1⟩⟩
  done := by
    intro X hP hw hK hc i pins s σ H E I apart st go
    subst hP hw hK
    obtain ⟨lock, few⟩ := go
    obtain ⟨f0, f1, f2, f3, f4, f5⟩ := apart it (List.mem_singleton.mpr rfl)
    obtain ⟨_, there, _, arr', ep', us, dt, l, pr⟩ := frzA I lock
    rw [hod] at dt
    cases dt
    have size : arr.size = es.length := by
      have z := congrArg List.length l
      rw [Array.length_toList, List.length_map] at z
      exact z.trans (Paired.length pr).symm
    exact next_key_end (I.ok.hd hc) st there hod size few fun h' eb => ⟨rfl, I.turned (t' := s.toks) (fun b o hb e => eb b o hb e) f0 f1 f3 f4 f5⟩
  self := fun A i s Q E st h => wpAny_pyIter_keyiter st h
def iKeysA (w : World) (td : TE) : TI := fun σ H R => td σ H fun x H1 => ∃ d o es, x = .ref d ∧ H1 d = some (.frz o (DkO w d es)) ∧ R (ItA w d o es) H1
theorem pi_keysA {X : Cx} {tg e : PySem.Expr} {td : TE} (he : PE X e td) : PI X tg e (iKeysA X.w td) := by
  refine ⟨fun pins s σ H R I h => ?_⟩
  refine thn (he.run pins s σ H _ I h) fun u s1 ⟨x, H1, I1, rx, d, o, es, ex, lock, q⟩ => ?_
  subst ex
  obtain rfl : u = PySem.Value.ref d := rx
  obtain ⟨hs, there, exact_, arr, ep, us, dt, l, pr⟩ := frzA I1 lock
  have size : arr.size = es.length := by
    have z := congrArg List.length l
    rw [Array.length_toList, List.length_map] at z
    exact z.trans (Paired.length pr).symm
  refine iter_keys hs there exact_ dt (pi_one (tk := s1.toks) I1 _ (turn_keysA _ dt) ⟨_, Heap.get?_push_size _ rfl, rfl, ?_⟩ q)
  rw [size] <;> rfl
theorem walk_keysA {w : World} {d : Addr} {o : Obj} {es : List Eh} : Walk (ItA w d o es) es.length (fun H => H d = some (.frz o (DkO w d es))) (fun i H x H' => H' = H ∧ ∃ e, es[i]? = some e ∧ x = e.2.1) :=
  ⟨fun _ _ hi q => ⟨q, hi⟩, fun _ q => ⟨q, Nat.le_refl _⟩, fun _ _ _ _ _ _ y => y⟩
end AK
namespace Tr
open PySem PySem.Spec PyProof.Rows L2 AK Pen LamX
/-! ### what is never run -/
theorem pe_never {X : Cx} {e : PySem.Expr} : PE X e (fun _ _ _ => False) := ⟨fun _ _ _ _ _ _ h => h.elim⟩
theorem pss_never {X : Cx} {b : List PySem.Stmt} : PSs X b (fun _ _ _ => False) := ⟨fun _ _ _ _ _ _ h => h.elim⟩
theorem ps_never {X : Cx} {b : PySem.Stmt} : PS X b (fun _ _ _ => False) := ⟨fun _ _ _ _ _ _ h => h.elim⟩
/-- isinstance(x, dict) of such a dict -/
def rIsDi (K : PySem.W.Frag) (w : World) : List V → Hp → VK → Prop := fun xs H Q => ∃ a es, xs = [.ref a, .ty "dict"] ∧ DA K w H a es ∧ Q (.bl true) H
theorem call_isDi {X : Cx} : CallR X (.builtin "isinstance") (rIsDi X.K X.w) := by
  intro pins s σ H xs us Q I r h
  obtain ⟨a, es, rfl, D, q⟩ := h
  obtain ⟨u1, u2, rfl, r1, r2⟩ := vals2 r
  obtain rfl : u2 = PySem.Value.type "dict" := r2
  cases r1
  obtain ⟨_, _, us, dk, _⟩ := D.raw I
  obtain ⟨o, arr, ep, ho, hx, _⟩ := dk.ex
  exact PySem.W.kia_one PySem.W.kitx_dict I.kIn ⟨o, ho, hx.1⟩ (kit_ty (show kitB "dict" "dict" = some true by decide +kernel)) (fun z => nomatch z) fun tk => ⟨.bl true, H, I.tok tk, rfl, q⟩
/-- l.extend(t), t a tuple -/
theorem ext_tup (l b : Addr) (xs ys : Array PySem.Value) (n m : Nat) (dd : Option Addr) (sl : Array (Option PySem.Value)) (fits : ¬(!xs.isEmpty && Builtin.List.listTooLong (xs.size + ys.size)) = true) (z1 : xs.size ≤ sizeLine) (z2 : xs.size + ys.size ≤ sizeLine + 1) :
    Meets (Builtin.«list.extend» ⟨[.ref l, .ref b], []⟩) (fun _ R s => s.heap.get? l = some { cls := .type "list", dict := none, data := .seq xs n, slots := #[] } ∧ s.heap.get? b = some { cls := .type "tuple", dict := dd, data := .seq ys m, slots := sl } ∧
      R (.ok (.ret PySem.Value.none)) { s with heap := s.heap.update l (Obj.mapSeq fun x => x ++ ys), toks := s.toks }) :=
  .of_wp fun prog w A R s both => by
    obtain ⟨hp, gs, dr, tk, os⟩ := s
    obtain ⟨here, there, ends⟩ := both
    have f1 := AutoSeq1.idx_int
    have f2 := AutoSeq1.sub_tuple_tuple
    have f3 := AutoSeq1.sub_list_list
    have f4 := AutoSeq1.sub_tuple_list
    have f5 := AutoSeq1.sub_list_tuple
    have z3 : (xs ++ ys).size ≤ sizeLine + 1 := by
      rw [Array.size_append]
      exact z2
    wp_walk using (wpAny_updateSeq here rfl (hz := z1) (_hz' := z3)), wpAny_loadPart' here, wpAny_loadPart' there
    exact ⟨_, rfl, ends⟩
def rExtT (K : PySem.W.Frag) : V → List V → Hp → VK → Prop := fun x vs H Q => ∃ l b xs zs, x = .ref l ∧ vs = [.ref b] ∧ H l = some (.lst xs) ∧ SqT K H b zs ∧ xs.length + zs.length ≤ sizeLine ∧ Q .non (upd H l (.lst (xs ++ zs)))
theorem mt_extT {X : Cx} : MtM X "list.extend" (rExtT X.K) := by
  intro pins s σ H x vs v us Q I rx rv h
  obtain ⟨l, b, xs, zs, rfl, rfl, hl, hb, hz, q⟩ := h
  cases rx
  obtain ⟨u, rfl, ru⟩ := rv.one
  cases ru
  obtain ⟨z, its, n, r, hl2, e⟩ := I.lstM hl
  obtain ⟨its2, r2, ⟨⟨cls, dd, data, sl⟩, ho, hc, m, hd⟩, z2⟩ := I.tuple hb
  have hc : cls = .type "tuple" := hc
  have hd : data = .seq its2.toArray m := hd
  subst hc hd
  have l1 := r.length
  have l2 := r2.length
  have sized : its.toArray.size + its2.toArray.size ≤ sizeLine := by
    rw [List.size_toArray, List.size_toArray]
    omega
  have fits : ¬ (!its.toArray.isEmpty && Builtin.List.listTooLong (its.toArray.size + its2.toArray.size)) = true := by
    rw [notLongL sized, Bool.and_false]
    exact Bool.false_ne_true
  refine call_meets F.slot_list_extend ⟨_, e, rfl⟩ F.entry_list_extend (F.args_list_extend_2 _ _) (ext_tup l b its.toArray its2.toArray n m dd sl fits (by omega) (by omega)) ⟨e, ho, ?_⟩
  refine ⟨.non, _, I.lset (its' := its ++ its2) hl e (by simp) (r.append r2) ?_, rfl, q⟩
  rw [List.length_append]
  omega
end Tr
namespace Tr
open PySem PySem.Spec PyProof.Rows L2 AK Pen LamX
/-! ### t[::-1], t a tuple -/
theorem adjust_rev (n : Nat) : Builtin.Slice.sliceAdjust none none (-1) (n : Int) = ((n : Int) - 1, -1) := by
  unfold Builtin.Slice.sliceAdjust
  simp
theorem places_rev (n : Nat) : Builtin.Slice.slicePlaces ((n : Int) - 1) (-1) (-1) = n := by
  unfold Builtin.Slice.slicePlaces
  simp
  try omega
theorem fm_congr {α β : Type} {f g : α → Option β} : ∀ {l : List α}, (∀ x ∈ l, f x = g x) → l.filterMap f = l.filterMap g
  | [], _ => rfl
  | x :: l, h => by
    rw [List.filterMap_cons, List.filterMap_cons, h x (List.mem_cons_self ..), fm_congr fun y hy => h y (List.mem_cons_of_mem _ hy)]
theorem pick_rev (xs : Array PySem.Value) : ((List.range xs.size).filterMap fun (m : Nat) => xs[(((xs.size : Int) - 1) + (m : Int) * (-1)).toNat]?).toArray = xs.toList.reverse.toArray := by
  have e := PySem.W.krv_pick xs
  unfold slicePick at e
  rw [PySem.W.krv_bounds] at e
  have e : ((sliceRange ((xs.size : Int) - 1) (-1) (-1)).filterMap (xs[·]?)).toArray = xs.toList.reverse.toArray := e
  rw [PySem.W.krv_sliceRange, List.filterMap_map] at e
  rw [← e]
  congr 1
  refine fm_congr fun m hm => ?_
  have hm := List.mem_range.mp hm
  have z : (((xs.size : Int) - 1) + (m : Int) * (-1)).toNat = xs.size - 1 - m := by omega
  rw [z]
  rfl
section
variable {prog : Program} {w : World} {A : Around} {E : PySem.Value → Shared → Prop} {s : Shared}
theorem applied_rev {sl : Addr} {vl vu vs : PySem.Value} {n : Nat} {Q : Int × Int × Nat → Shared → Prop} (hs : s.heap.IsSliceOf sl vl vu vs) (pl : IsPart vl none) (pu : IsPart vu none) (ps : IsPart vs (some (-1))) (h : Q ((n : Int) - 1, -1, n) s) :
    wpAny (model prog w) A (Builtin.Slice.sliceApplied (.ref sl) (pure (n : Int))) Q E s := by
  obtain ⟨ob, there, isSl, parts⟩ := id hs
  unfold Builtin.Slice.sliceApplied Builtin.Slice.sliceFields
  refine wpAny_bind (wpAny_bind (wpAny_field there parts (x := vl) rfl (wpAny_bind (wpAny_field there parts (x := vu) rfl (wpAny_bind (wpAny_field there parts (x := vs) rfl (wpAny_pure ?_)))))))
  refine wpAny_bind (HT.slicePart_ ps ?_)
  show wpAny _ _ (if ((-1 : Int) == 0) = true then _ else _) _ _ s
  rw [if_neg (by decide)]
  refine wpAny_bind (HT.slicePart_ pl (wpAny_bind (HT.slicePart_ pu (wpAny_bind (wpAny_pure ?_)))))
  show wpAny _ _ (match Builtin.Slice.sliceAdjust none none (-1) (n : Int) with | (a, b) => pure (a, (-1 : Int), Builtin.Slice.slicePlaces a b (-1))) _ _ s
  rw [adjust_rev]
  show wpAny _ _ (pure ((n : Int) - 1, (-1 : Int), Builtin.Slice.slicePlaces ((n : Int) - 1) (-1) (-1))) _ _ s
  rw [places_rev]
  exact wpAny_pure h
theorem item_rev {t sl : Addr} {xs : Array PySem.Value} {vl vu vs : PySem.Value} {Q : PySem.Value → Shared → Prop} (ht : IsTup s.heap t xs) (hs : s.heap.IsSliceOf sl vl vu vs) (pl : IsPart vl none) (pu : IsPart vu none) (ps : IsPart vs (some (-1))) (hz : xs.size ≤ sizeLine)
    (h : Q (.ref s.heap.objs.size) { s with heap := s.heap.push { cls := .type "tuple", data := .seq xs.toList.reverse.toArray } }) : wpAny (model prog w) A (getItem (.ref t) (.ref sl)) Q E s := by
  obtain ⟨ob, there, isSl, parts⟩ := id hs
  have ty : s.TypeIs (.ref sl) "slice" := ⟨ob, there, isSl⟩
  have fits : sizeOk (.seq xs.toList.reverse.toArray) := by
    show xs.toList.reverse.toArray.size ≤ sizeLine
    rw [List.size_toArray, List.length_reverse, Array.length_toList]
    exact hz
  unfold getItem
  try with_reducible refine wpAny_holding ?_
  first
    | refine wpAny_bind (wpAny_pure ?_)
    | skip
  refine wpAny_bind (wpAny_sequenceKey ht.typeIs (by decide) ?_)
  refine wpAny_bind (wpAny_callSpecial?_slot (name := Str.ofString "__getitem__") ht.typeIs PyProof.Rows.slot_tuple_getitem (wpAny_call_entry PyProof.Rows.slot_tuple_getitem ht.typeIs entry_tuple_getitem ?_ (args_tuple_getitem _ _)))
  show wpAny _ _ (Builtin.Tuple.tupleItemsOf (.ref t) >>= _) _ _ s
  refine wpAny_bind (PyProof.Rows.tupleItemsOf_ ht ?_)
  refine wpAny_bind (wpAny_typeOf ty ?_)
  rw [if_pos (by decide)]
  refine wpAny_bind (applied_rev hs pl pu ps ?_)
  have no : ¬ ((((xs.size : Int) - 1) == 0 && (-1 : Int) == 1 && xs.size == xs.size) = true) := by
    intro z
    rw [Bool.and_eq_true, Bool.and_eq_true] at z
    exact absurd (eq_of_beq z.1.2) (by decide)
  show wpAny _ _ (if (((xs.size : Int) - 1) == 0 && (-1 : Int) == 1 && xs.size == xs.size) = true then _ else _) _ _ s
  rw [if_neg no, pick_rev]
  first
    | exact wpAny_bind (m := Builtin.Tuple.tupleExact xs.toList.reverse.toArray) (wpAny_newObj_type (wpAny_pure ⟨_, rfl, wpAny_pure h⟩) fits)
    | exact wpAny_bind (m := Builtin.Tuple.tupleExact xs.toList.reverse.toArray) (wpAny_newObj_type (wpAny_bind (wpAny_pure (wpAny_pure ⟨_, rfl, wpAny_pure h⟩))) fits)
    | exact wpAny_bind (wpAny_bind (m := Builtin.Tuple.tupleExact xs.toList.reverse.toArray) (wpAny_newObj_type (wpAny_pure (wpAny_pure ⟨_, rfl, wpAny_pure h⟩)) fits))
    | exact wpAny_bind (wpAny_bind (m := Builtin.Tuple.tupleExact xs.toList.reverse.toArray) (wpAny_newObj_type (wpAny_pure ⟨_, rfl, wpAny_pure h⟩) fits))
end
def tRevT (K : PySem.W.Frag) (te : TE) : TE := fun σ H Q => te σ H fun x H1 => ∃ a xs, x = .ref a ∧ SqT K H1 a xs ∧ ∀ p, H1 p = none → Q (.ref p) (upd H1 p (.tup xs.reverse))
theorem pe_revT {X : Cx} {e : PySem.Expr} {te : TE} {k : Nat} {p1 p2 p3 pos : Pos} (he : PE X e te) : PE X (.Subscript e (.Slice none none (some (.UnaryOp .USub (.Constant (.int 1) k p1) p2)) p3) pos) (tRevT X.K te) := by
  refine ⟨fun pins s σ H Q I h => ?_⟩
  refine Subscript_ (thn (he.run pins s σ H _ I h) fun v s1 ⟨x, H1, I1, r1, a, xs, ex, hx, q⟩ => ?_)
  subst ex
  cases r1
  have step : PO X (some (.UnaryOp .USub (.Constant (.int 1) k p1) p2)) (tPart (tUn (rU fun i => .int (-i)) (tC (.int 1)))) := po_some (pe_un un_neg pe_int)
  refine wpAny_Slice (thn (po_none.run pins s1 σ H1 (fun o H2 => o = none ∧ H2 = H1) I1 ⟨rfl, rfl⟩) fun vl s2 ⟨l, H2, I2, pl, el, e2⟩ => ?_)
  subst el e2
  refine thn (po_none.run pins s2 σ H2 (fun o H3 => o = none ∧ H3 = H2) I2 ⟨rfl, rfl⟩) fun vu s3 ⟨u, H3, I3, pu, eu, e3⟩ => ?_
  subst eu e3
  refine thn (step.run pins s3 σ H3 (fun o H4 => o = some (-1) ∧ H4 = H3) I3 ⟨1, rfl, -1, rfl, rfl, rfl⟩) fun vs s4 ⟨o, H4, I4, ps, eo, e4⟩ => ?_
  subst eo e4
  have J : L2.Inv X pins σ H4 { s4 with heap := s4.heap.push { cls := .type "slice", data := .fields #[vl, vu, vs] } } := I4.kept (t' := s4.toks) fun b ob z => Heap.get?_push_of_some _ z
  obtain ⟨its, r, tup, hz⟩ := J.tuple hx
  have len := r.length
  show wpAny (model X.prog X.w) X.A (subscriptTail e (.Slice none none (some (.UnaryOp .USub (.Constant (.int 1) k p1) p2)) p3) (.ref a) (.ref s4.heap.objs.size)) (EP X pins σ Q) X.xe { s4 with heap := s4.heap.push { cls := .type "slice", data := .fields #[vl, vu, vs] } }
  refine tail_any (ops := [.ref a, .ref s4.heap.objs.size]) tup.typeIs PyProof.Rows.slot_tuple_getitem.lookup ?_ (by with_unfolding_all rfl)
  refine item_rev tup (Heap.IsSliceOf.new _ vl vu vs) pl pu ps (by rw [List.size_toArray]; omega) ?_
  refine ⟨.ref _, _, J.laid (t' := s4.toks) (o := .tup xs.reverse) (fun b ob z => Heap.get?_push_of_some _ z) (Nat.le_refl _) ?_, rfl, q _ (J.hok.fresh (Nat.le_refl _))⟩
  exact ⟨by rw [List.length_reverse]; exact hz, _, r.reverse, IsTup.new _ _⟩
end Tr

set_option Elab.async false
set_option linter.all false
set_option maxRecDepth 100000
set_option maxHeartbeats 4000000
namespace Tr
open PySem PySem.Spec PyProof.Rows L2 AK Pen LamX
/-! ### several clauses `except X as n` -/
/-- one clause: its class, the slot of its name, its suite's reading -/
abbrev Cl : Type := PySem.Value × Nat × (Addr → PySem.Value → Option Addr → TS)
/-- the ends of a suite: the name at slot i is gone behind it -/
def gone (i : Nat) (D : Ends) : Ends := { nx := fun σ H => D.nx (σ.set i none) H, rt := D.rt, bk := fun σ H => D.bk (σ.set i none) H, ct := fun σ H => D.ct (σ.set i none) H }
/-- what the clauses wish of what the body lets out -/
def wCls (K : PySem.W.Frag) (Wo : WX) (D : Ends) : List Cl → WX
  | [] => Wo
  | (c, i, ts) :: more => fun cls d σ H => ∃ b, PySem.W.exmOne K cls c = some b ∧ (b = true → ∀ a, H a = none → ts a cls d (gone i D) (σ.set i (some (.ref a))) H) ∧ (b = false → wCls K Wo D more cls d σ H)
inductive ClsOk (X : Cx) : List ExceptHandler → List Cl → Prop
  | nil : ClsOk X [] []
  | cons {x n : Str} {c : PySem.Value} {i : Nat} {ts : Addr → PySem.Value → Option Addr → TS} {st : PySem.Stmt} {sts : List PySem.Stmt} {p q : Pos} {hs : List ExceptHandler} {l : List Cl} (named : Names X x c) (slot : X.N[i]? = some n) (loc : X.env.kindOf n = some .local)
      (suite : ∀ (a : Addr) (ob : Obj) (cls : PySem.Value) (d : Option Addr) (pn : List (Addr × Obj)), Zc cls d ob → (∃ vs, ob.data = .fields vs) → PSs (X.suite a ((a, ob) :: pn)) (st :: sts) (ts a cls d)) (rest : ClsOk X hs l) :
      ClsOk X (.ExceptHandler (some (.Name x p)) (some n) (st :: sts) q :: hs) ((c, i, ts) :: l)
theorem ps_try_cls {X : Cx} {body : List PySem.Stmt} {h1 : ExceptHandler} {hs : List ExceptHandler} {l : List Cl} {pos : Pos} {tb : WX → TS} {Wo : WX} (st : X.stack = X.env :: X.outer) (fr : X.env.frame = some X.env.locals) (nd : X.N.Nodup) (tk : L2.Takes X Wo)
    (hb : ∀ (W : WX) (pn : List (Addr × Obj)) (xe : PySem.Value → Shared → Prop), L2.Takes (X.tr pn xe) W → PassesOwn (model X.prog X.w) X.A X.env xe → PSs (X.tr pn xe) body (tb W)) (cls_ : ClsOk X (h1 :: hs) l) :
    PS X (.Try body (h1 :: hs) [] [] pos) (fun D σ H => tb (wCls X.K Wo D l) D σ H) := by
  refine ⟨fun pins s σ H D I reads => ?_⟩
  have okI := I.ok
  have frames : X.A.frames = some (X.env :: X.outer) := by
    rw [okI.frames, st]
  refine wpAny_Try_except ?_
  have body_ := hb (wCls X.K Wo D l) (X.pn ++ pins) (fun e sa => wpAny (model X.prog X.w) X.A (noteFrame e X.env) (fun _ sb => wpAny (model X.prog X.w) X.A (setFlight e none) (fun _ sc => wpAny (model X.prog X.w) X.A (handleBy e X.env (h1 :: hs)) (SP X pins D) X.xe sc) X.xe sb) X.xe sa)
  refine wpAny_mono ((body_ (fun u sx caught => ?_) PassesOwn.looking).run [] s σ H D (I.toTry _) reads) (fun fl sx ended => ?_) (fun e sx z => z)
  · obtain ⟨a, B, s0, pins0, σ0, H0, cls, d, rfl, I0, nb, up, sky, fresh, os, ag, wish⟩ := caught
    have I1 : L2.Inv X pins σ0 H0 s0 := I0.ofTry okI
    have sky1 : Sky B (X.env :: X.outer) a (Zc cls d) X.env.locals sx.heap := by
      rw [← st]
      exact sky
    show wpAny (model X.prog X.w) X.A (noteFrame (.ref a) X.env) _ _ _
    refine Sky.land Zc.steady frames fr sky1 fun g fl up1 => ?_
    have I2 : L2.Inv X pins σ0 H0 { sx with heap := g } := I1.landed nb fl.1 (up.trans up1) os ag
    obtain ⟨ob, vs, at_, zc, dat⟩ := fl.there
    have notIn : ∀ {h : Heap} {o : Obj} {us : Array PySem.Value}, h.FunFrames B (X.env :: X.outer) → h.get? a = some o → o.data = .fields us → a ∉ frs (X.env :: X.outer) := fun {h o us} ff e isF m => by
      obtain ⟨_, o2, e2, no⟩ := ff.mem m
      rw [e] at e2
      cases e2
      exact no _ isF
    have out := notIn fl.2.2.1 at_ dat
    have notL : a ≠ X.env.locals := fun z => out (List.mem_filterMap.mpr ⟨X.env, List.mem_cons_self, by rw [fr, z]⟩)
    have notF : a ∉ X.fs := fun m => by
      obtain ⟨e, me, z⟩ := List.mem_filterMap.mp m
      exact out (List.mem_filterMap.mpr ⟨e, List.mem_cons_of_mem _ me, z⟩)
    have S2 := I2.suite at_ dat fresh notL notF
    suffices run : ∀ {gs : List ExceptHandler} {k : List Cl}, ClsOk X gs k → wCls X.K Wo D k cls d σ0 H0 → wpAny (model X.prog X.w) X.A (handleBy (.ref a) X.env gs) (SP X pins D) X.xe { sx with heap := g } by
      exact run cls_ wish
    intro gs k ok
    induction ok with
    | nil =>
      intro wish
      refine wpAny_handleBy_nil ?_
      obtain ⟨_, _, _, o3, us, T, oT, tsT, at3, zc3, dat3, first_, _⟩ := id fl
      unfold PySem.passOn
      refine wpAny_bind (wpAny_field at3 dat3 first_ ?_)
      have no : ¬ ((PySem.Value.ref T == PySem.Value.none) = true) := by simp
      rw [if_neg no]
      have pass_ : wpAny (model X.prog X.w) X.A (setFlight (.ref a) X.env.frame) (fun _ sy => wpAny (model X.prog X.w) X.A (throw (.ref a) : Sem Flow) (SP X pins D) X.xe sy) X.xe { sx with heap := g } := by
        rw [fr]
        refine HandSPX.setFlight_upZ fl fun g2 fl2 up2 => wpAny_throw (tk _ _ ?_)
        exact ⟨a, B, s0, pins, σ0, H0, cls, d, rfl, I1, nb, (up.trans up1).trans up2, .inr (.inr (by rw [st]; exact fl2)), fresh, os, ag, wish⟩
      first
        | exact wpAny_bind (wpAny_pure (wpAny_bind pass_))
        | exact wpAny_bind pass_
    | @cons x n c i ts sm sms p q gs2 k2 named slot loc suite rest ih =>
      intro wish
      obtain ⟨b, match_, yes, no⟩ := wish
      refine wpAny_handleBy_cons (codeAny_handlers_test ?_) (by intro z; cases z)
      have looks : PySem.W.Looks (model X.prog X.w) g (typeOf (.ref a)) cls := fun A' Q' E' s' kp z => wpAny_typeOf_ref (kp _ _ at_) (by rw [zc.1]; exact z)
      have asks := PySem.W.exm_one (M := model X.prog X.w) I2.kIn looks match_
      have told : ∀ {Q' : PySem.Value → Shared → Prop} {E' : PySem.Value → Shared → Prop}, Q' c { sx with heap := g } → wpAny (model X.prog X.w) (X.A.mark (some (.ref a))) (eval (.Name x p) X.env) Q' E' { sx with heap := g } := fun {Q' E'} z => by
        obtain ⟨gl, dbg, m | ⟨m, v, nn⟩⟩ := named
        · exact ld_glob (X := X.suite a ((a, ob) :: (X.pn ++ pins))) S2 gl m z dbg
        · exact ld_blt (X := X.suite a ((a, ob) :: (X.pn ++ pins))) S2 gl m v z nn dbg
      refine told (asks.here ?_)
      cases b with
      | true =>
        refine codeAny_handlers_suite_as ?_
        refine HandSPX.lands_againZ fl fun g2 fl2 up2 => ?_
        have I3 : L2.Inv X pins σ0 H0 { sx with heap := g2 } := I1.landed nb fl2.1 ((up.trans up1).trans up2) os ag
        obtain ⟨ob2, vs2, at2, zc2, dat2⟩ := fl2.there
        have S3 := I3.suite at2 dat2 fresh notL notF
        refine store_ok (X := X.suite a ((a, ob2) :: (X.pn ++ pins))) (v := .ref a) S3 nd slot (.inl loc) rfl (fun s5 S5 => ?_) (.inr loc)
        refine wpAny_mono ((suite a ob2 cls d (X.pn ++ pins) zc2 ⟨_, dat2⟩).run [] s5 _ H0 _ S5 (yes rfl a fresh)) (fun f6 s6 z6 => ?_) (fun _ _ z => False.elim z)
        have last : ∀ {σ6 : L2.St} {H6 : Hp} {Q' : Shared → Prop}, L2.Inv (X.suite a ((a, ob2) :: (X.pn ++ pins))) [] σ6 H6 s6 → (∀ s7, L2.Inv X pins (σ6.set i none) H6 s7 → Q' s7) →
            wpAny (model X.prog X.w) X.A (do bindName X.env n .none; unbindBehindTheSuite X.env n q) (fun _ s7 => Q' s7) X.xe s6 := fun {σ6 H6 Q'} S6 z => gone_ok (S6.unsuite okI) nd slot loc z
        match f6, z6 with
        | .next, ⟨σ6, H6, S6, z⟩ => exact last S6 fun s7 J7 => ⟨_, _, J7, z⟩
        | .brk, ⟨σ6, H6, S6, z⟩ => exact last S6 fun s7 J7 => ⟨_, _, J7, z⟩
        | .cont, ⟨σ6, H6, S6, z⟩ => exact last S6 fun s7 J7 => ⟨_, _, J7, z⟩
        | .ret u, ⟨v6, σ6, H6, S6, r6, z⟩ => exact last S6 fun s7 J7 => ⟨_, _, _, J7, r6, z⟩
      | false =>
        show wpAny _ X.A (handleBy (.ref a) X.env gs2) _ _ _
        exact ih (no rfl)
  · match fl, ended with
    | .next, ⟨σ6, H6, S6, z⟩ => exact wpAny_execs_nil ⟨_, _, S6.ofTry okI, z⟩
    | .brk, ⟨σ6, H6, S6, z⟩ => exact ⟨_, _, S6.ofTry okI, z⟩
    | .cont, ⟨σ6, H6, S6, z⟩ => exact ⟨_, _, S6.ofTry okI, z⟩
    | .ret u, ⟨v6, σ6, H6, S6, r6, z⟩ => exact ⟨_, _, _, S6.ofTry okI, r6, z⟩
end Tr

set_option Elab.async false
set_option linter.all false
set_option maxRecDepth 100000
set_option maxHeartbeats 4000000
namespace Tr
open PySem PySem.Spec PyProof.Rows L2 AK Pen LamX
section
variable {K : PySem.W.Frag} {H H' : Hp}
/-! ### lists of data -/
theorem dpall_tups (t : Tups H H') : ∀ {vs : List V} {ds : List PyData}, (∀ d ∈ ds, ∃ k, keyD d = some k) → DpAll K H vs ds → DpAll K H' vs ds
  | _, _, _, .nil => .nil
  | _, _, h, .cons h1 h2 => by
    obtain ⟨k, hk⟩ := h _ (List.mem_cons_self ..)
    exact .cons (dp_tups t _ _ _ hk h1) (dpall_tups t (fun d hd => h d (List.mem_cons_of_mem _ hd)) h2)
theorem dpall_append : ∀ {vs us : List V} {ds es : List PyData}, DpAll K H vs ds → DpAll K H us es → DpAll K H (vs ++ us) (ds ++ es)
  | _, _, _, _, .nil, h => h
  | _, _, _, _, .cons h1 h2, h => .cons h1 (dpall_append h2 h)
theorem dpall_snoc : ∀ {xs : List V} {y : V} {ds : List PyData}, DpAll K H (xs ++ [y]) ds → ∃ es e, ds = es ++ [e] ∧ DpAll K H xs es ∧ Dp K H y e
  | [], y, _, h => by
    cases h with
    | cons h1 h2 =>
      cases h2
      exact ⟨[], _, rfl, .nil, h1⟩
  | x :: xs, y, _, h => by
    cases h with
    | cons h1 h2 =>
      obtain ⟨es, e, rfl, h3, h4⟩ := dpall_snoc (xs := xs) h2
      exact ⟨_ :: es, e, rfl, .cons h1 h3, h4⟩
/-! ### data of integers, strings, None and tuples of these -/
mutual
def symD : PyData → Bool
  | .none => true
  | .int _ => true
  | .str _ => true
  | .tuple ds => symDs ds
  | .bool _ => false
  | .list _ => false
  | .dict _ => false
def symDs : List PyData → Bool
  | [] => true
  | d :: ds => symD d && symDs ds
end
mutual
def wtD : PyData → Nat
  | .tuple ds => 1 + wtDs ds
  | _ => 1
def wtDs : List PyData → Nat
  | [] => 0
  | d :: ds => wtD d + wtDs ds
end
mutual
theorem sym_key : ∀ d : PyData, symD d = true → ∃ k, keyD d = some k
  | .none, _ => ⟨_, rfl⟩
  | .int _, _ => ⟨_, rfl⟩
  | .str _, _ => ⟨_, rfl⟩
  | .tuple ds, h => by
    obtain ⟨ks, e⟩ := syms_key ds (by simpa [symD] using h)
    exact ⟨.tup ks, by simp [keyD, e]⟩
  | .bool _, h => by simp [symD] at h
  | .list _, h => by simp [symD] at h
  | .dict _, h => by simp [symD] at h
theorem syms_key : ∀ ds : List PyData, symDs ds = true → ∃ ks, keyDs ds = some ks
  | [], _ => ⟨[], by simp [keyDs]⟩
  | d :: ds, h => by
    obtain ⟨h1, h2⟩ := Bool.and_eq_true_iff.mp (by simpa [symDs] using h : (symD d && symDs ds) = true)
    obtain ⟨k, e1⟩ := sym_key d h1
    obtain ⟨ks, e2⟩ := syms_key ds h2
    exact ⟨k :: ks, by simp [keyDs, e1, e2]⟩
end
theorem syms_mem : ∀ {ds : List PyData}, symDs ds = true → ∀ d ∈ ds, symD d = true
  | [], _, _, h => nomatch h
  | e :: ds, h, d, hd => by
    obtain ⟨h1, h2⟩ := Bool.and_eq_true_iff.mp (by simpa [symDs] using h : (symD e && symDs ds) = true)
    rcases List.mem_cons.mp hd with rfl | hd
    · exact h1
    · exact syms_mem h2 d hd
theorem syms_app : ∀ {ds es : List PyData}, symDs (ds ++ es) = (symDs ds && symDs es)
  | [], es => by simp [symDs]
  | d :: ds, es => by
    have := syms_app (ds := ds) (es := es)
    simp only [List.cons_append, symDs, this, Bool.and_assoc]
theorem wts_app : ∀ {ds es : List PyData}, wtDs (ds ++ es) = wtDs ds + wtDs es
  | [], es => by simp [wtDs]
  | d :: ds, es => by
    have := wts_app (ds := ds) (es := es)
    simp only [List.cons_append, wtDs, this]
    omega
theorem wt_pos (d : PyData) : 1 ≤ wtD d := by
  cases d <;> simp [wtD]
theorem wts_len : ∀ ds : List PyData, ds.length ≤ wtDs ds
  | [] => by simp [wtDs]
  | d :: ds => by
    have := wts_len ds
    have := wt_pos d
    simp only [List.length_cons, wtDs]
    omega
end
end Tr

set_option Elab.async false
set_option linter.all false
set_option maxRecDepth 100000
set_option maxHeartbeats 4000000
namespace RU
open PySem PySem.Spec PyProof.Rows L2 Tr AK LamX
/-- t + u, whatever of them is empty -/
def rCatU (K : PySem.W.Frag) : R2 := fun x y H Q => ∃ a b xs ys, x = .ref a ∧ y = .ref b ∧ SqT K H a xs ∧ SqT K H b ys ∧ xs.length + ys.length ≤ sizeLine ∧ ∀ p H', Same H H' → SqT K H' p (xs ++ ys) → Q (.ref p) H'
theorem op_catU {X : Cx} : OpR X (binaryOp .Add) (rCatU X.K) := by
  intro pins s σ H x y v u Q I rx ry h
  obtain ⟨a, b, xs, ys, rfl, rfl, h1, h2, hl, q⟩ := h
  refine op_catA pins s σ H _ _ v u Q I rx ry ⟨a, b, xs, ys, rfl, rfl, h1, h2, hl, fun z => ?_, fun _ z => ?_, fun _ _ p np => ?_⟩
  · refine q b H same_refl ?_
    rw [z]
    exact h2
  · refine q a H same_refl ?_
    rw [z, List.append_nil]
    exact h1
  · exact q p _ (same_upd np) (SqT.of upd_same)
/-- (z,) * k -/
def rRepU (K : PySem.W.Frag) : R2 := fun x y H Q => ∃ l k z, x = .ref l ∧ y = .int k ∧ SqT K H l [z] ∧ -1000 ≤ k ∧ k ≤ 1000 ∧ ∀ p H', Same H H' → SqT K H' p (List.replicate k.toNat z) → Q (.ref p) H'
theorem rep_flat {α : Type} (a : α) : ∀ n, (List.replicate n [a]).flatten = List.replicate n a
  | 0 => rfl
  | n + 1 => by rw [List.replicate_succ, List.flatten_cons, rep_flat a n, List.replicate_succ]; rfl
theorem op_repU {X : Cx} : OpR X (binaryOp .Mult) (rRepU X.K) := by
  intro pins s σ H x y v u Q I rx ry h
  obtain ⟨l, k, z, rfl, rfl, h1, k0, k1, q⟩ := h
  refine op_repAny pins s σ H _ _ v u Q I rx ry ?_
  by_cases c0 : k ≤ 0
  · refine .inl ⟨l, k, [z], rfl, rfl, h1, (fun e => nomatch e), .inr ⟨k0, c0, fun p np => q p _ (same_upd np) ?_⟩⟩
    rw [show k.toNat = 0 by omega]
    exact SqT.of upd_same
  · by_cases c1 : k = 1
    · refine .inl ⟨l, k, [z], rfl, rfl, h1, (fun e => nomatch e), .inl ⟨c1, q l H same_refl ?_⟩⟩
      rw [c1]
      exact h1
    · refine .inr ⟨l, k, [z], rfl, rfl, h1, (fun e => nomatch e), by omega, k1, (by show 1 ≤ 1000; decide), fun p np => q p _ (same_upd np) ?_⟩
      have e : (List.replicate k.toNat [z]).flatten = List.replicate k.toNat z := rep_flat z _
      rw [← e]
      exact SqT.of upd_same
end RU

set_option Elab.async false
set_option linter.all false
set_option maxRecDepth 100000
set_option maxHeartbeats 4000000
namespace RU
open PySem PySem.Spec PyProof.Rows L2 Tr AK LamX
/-- (z,) * k, k to 100000 -/
def rRepV (K : PySem.W.Frag) : R2 := fun x y H Q => ∃ l k z, x = .ref l ∧ y = .int k ∧ SqT K H l [z] ∧ -1000 ≤ k ∧ k ≤ 100000 ∧ ∀ p H', Same H H' → SqT K H' p (List.replicate k.toNat z) → Q (.ref p) H'
theorem op_repV {X : Cx} : OpR X (binaryOp .Mult) (rRepV X.K) := by
  intro pins s σ H x y v u Q I rx ry h
  obtain ⟨l, k, z, rfl, rfl, hT, k0, k1, q⟩ := h
  by_cases small : k ≤ 1000
  · exact op_repU pins s σ H _ _ v u Q I rx ry ⟨l, k, z, rfl, rfl, hT, k0, small, q⟩
  cases rx
  obtain ⟨t, rfl⟩ := ry
  obtain ⟨its, r, ⟨⟨cls, dd, data, sl⟩, ho, hc, n, hd⟩, hs⟩ := I.tuple hT
  simp only at hc hd
  subst hc hd
  have one : its.length = 1 := r.length.symm
  have hi : its.toArray.isEmpty = false := by
    cases its with
    | nil => cases one
    | cons a b => rfl
  have sz : its.toArray.size = 1 := by rw [List.size_toArray, one]
  have flen : (List.replicate k.toNat its).flatten.length = k.toNat := by
    rw [PyProof.Rows.lm_len_rep_flat, one, Nat.mul_one]
  have c0 : (decide (k < -(2 ^ 63)) || decide (k ≥ 2 ^ 63)) = false := by
    rw [decide_eq_false (by omega), decide_eq_false (by omega)] <;> rfl
  have c1 : (its.toArray.isEmpty || k == 1) = false := by
    rw [hi, Bool.false_or]
    exact beq_eq_false_iff_ne.mpr (by omega)
  have c2 : (decide (k ≤ 0) || its.toArray.isEmpty) = false := by
    rw [hi, Bool.or_false]
    exact decide_eq_false (by omega)
  have c3 : ¬ ((its.toArray.size : Nat) : Int) * k > (2 ^ 63 - 1) / 8 := by
    rw [sz]
    omega
  have c4 : Builtin.Tuple.tupleTooMany (((its.toArray.size : Nat) : Int) * k) = false := by
    unfold Builtin.Tuple.tupleTooMany
    rw [sizeLine_eq, sz]
    exact decide_eq_false (by omega)
  have c5 : (List.foldl (fun x1 x2 => x1 ++ x2) #[] (List.replicate k.toNat its.toArray)).size ≤ sizeLine := by
    rw [size_rep, List.size_toArray, flen, sizeLine_eq]
    omega
  refine wpAny_binaryOp_repeat_ref (T := "tuple") (U := "int") (by decide) ⟨_, ho, rfl⟩ (fun s' => typeIs_int s' k t) noFill_tuple_mul F.fills_int_mul F.slot_int_rmul repeat_tuple F.slot_int_index.lookup
    (call_meets F.slot_int_rmul (typeIs_int s k t) F.entry_int_rmul (F.args_int_rmul_2 _ _) (int_rmul_tuple k t l its.toArray n dd sl)
      ⟨ho, rfl, ⟨_, ho, rfl⟩, call_meets F.slot_tuple_mul ⟨_, ho, rfl⟩ F.entry_tuple_mul (F.args_tuple_mul_2 _ _) (tuple_mulW l its.toArray n dd sl k t c0 c1 c2 c3 c4 c5) ⟨ho, ?_⟩⟩)
  rw [size_rep]
  have e : (List.replicate k.toNat [z]).flatten = List.replicate k.toNat z := rep_flat z _
  refine ⟨.ref s.heap.objs.size, _, I.laid (t' := s.toks) (o := .tup (List.replicate k.toNat [z]).flatten) (fun b ob q => Heap.get?_push_of_some _ q) (Nat.le_refl _) ?_, rfl, q _ _ (same_upd (I.hok.fresh (Nat.le_refl _))) ?_⟩
  · exact ⟨by rw [e, List.length_replicate, sizeLine_eq]; omega, _, r.rep k.toNat, IsTup.new _ _⟩
  · rw [← e]
    exact SqT.of upd_same
end RU

set_option Elab.async false
set_option linter.all false
set_option maxRecDepth 100000
set_option maxHeartbeats 4000000
/-! what runs within an except suite: a tuple walked by a comprehension; errors of one's own that are known to have no context -/
namespace Hs
open PySem PySem.Spec PyProof.Rows L2 HotX
section
variable {prog : Program} {w : World} {A : Around} {E : PySem.Value → Shared → Prop} {s : Shared}
/-- the tuple's walk is over -/
theorem tuple_over {it t x1 : Addr} {i : Nat} {xs : Array PySem.Value} {Q : Option PySem.Value → Shared → Prop} (hot : HotAt A x1 s.heap) (apart : x1 ≠ it) (walk : s.heap.IsTupleIter it t i) (ht : s.heap.IsTuple t xs) (out : xs[i]? = none)
    (k : ∀ h', Heap.ExtBut it s.heap h' → Q none { s with heap := h' }) : wpAny (model prog w) A (pyNext (.ref it)) Q E s := by
  obtain ⟨hh, ox, vx, gx, dx, cx⟩ := hot
  obtain ⟨ow, gw, cw, dw⟩ := id walk
  obtain ⟨ot, gt, _, nt, dt⟩ := ht
  unfold pyNext
  refine wpAny_bind (wpAny_attempt (wpAny_callSpecial?_slot (name := Str.ofString "__next__") walk.typeIs F.slot_tuple_iterator_next (wpAny_call_entry F.slot_tuple_iterator_next walk.typeIs F.entry_tuple_iterator_next ?_ (F.args_tuple_iterator_next_1 _))))
  show wpAny _ _ ((field (Value.ref it) 0) >>= _) _ _ s
  refine wpAny_bind (wpAny_field gw dw (x := Value.ref t) rfl ?_)
  show wpAny _ _ (if (Value.ref t == Value.none) = true then _ else _) _ _ _
  have never : ¬ ((Value.ref t == Value.none) = true) := fun z => Bool.false_ne_true z
  rw [if_neg never]
  show wpAny _ _ ((field (Value.ref it) 1) >>= _) _ _ s
  refine wpAny_bind (wpAny_field gw dw (x := Value.int i 0) rfl ?_)
  show wpAny _ _ ((seqItems? (Value.ref t)) >>= _) _ _ s
  refine wpAny_bind (wpAny_seqItems gt dt ?_)
  simp only [Int.toNat_natCast, out]
  refine wpAny_bind (wpAny_rule (wpAny_bind (wpAny_setField gw dw (by simp) ?_)))
  show wpAny _ _ ((newExc (.type "StopIteration") []) >>= _) _ _ _
  refine wpAny_bind ?_
  simp only [newExc, newTuple]
  refine wpAny_bind (wpAny_newObj_type ?_ (by size_fits))
  refine wpAny_bind (m := firstArgMember _ _) (wpAny_of_eq (a := PySem.Value.none) (by first | rfl | (simp only [firstArgMember]; rfl)) ?_)
  refine wpAny_newObj_type ?_ (by size_fits)
  have g1 := (Heap.get?_update_other s.heap (Obj.mapFields (·.setIfInBounds 0 PySem.Value.none)) (Ne.symm apart)).trans gx
  refine raiseNew_hot ⟨hh, ox, vx, Heap.get?_push_of_some _ (Heap.get?_push_of_some _ g1), dx, cx⟩ (Nat.ne_of_lt (Heap.lt_size (Heap.get?_push_of_some _ g1))) (Heap.get?_push_size _ rfl) rfl (by first | (simp; done) | (simp; omega) | (simp only [Array.size_append]; simp; omega)) ?_
  refine wpAny_bind (wpAny_isInstance (T := "StopIteration") (b := true) ⟨_, Heap.get?_update_self _ (Heap.get?_push_size _ rfl) rfl, rfl⟩ isSubtype_stop (wpAny_pure (k _ fun b o nb e => ?_)))
  have g2 := (Heap.get?_update_other s.heap (Obj.mapFields (·.setIfInBounds 0 PySem.Value.none)) (Ne.symm nb)).trans e
  rw [Heap.get?_update_other _ _ (Nat.ne_of_gt (Heap.lt_size (Heap.get?_push_of_some _ g2)))]
  exact Heap.get?_push_of_some _ (Heap.get?_push_of_some _ g2)
end

theorem hot_mark {X : Cx} {a : Addr} {oe : Obj} {cls : PySem.Value} {d : Option Addr} {pn : List (Addr × Obj)} (z : L2N.Zn cls d oe) (hf : ∃ vs, oe.data = .fields vs) : L2H.HotC (X.suite a ((a, oe) :: pn)) := by
  obtain ⟨vs, e⟩ := hf
  exact ⟨(a, oe), ⟨rfl, vs, e, z.2.2 vs e⟩, List.mem_cons_self ..⟩
/-- a comprehension of a tuple, within an except suite -/
theorem pe_lcH {X : Cx} {elt tg src : PySem.Expr} {ifs : List PySem.Expr} {scope : Scope} {own : List (Str × Nat)} {pos : Pos} {tl : TE} {g : TG} {tt : TT} {te : TE} (hot : L2H.HotC X) (nd : X.N.Nodup) (tuple : PE X src tl) (blk : BlkOk X.N X.env.scope scope own)
    (target : ∀ (s : Shared) (H : Hp) (C : Addr) (cl : List (Str × Addr)) (fp : List Addr), PG (X.blk s H scope (compEnvC scope cl C X.env) fp) tg g)
    (tests : ∀ (s : Shared) (H : Hp) (C : Addr) (cl : List (Str × Addr)) (fp : List Addr), PTs (X.blk s H scope (compEnvC scope cl C X.env) fp) ifs tt)
    (elem : ∀ (s : Shared) (H : Hp) (C : Addr) (cl : List (Str × Addr)) (fp : List Addr), PE (X.blk s H scope (compEnvC scope cl C X.env) fp) elt te) (plain : ∀ x, foldedSetIterable src X.env x = pure x := by intro _; rfl) :
    PE X (.ListComp elt [⟨tg, src, ifs, 0⟩] scope pos) (tLc (iTup X.K tl) g tt te (own.map (·.2))) := by
  obtain ⟨px, ⟨hh, vx, dx, cx⟩, hpx⟩ := hot
  refine ⟨fun pins s0 σ H0 Q I0 start => ?_⟩
  rw [eval_ListComp]
  have caught : ∀ y ∈ scope.names, y.2 = .free → ∃ c, X.env.cells.lookup y.1 = some c := fun y hy e => (blk.free y hy e).elim (fun k => I0.ok.has _ (.inl k)) fun k => I0.ok.has _ (.inr k)
  refine wpAny_comprehension_free (use := _) rfl plain (closure_ok caught) blk.kind (fun y hy e => by rw [blk.uniq y hy, e]) (thn (tuple.run pins s0 σ H0 _ I0 start) fun _ sa ha => ?_)
  obtain ⟨x, Ha, Ia, rx, a, rfl, ⟨xs, hxs⟩, more⟩ := ha
  cases rx
  obtain ⟨its, _, pt, _⟩ := Ia.tuple hxs
  refine wpAny_pyIter_tuple (show sa.heap.IsTuple a its.toArray from pt) ?_
  have feetA : FpOk X pins Ha sa.heap.objs.size := Ia.fpOk (Nat.le_refl _) (Ia.hok.fresh (Nat.le_refl _))
  have Ib : L2.Inv X pins σ Ha { sa with heap := sa.heap.push { cls := .type "tuple_iterator", data := .fields #[.ref a, .int 0 0] } } := Ia.kept (t' := sa.toks) fun b o e => Heap.get?_push_of_some _ e
  have atA : (sa.heap.push { cls := .type "tuple_iterator", data := .fields #[.ref a, .int 0 0] }).IsTupleIter sa.heap.objs.size a 0 := ⟨_, Heap.get?_push_size _ rfl, rfl, rfl⟩
  have ltA : sa.heap.objs.size < (sa.heap.push { cls := .type "tuple_iterator", data := .fields #[.ref a, .int 0 0] }).objs.size := by rw [Heap.size_push]; exact Nat.lt_succ_self _
  generalize eB : ({ sa with heap := sa.heap.push { cls := .type "tuple_iterator", data := .fields #[.ref a, .int 0 0] } } : Shared) = sb at Ib
  have hB : sa.heap.push { cls := .type "tuple_iterator", data := .fields #[.ref a, .int 0 0] } = sb.heap := by rw [← eB]
  rw [hB] at atA ltA
  generalize sa.heap.objs.size = it at feetA atA ltA ⊢
  refine wpAny_newObj_type (newEnv_comp ?_) (by show 0 ≤ sizeLine; decide)
  obtain ⟨Left, ⟨mFirst, first⟩, each⟩ := more sb.heap.objs.size (Ib.hok.fresh (Nat.le_refl _))
  have Ic : L2.Inv X pins σ (upd Ha sb.heap.objs.size (.lst [])) { sb with heap := sb.heap.push { cls := .type "list", data := .seq ([] : List PySem.Value).toArray } } :=
    Ib.laid (t' := sb.toks) (fun b o e => Heap.get?_push_of_some _ e) (Nat.le_refl _) ⟨Nat.zero_le _, [], 0, .nil, Heap.get?_push_size _ rfl⟩
  have feet1 : FpOk X pins (upd Ha sb.heap.objs.size (.lst [])) it := ⟨by rw [upd_ne (Nat.ne_of_lt ltA)]; exact feetA.1, feetA.2⟩
  have at1 : (sb.heap.push { cls := .type "list", data := .seq ([] : List PySem.Value).toArray }).IsTupleIter it a 0 := atA.at fun o e => Heap.get?_push_of_some _ e
  have lt1 : it < (sb.heap.push { cls := .type "list", data := .seq ([] : List PySem.Value).toArray }).objs.size := by rw [Heap.size_push]; exact Nat.lt_succ_of_lt ltA
  generalize eC : ({ sb with heap := sb.heap.push { cls := .type "list", data := .seq ([] : List PySem.Value).toArray } } : Shared) = sc at Ic
  have hC : sb.heap.push { cls := .type "list", data := .seq ([] : List PySem.Value).toArray } = sc.heap := by rw [← eC]
  rw [hC] at at1 lt1
  generalize sb.heap.objs.size = d at Ic feet1 first each ⊢
  generalize eH : upd Ha d (.lst []) = HC at Ic feet1 first
  have feetC : ∀ b ∈ [it], FpOk X pins HC b ∧ b < sc.heap.objs.size := fun b hb => by
    obtain rfl := List.mem_singleton.mp hb
    exact ⟨feet1, lt1⟩
  have Id := block_start Ic blk nd feetC
  have ptg := target sc HC sc.heap.objs.size (cellsFrom (sc.heap.objs.size + 1) scope.names (cloFrom X.env.cells scope.names [])) [it]
  have pts := tests sc HC sc.heap.objs.size (cellsFrom (sc.heap.objs.size + 1) scope.names (cloFrom X.env.cells scope.names [])) [it]
  have pel := elem sc HC sc.heap.objs.size (cellsFrom (sc.heap.objs.size + 1) scope.names (cloFrom X.env.cells scope.names [])) [it]
  show codeAny _ _ (.compStart (.ListComp elt [⟨tg, src, ifs, 0⟩] scope pos) 0 (.ref it) (.ref d) (compEnvC scope (cellsFrom (sc.heap.objs.size + 1) scope.names (cloFrom X.env.cells scope.names [])) sc.heap.objs.size X.env)) (compPost (model X.prog X.w) X.A X.xe none (EP X pins σ Q) (.ref d) sc.heap.objs.size) { sc with heap := pushCells (sc.heap.push { cls := .type "dict", data := .dict #[] }) scope.names }
  generalize eEnv : compEnvC scope (cellsFrom (sc.heap.objs.size + 1) scope.names (cloFrom X.env.cells scope.names [])) sc.heap.objs.size X.env = env at Id ptg pts pel ⊢
  have eLoc : env.locals = sc.heap.objs.size := by rw [← eEnv] <;> rfl
  generalize eD : ({ sc with heap := pushCells (sc.heap.push { cls := .type "dict", data := .dict #[] }) scope.names } : Shared) = sd at Id ⊢
  have at2 : sd.heap.IsTupleIter it a 0 := by
    rw [← eD]
    exact at1.at fun o e => pushCells_keeps _ _ _ _ (Heap.get?_push_of_some _ e)
  -- the exception that is handled stays as it is
  obtain ⟨x1, x2, _, x4, _⟩ := Ic.pin px (List.mem_append_left _ hpx)
  have notIt : px.1 ≠ it := feet1.2.2.2.2.2 px (List.mem_append_left _ hpx)
  have notFr : px.1 ∉ frs X.stack := fun m => (List.mem_cons.mp (Ic.stkSub px.1 m)).elim (Ic.pin px (List.mem_append_left _ hpx)).2.2.1 x4
  have warm : ∀ {σ' : L2.St} {H' : Hp} {s' : Shared}, L2.Inv (X.blk sc HC scope env [it]) [] σ' H' s' → HotAt X.A px.1 s'.heap := fun I' =>
    ⟨hh, px.2, vx, I'.base.keep px.1 px.2 x1 x2 notFr (fun m => notIt (List.mem_singleton.mp m)), dx, cx⟩
  have keptApart : ∀ {σ' : L2.St} {H' : Hp} {s' : Shared}, L2.Inv (X.blk sc HC scope env [it]) [] σ' H' s' → H' it = none → FpOk (X.blk sc HC scope env [it]) [] H' it := fun I' no => by
    obtain ⟨y1, y2⟩ := I'.ok.exf it (List.mem_singleton.mpr rfl)
    exact ⟨no, y1, I'.ok.exfs it (List.mem_singleton.mpr rfl), .inl (List.mem_singleton.mpr rfl), fun x c e => y2 x c e, fun p hp => by simp at hp⟩
  have turns : codeAny (model X.prog X.w) X.A (.compLoop (.ListComp elt [⟨tg, src, ifs, 0⟩] scope pos) 0 (.ref it) (.ref d) env) (compPost (model X.prog X.w) X.A X.xe none (EP X pins σ Q) (.ref d) sc.heap.objs.size) sd := by
    refine compLoop_any (fun n s' => ∃ i H', L2.Inv (X.blk sc HC scope env [it]) [] (wipe σ (own.map (·.2))) H' s' ∧ s'.heap.IsTupleIter it a i ∧ H' it = none ∧ Left i n H') ?_ mFirst ⟨0, HC, Id, at2, feet1.1, first⟩
    rintro n s1 ⟨i, H1, I1, p1, no1, left⟩
    obtain ⟨f0, f1, f2, f3, f4, f5⟩ := keptApart I1 no1
    rcases each i n H1 left with ⟨⟨ys, hys, past⟩, here⟩ | ⟨⟨ys, x, hys, hx⟩, Next, down, turn⟩
    · obtain ⟨its1, rv1, pt1, _⟩ := I1.tuple hys
      have same := rv1.length
      refine tuple_over (warm I1) notIt p1 (show s1.heap.IsTuple a its1.toArray from pt1) (by simp; omega) fun h' eb => ?_
      have I2 : L2.Inv (X.blk sc HC scope env [it]) [] (wipe σ (own.map (·.2))) H1 { s1 with heap := h' } := I1.turned (t' := s1.toks) (fun b o hb e => eb b o hb e) f0 f1 f3 f4 f5
      have back : L2.Inv X pins σ H1 { s1 with heap := h' } := Ic.call' (ch := [it]) I2.os I2.base I2.hok I2.bare fun b hb => by
        obtain ⟨⟨_, y1, _, y2, y3, y4⟩, _⟩ := feetC b hb
        exact ⟨y2, y1, y3, y4⟩
      have nLoc : H1 sc.heap.objs.size = none := by
        rw [← eLoc]
        exact I2.free
      obtain ⟨m, hm, _⟩ := I2.loc
      have hm2 : h'.Ns sc.heap.objs.size m := by
        rw [← eLoc]
        exact hm
      refine ⟨m, hm2, fun h'' sb2 => ?_⟩
      obtain ⟨y0, y1, y2, y3, y4, y5⟩ := Ic.fpOk (Nat.le_refl _) nLoc
      exact ⟨.ref d, H1, back.turned (t' := s1.toks) (fun b o hb e => (sb2.2 b hb).trans e) y0 y1 y3 y4 y5, rfl, here⟩
    · obtain ⟨its1, rv1, pt1, _⟩ := I1.tuple hys
      obtain ⟨u, hu, ru⟩ := rv1.get hx
      refine wpAny_pyNext_tuple_item p1 (show s1.heap.IsTuple a its1.toArray from pt1) (x := u) (by simpa using hu) fun h' st' sb2 => ?_
      have I2 : L2.Inv (X.blk sc HC scope env [it]) [] (wipe σ (own.map (·.2))) H1 { s1 with heap := h' } := I1.turned (t' := s1.toks) (fun b o hb e => (sb2.2 b hb).trans e) f0 f1 f3 f4 f5
      obtain ⟨ow, gw, cw, dw⟩ := id st'
      refine go_of (s := { s1 with heap := h' }) gw cw dw (by decide) ?_
      have I2p := I2.pinned (fp := [it]) (fun b hb => by
        obtain rfl := List.mem_singleton.mp hb
        exact keptApart I2 no1) (fun b hb => by
        obtain rfl := List.mem_singleton.mp hb
        exact ⟨ow, gw, fun v z => by rw [dw] at z; cases z⟩)
      refine thnF (ptg.run _ _ _ H1 x u _ I2p ru (turn x H1 ⟨rfl, fun zs hzs => by rw [I1.tuple_inj hzs hys]; exact hx⟩)) fun _ s4 z => ?_
      obtain ⟨σ4, H4, I4, same, q4⟩ := z
      refine thnF (pts.run _ s4 σ4 H4 _ I4 q4) fun good s5 z => ?_
      obtain ⟨H5, I5, q5⟩ := z
      have ends : ∀ {se : Shared} {He : Hp}, L2.Inv (X.blk sc HC scope env [it]) ([] ++ pinsAt [it] h') σ4 He se → Next He → ∃ m, m < n ∧ ∃ i H', L2.Inv (X.blk sc HC scope env [it]) [] (wipe σ (own.map (·.2))) H' se ∧ se.heap.IsTupleIter it a i ∧ H' it = none ∧ Left i m H' := fun {se He} Ie nx => by
        obtain ⟨m', lower, left'⟩ := down He nx
        have z := Ie.pin (it, ow) (List.mem_append_right _ (List.mem_append_right _ (mem_pinsAt (List.mem_singleton.mpr rfl) gw)))
        refine ⟨m', lower, i + 1, He, (Ie.unpinned (pins := [])).weak (by rw [← same, wipe_length]) (fun j v e => ?_), ⟨ow, z.1, cw, dw⟩, z.2.1, left'⟩
        rw [← same] at e
        exact (wipe_some e).1
      cases good with
      | false =>
        simp only [Bool.false_eq_true, if_false] at q5 ⊢
        exact ends I5 q5
      | true =>
        simp only [if_true] at q5 ⊢
        refine thnF (pel.run _ s5 σ4 H5 _ I5 q5) fun yv s6 z => ?_
        obtain ⟨y, H6, I6, ry, acc, e6, few, nx⟩ := z
        exact app_ok (X := X.blk sc HC scope env [it]) I6 e6 few ry fun s7 I7 => ends I7 nx
  exact codeAny_compStart_list turns (wpAny_pyIter_tupleiter at2 turns)
/-! ### defs that run within an except suite -/
section
variable {P : Program} {w : World} {K : PySem.W.Frag} {mg : Str → Option PySem.Value} {base : Heap} {x qual : Str} {params : Arguments} {body : List PySem.Stmt} {scope : Scope} {dvs : List V} {kws : List (Str × V)} {f : Addr} {fd : FuncData}
theorem okH {CX : CXT} {N ps : List Str} {k : Nat} {sp : Sp} (D : FunD K x qual params body scope dvs kws f fd) (S : FnScope N ps scope) (len : ∀ vs H Q E, sp vs H Q E → vs.length = ps.length)
    (walk : ∀ (cdv : PySem.Value) (A : Around) (outer : List Env) (s : Shared) (H : Hp) (vs : List V) (Q : VK) (E : XK) (p : Addr × Obj), L2H.Hot1 A p → L2H.RoomH k (A.deeper (envOfC qual scope s.heap.objs.size f cdv)) → sp vs H Q E →
      ∃ t, PSs (L2H.cxH CX P w K mg base N qual scope f cdv A outer s H E p) body t ∧ t { nx := fun _ H' => Q .non H', rt := Q } (start N vs) H) : L2H.FnH P w K mg base CX (k + 1) f fd ps sp := by
  obtain ⟨_, _, _, _, _, _, _, _, _, _, rfl, found, isCode, _, _⟩ := D.ex
  exact L2H.fn_ofH found isCode S len fun A outer s H vs Q E p hot room h => walk _ A outer s H vs Q E p hot room h
end
/-! ### errors of one's own: nothing stands behind them -/
theorem pmk_erN {X : Cx} {k : Nat} {x : Str} {C : Addr} {fs : List Str} {ta : TA} {e : PySem.Expr} {es : List PySem.Expr} {p pos : Pos} (T : Tr.Er X.prog X.w X.K X.mg X.base x C fs) (room : Room (k + 2) X.A) (glob : Gl X x) (ha : PA X (e :: es) ta)
    (hdb : (x == ("__debug__" : Str)) = false := by decide) (he : starEach (e :: es) X.env = (false, eval e X.env) :: starEach es X.env := by rfl) (hpl : (backTo pos (starEach es X.env)).any (·.1) = false := by rfl) :
    L2N.PMk X (.Call (.Name x p) (e :: es) [] pos) (tMkO C (Tr.spI C fs) [] ta) := by
  obtain ⟨fI, fd, iC, tI, F1, hb⟩ := T.ini
  obtain ⟨nm, q, N, bs, bm, sn, sub, ab, col, dd, k0, k1, k2, k3, k5, hC, hbm⟩ := T.t.o.cls
  intro pins s σ H Q I h
  refine wpAny_Call_Name_kw (ld_glob I glob T.mgx ?_ hdb)
  refine PySem.W.callWith_K (h₀ := X.base) I.ok.mod.kin T.t.o.kC (thn (ha.run pos pins s σ H _ I h) fun us s1 hus => ?_) he hpl
  obtain ⟨vs, H1, I1, r1, hz, q1⟩ := hus
  refine ⟨I1.kIn, ?_⟩
  show wpAny _ _ (call (Value.ref C) us) _ _ _
  obtain ⟨hp, g, dr, tk, os⟩ := s1
  have above : hp.objs.size ≤ hp.objs.size + 1 := Nat.le_succ _
  have hq := q1 (hp.objs.size + 1) (I1.hok.fresh above)
  rw [List.append_nil] at hq
  have keep : ∀ b o, hp.get? b = some o → ((hp.push (PySem.W.kdv_tup us)).push (PySem.HandSPX.excO C hp.objs.size)).get? b = some o := fun b o z => Heap.get?_push_of_some _ (Heap.get?_push_of_some _ z)
  have I2 : L2.Inv X pins σ (upd H1 (hp.objs.size + 1) (exo (hp.objs.size + 1) C none)) ⟨(hp.push (PySem.W.kdv_tup us)).push (PySem.HandSPX.excO C hp.objs.size), g, dr, tk, os⟩ :=
    I1.laid (t' := tk) (a := hp.objs.size + 1) (o := exo (hp.objs.size + 1) C none) (h' := (hp.push (PySem.W.kdv_tup us)).push (PySem.HandSPX.excO C hp.objs.size)) keep above (exo_ok (by heap_get))
  have r2 : Vals (V.ref (hp.objs.size + 1) :: vs) (Value.ref (hp.objs.size + 1) :: us) := .cons rfl r1
  have many : (Value.ref (hp.objs.size + 1) :: us).length = (("self" : Str) :: fs).length := by
    rw [← r2.length]
    exact F1.len _ _ _ _ hq
  have few : us.length ≤ sizeLine := by
    rw [← Paired.length r1, sizeLine_eq]
    omega
  have b2 := hb ⟨(hp.push (PySem.W.kdv_tup us)).push (PySem.HandSPX.excO C hp.objs.size), g, dr, tk, os⟩ (Value.ref (hp.objs.size + 1) :: us) I2.kIn (by rw [List.append_nil]; exact many)
  rw [List.append_nil] at b2
  refine wpAny_call (PySem.HandSPX.call_own F.excBase_ValueError (fun Y => PySem.HandSPX.refsVE_contains Y bm hbm) (I1.kIn _ _ hC) (PySem.W.looks_findIn I1.kIn iC) (fun self => PySem.W.bind_fn I1.kIn self tI) few (codeAny_mono (F1.run _ X.stack _ _ ⟨Value.ref (hp.objs.size + 1) :: us, []⟩ (Value.ref (hp.objs.size + 1) :: us) _ _ (fun _ _ _ => False) ((room.mono (show 1 + 1 ≤ k + 2 by omega)).make C us []) (I2.env0.make C us []) b2 r2 hq) fun r s' z => ?_))
  cases r with
  | error er => exact pass0 pins σ _ _ er s' I2 z
  | ok fl =>
    cases fl with
    | next => exact z.elim
    | brk => exact z.elim
    | cont => exact z.elim
    | ret u =>
      obtain ⟨v, H2, os2, bare2, un2, hok2, rv, rfl, d, gs, ea, ed, hd1, q2⟩ := z
      obtain ⟨h2, g2, d2, t2, os'⟩ := s'
      obtain ⟨t0, G, J, kG, ge, hoe, na⟩ := mk_end0 (d2 := d2) (t2 := t2) I1 above keep un2 hok2 os2 bare2 ea ed hd1
      exact ⟨rv, hp.objs.size + 1, _, _, ⟨G, g2, d2, t2, os'⟩, _, .ref C, some d, rfl, J, kG, ge, hoe, ⟨rfl, rfl, fun vs hv => by cases hv; rfl⟩, rfl, rfl, na, rfl, bare2, raises_own T.t.o.exC T.t.o.tyC, q2⟩
theorem passN {X : Cx} : Passes (L2N.CX X.prog X.w) X E0 := fun _ _ _ _ _ _ _ h => by
  obtain ⟨a, B, H', cls, d, z⟩ := h
  exact z.2.2.2.2.2.2.2.elim
end Hs

set_option Elab.async false
set_option linter.all false
set_option maxRecDepth 100000
set_option maxHeartbeats 4000000
namespace K38
open PySem PySem.Spec PyProof.Rows L2 Tr
def top (i : Nat) : Stmt := PySem.Challenge.pw_tilesregrow_k38_whole_towers.main.body.getD i (.Pass ⟨0, 0, 0, 0⟩)
abbrev sPen : Stmt := top 43
abbrev sDraw : Stmt := top 44
abbrev sPick : Stmt := top 45
abbrev cReach (j : Nat) : Stmt := inClass (top 18) j
abbrev cSw (j : Nat) : Stmt := inClass (top 20) j
abbrev cWk (j : Nat) : Stmt := inClass (top 28) j
def mkD (x : Str) (st : Stmt) : He.DefD := ⟨(x, none), x, x, defArgs st, defBody st, defScope st, [], []⟩
def mkM (x m : Str) (q : Str) (st : Stmt) : He.DefD := ⟨(x, some m), m, q, defArgs st, defBody st, defScope st, [], []⟩
def errs : List Str := ["BadNumber", "TooMany"]
def fn : List He.DefD := [mkD "is_direction" (top 3), mkD "in_order" (top 4), mkD "is_integer" (top 12), mkD "is_datum" (top 13), mkD "is_symbol" (top 14), mkD "is_tuple_of" (top 15), mkD "by_repr" (top 16), mkD "is_first" (top 21), mkD "are_steps" (top 22), mkD "is_step" (top 23), mkD "are_turns" (top 24), mkD "is_turn" (top 25), mkD "letters_of" (top 26), mkD "states_of" (top 27), mkD "run" (top 29), mkD "lengths_of" (top 34), mkD "check_within" (top 35), mkD "digits_needed" (top 36), mkD "digits_that_run_over" (top 37), mkD "handing_steps" (top 38), mkD "adding_machine" (top 39), mkD "counting_machine" (top 40), mkD "tower" (top 41), mkD "_law_pen" (top 43), mkD "_law_draw" (top 44), mkD "_law_pick" (top 45), mkD "_law_sh_digits" (top 46), mkD "_law_sh_row" (top 47), mkD "_law_sh_number" (top 48), mkD "_law_refused" (top 49), mkD "_law_tower_right" (top 50), mkD "law" (top 51),
  mkM "BadNumber" "__init__" "BadNumber.__init__" (inClass (top 7) 0), mkM "TooMany" "__init__" "TooMany.__init__" (inClass (top 10) 0), mkM "Reach" "__init__" "Reach.__init__" (inClass (top 18) 0), mkM "Reach" "_add_letter" "Reach._add_letter" (inClass (top 18) 1), mkM "Reach" "_add_state" "Reach._add_state" (inClass (top 18) 2), mkM "Reach" "_look_at" "Reach._look_at" (inClass (top 18) 3), mkM "Reach" "_look_at_step" "Reach._look_at_step" (inClass (top 18) 4), mkM "Reach" "_look_at_turn" "Reach._look_at_turn" (inClass (top 18) 5), mkM "Sweeps" "__init__" "Sweeps.__init__" (inClass (top 20) 0), mkM "Walker" "__init__" "Walker.__init__" (inClass (top 28) 0), mkM "Walker" "sweep" "Walker.sweep" (inClass (top 28) 1), mkM "Walker" "_turn" "Walker._turn" (inClass (top 28) 2)]
def fa1 : List He.Fa := [.free "len", .free "int", .free "list", .free "range", .free "repr", .free "isinstance", .free "tuple", .free "bool", .free "sorted", .free "all", .free "dict", .free "str", .free "max", .free "min", .glo "is_direction", .glo "in_order", .glo "is_integer", .glo "is_datum", .glo "is_symbol", .glo "is_tuple_of", .glo "by_repr", .glo "is_first", .glo "are_steps", .glo "is_step", .glo "are_turns", .glo "is_turn", .glo "letters_of", .glo "states_of", .glo "run"]
def fa2 : List He.Fa := [.glo "lengths_of", .glo "check_within", .glo "digits_needed", .glo "digits_that_run_over", .glo "handing_steps", .glo "adding_machine", .glo "counting_machine", .glo "tower", .glo "_law_pen", .glo "_law_draw", .glo "_law_pick", .glo "_law_sh_digits", .glo "_law_sh_row", .glo "_law_sh_number", .glo "_law_refused", .glo "_law_tower_right", .glo "law", .glo "DIRECTIONS", .glo "OTHER_DIRECTION", .glo "DIGITS", .glo "LETTERS", .glo "Reach", .glo "Sweeps", .glo "Walker", .glo "BadNumber", .glo "TooMany", .int "MOST_TOWER_ROWS" 1000000, .meth "BadNumber" "__init__", .meth "TooMany" "__init__"]
def fa3 : List He.Fa := [.cls "Reach", .mkr "Reach", .meth "Reach" "_add_letter", .meth "Reach" "_add_state", .meth "Reach" "_look_at", .meth "Reach" "_look_at_step", .meth "Reach" "_look_at_turn", .noat "Reach" "_steps", .noat "Reach" "_turns", .noat "Reach" "_todo", .noat "Reach" "letters", .noat "Reach" "states", .noat "Reach" "missing", .cls "Sweeps", .mkr "Sweeps", .noat "Sweeps" "first", .noat "Sweeps" "begin", .noat "Sweeps" "steps", .noat "Sweeps" "turns", .noat "Sweeps" "letters", .noat "Sweeps" "states", .cls "Walker", .mkr "Walker", .meth "Walker" "sweep", .meth "Walker" "_turn", .noat "Walker" "_sweeps", .noat "Walker" "direction", .noat "Walker" "state"]
def fa : List He.Fa := fa1 ++ (fa2 ++ fa3)
def flds : List Str := ["what", "number", "many", "limit"]
def tf : List He.Defn := [("by_repr", none)]
def ts : List He.Tab := [(fun K => He.ga K "OTHER_DIRECTION", ["l", "r"])]
def cs (K : PySem.W.Frag) : List Addr := errs.map (He.ga K)
def dDig : PyData := .tuple [.str "0", .str "1"]
def dLet : PyData := .tuple [.str "0", .str "1", .str "x"]
def dDirs : PyData := .tuple [.str "l", .str "r"]
def strAt (K : PySem.W.Frag) (a : Addr) (x y : Str) : Bool := match PySem.W.nsIn K a x with
  | some (some (.str z _)) => decide (z = y)
  | _ => false
def ex (K : PySem.W.Frag) : Bool := (cs K).all (Tr.xcAll K) && (((cs K).all fun c => (cs K).all fun d => decide (PySem.W.exmOne K (.ref c) (.ref d) = some (c == d))) && (((cs K).all fun c => flds.all fun f => decide (PySem.W.findIn K (.ref c) f = some none)) &&
  (AK.datB K 20 (.ref (He.ga K "DIGITS")) dDig && (AK.datB K 20 (.ref (He.ga K "LETTERS")) dLet && (AK.datB K 20 (.ref (He.ga K "DIRECTIONS")) dDirs && (strAt K (He.ga K "OTHER_DIRECTION") "l" "r" && (strAt K (He.ga K "OTHER_DIRECTION") "r" "l" && decide (He.ga K "BadNumber" ≠ He.ga K "TooMany"))))))))
end K38

set_option Elab.async false
set_option linter.all false
set_option maxRecDepth 100000
set_option maxHeartbeats 4000000
namespace K38
open PySem PySem.Spec PyProof.Rows L2 Pen
/-! ### what the top's names hold -/
structure Txt (mg : Str → Option PySem.Value) : Prop where
  len : mg "len" = none
  int : mg "int" = none
  list : mg "list" = none
  range : mg "range" = none
  repr : mg "repr" = none
  isi : mg "isinstance" = none
  tuple : mg "tuple" = none
  bool : mg "bool" = none
  sorted : mg "sorted" = none
  all : mg "all" = none
  dict : mg "dict" = none
  str : mg "str" = none
  max : mg "max" = none
  min : mg "min" = none
abbrev FnT (K : PySem.W.Frag) (x : Str) (i : Nat) (f : Addr) (fd : FuncData) : Prop := FunD K x x (defArgs (top i)) (defBody (top i)) (defScope (top i)) [] [] f fd
abbrev FnM (K : PySem.W.Frag) (m q : Str) (st : PySem.Stmt) (f : Addr) (fd : FuncData) : Prop := FunD K m q (defArgs st) (defBody st) (defScope st) [] [] f fd
abbrev FnP (K : PySem.W.Frag) (x : Str) (st : PySem.Stmt) (f : Addr) (fd : FuncData) : Prop := FunD K x x (defArgs st) (defBody st) (defScope st) [] [] f fd
section
variable {P : Program} {w : World} {K : PySem.W.Frag} {mg : Str → Option PySem.Value} {base : Heap} {f : Addr} {fd : FuncData}
theorem scPen : FnScope ["_law_script", "_law_fold", "_law_cell"] ["_law_script"] (defScope sPen) := ⟨rfl, rfl, rfl, by decide +kernel, rfl, by decide +kernel, by decide +kernel⟩
theorem ok_pen (F : FnP K "_law_pen" sPen f fd) (T : Txt mg) : FnOk P w K mg base CX0 1 f fd ["_law_script"] (spPen K) := by
  refine F.ok scPen (fun vs H Q E h => ?_) (fun cdv A outer s H vs Q E hr h => ?_)
  · obtain ⟨a, ns, rfl, _⟩ := h
    rfl
  · obtain ⟨a, ns, rfl, hS, hl, k⟩ := h
    have nd := scPen.nd
    suffices z : ∃ t, PSs (cxOf CX0 P w K mg base ["_law_script", "_law_fold", "_law_cell"] "_law_pen" (defScope sPen) f cdv A outer s H E).nox (defBody sPen) t ∧ t { nx := fun _ H' => Q .non H', rt := Q } (start ["_law_script", "_law_fold", "_law_cell"] [.ref a]) H by
      obtain ⟨t, h1, h2⟩ := z
      exact ⟨t, h1.nox, h2⟩
    refine ⟨_, pss_cons (ps_set (i := 1) nd rfl (.inl rfl) pe_int)
      (pss_cons (ps_for PassesOwn.never rfl (pi_list (pv 0)) (pg_name (i := 2) nd rfl (.inl rfl))
        (pss_one (ps_set (i := 1) nd rfl (.inl rfl) (pe_op op_mod (pe_callTy call_int1 (by rfl) T.int (by decide +kernel) (pa_cons (pe_op op_add (pe_op op_mul (pv 1) pe_int) (pv 2)) pa_nil)) pe_int))))
      (pss_one (ps_ret (pe_disp (pps_cons pe_str (pe_callTy call_list_of (by rfl) T.list (by decide +kernel) (pa_cons (pv 0) pa_nil)) (pps_cons pe_str pe_int (pps_cons pe_str pe_int (pps_cons pe_str pe_int (pps_cons pe_str (pv 1) pps_nil)))))
        rfl rfl (by intro z; cases z) (by decide))))), ?_⟩
    refine ⟨_, rfl, a, rfl, ⟨_, hS⟩, for_list (K := K) (a := a) (xs := ns.map V.int) (fun i σ H2 => ∃ (fo : Int) (v : Option V), σ = [some (.ref a), some (.int fo), v] ∧ H2 = H ∧ 0 ≤ fo ∧ fo < 1000000007)
      ⟨0, none, rfl, rfl, by decide, by decide⟩ (fun i σ H2 _ ⟨_, _, _, e, _⟩ => by rw [e]; exact hS) ?_ ?_⟩
    · rintro i y σ H2 hi ⟨fo, v, rfl, rfl, f0, f1⟩
      obtain ⟨z, _, rfl⟩ : ∃ z, ns[i]? = some z ∧ V.int z = y := by
        rw [List.getElem?_map] at hi
        exact Option.map_eq_some_iff.mp hi
      refine ⟨_, rfl, _, _, rfl, rfl, .inr ⟨by decide, by decide⟩, _, rfl, _, _, rfl, rfl, .inl ⟨_, rfl, _, _, rfl, rfl, (by show (0 : Int) < 1000000007; decide), ?_⟩⟩
      exact ⟨(fo * 41 + z) % 1000000007, _, rfl, rfl, Int.emod_nonneg _ (by decide), Int.emod_lt_of_pos _ (by decide)⟩
    · rintro σ H2 ⟨fo, v, rfl, rfl, f0, f1⟩
      intro p hp
      refine ⟨_, rfl, a, _, rfl, .inl (Same.seq (fun b o e => by rw [upd_ne (ne_of_none e hp)]; exact e) hS), fun l hl => ?_⟩
      have nlp : p ≠ l := ne_of_none (upd_same (H := H2) (a := p)) hl
      have hl2 : H2 l = none := by rw [← hl, upd_ne nlp.symm]
      refine ⟨_, rfl, ?_⟩
      refine ⟨(by rw [upd_ne nlp]; exact upd_same), penK l 0 0 0 fo, rfl, (by show 5 ≤ 15; decide), ?_⟩
      have e0 : mergeK [] (penK l 0 0 0 fo) = penK l 0 0 0 fo := by kernel_rfl
      rw [e0]
      refine k p l _ ⟨ns, 0, 0, 0, fo, ⟨upd_same, by rw [upd_ne nlp.symm, upd_same], by decide, by decide, by decide, f0, by omega⟩, by decide⟩ (fun b o e => ?_) hp
      rw [upd_ne (ne_of_none e hp), upd_ne (ne_of_none e hl2), upd_ne (ne_of_none e hp)]
      exact e
end
end K38
namespace K38
open PySem PySem.Spec PyProof.Rows L2 Pen
section
variable {P : Program} {w : World} {K : PySem.W.Frag} {mg : Str → Option PySem.Value} {base : Heap} {f : Addr} {fd : FuncData}
abbrev nDraw : List Str := ["_law_pen_here", "_law_many", "_law_cell", "_law_digit", "_law_blend"]
theorem scDraw : FnScope nDraw ["_law_pen_here", "_law_many"] (defScope sDraw) := ⟨rfl, rfl, rfl, by decide +kernel, rfl, by decide +kernel, by decide +kernel⟩
theorem ok_draw (F : FnP K "_law_draw" sDraw f fd) (T : Txt mg) : FnOk P w K mg base CX0 1 f fd ["_law_pen_here", "_law_many"] spDraw := by
  refine F.ok scDraw (fun vs H Q E h => ?_) (fun cdv A outer s H vs Q E hr h => ?_)
  · obtain ⟨a, _, ns, _, rfl, _⟩ := h
    rfl
  · obtain ⟨p, l, n, m, rfl, ⟨cells, at_, dg, ct, fo, PV, cn⟩, hn, m1, m2, k⟩ := h
    have nd := scDraw.nd
    have hu := hu_of hr
    suffices z : ∃ t, PSs (cxOf CX0 P w K mg base nDraw "_law_draw" (defScope sDraw) f cdv A outer s H E).nox (defBody sDraw) t ∧ t { nx := fun _ H' => Q .non H', rt := Q } (start nDraw [.ref p, .int m]) H by
      obtain ⟨t, h1, h2⟩ := z
      exact ⟨t, h1.nox, h2⟩
    refine ⟨_, pss_cons (ps_dput hu (pv 0) pe_str (pe_op op_add (pe_dget hu (pv 0) pe_str (fun _ _ => rfl)) pe_int) rfl)
      (C8.pss_cut (ps_if (PW.pt (pw_and (pt_cmpR op_eq (pe_dget hu (pv 0) pe_str (fun _ _ => rfl)) pe_int (nomark _))
          (pw_and1 (pt_cmpR op_lt (pe_dget hu (pv 0) pe_str (fun _ _ => rfl)) (pe_callB call_len_seq (by rfl) T.len PySem.boot_len (pa_cons (pe_dget hu (pv 0) pe_str (fun _ _ => rfl)) pa_nil)) (nomark _)))))
        (pss_cons (ps_set (i := 2) nd rfl (.inl rfl) (pe_ix ix_list (pe_dget hu (pv 0) pe_str (fun _ _ => rfl)) (pe_dget hu (pv 0) pe_str (fun _ _ => rfl)) (fun _ _ => rfl)))
        (pss_cons (ps_dput hu (pv 0) pe_str (pe_op op_add (pe_dget hu (pv 0) pe_str (fun _ _ => rfl)) pe_int) rfl)
        (pss_one (ps_if (pt_cmpR op_ge (pv 2) (pe_op op_pow pe_int pe_int) (nomark _))
          (pss_one (ps_dput hu (pv 0) pe_str (pe_op op_sub (pv 2) (pe_op op_pow pe_int pe_int)) rfl))
          (pss_one (ps_dput hu (pv 0) pe_str (pe_op op_mod (pe_callTy call_int1 (by rfl) T.int (by decide +kernel) (pa_cons (pe_op op_add (pe_op op_mul (pe_dget hu (pv 0) pe_str (fun _ _ => rfl)) pe_int) (pv 2)) pa_nil)) pe_int) rfl))))))
        pss_nil)
      (pss_cons (ps_if (pt_cmpR op_gt (pe_dget hu (pv 0) pe_str (fun _ _ => rfl)) pe_int (nomark _))
        (pss_cons (ps_set (i := 3) nd rfl (.inl rfl) (pe_op op_mod (pe_callTy call_int1 (by rfl) T.int (by decide +kernel) (pa_cons (pe_dget hu (pv 0) pe_str (fun _ _ => rfl)) pa_nil)) (pv 1)))
        (pss_cons (ps_dput hu (pv 0) pe_str (pe_op op_fdiv (pe_dget hu (pv 0) pe_str (fun _ _ => rfl)) (pv 1)) rfl)
        (pss_one (ps_ret (pv 3)))))
        pss_nil)
      (pss_cons (ps_set (i := 4) nd rfl (.inl rfl) (pe_op op_add (pe_op op_add (pe_dget hu (pv 0) pe_str (fun _ _ => rfl)) (pe_op op_mul (pe_dget hu (pv 0) pe_str (fun _ _ => rfl)) pe_int)) pe_int))
      (pss_one (ps_ret (pe_op op_mod (pe_op op_fdiv (pe_callTy call_int1 (by rfl) T.int (by decide +kernel) (pa_cons (pe_op op_mod (pe_op op_pow (pv 4) pe_int) pe_int) pa_nil)) pe_int) (pv 1))))))), ?_⟩
    -- count
    refine ⟨_, rfl, p, _, rfl, gCount PV.di, _, _, rfl, rfl, _, rfl, p, _, rfl, pCount PV.di, ?_⟩
    have P1 := PV.set (c' := ct + 1) PV.a0 PV.d0 (by have := PV.c0; omega) PV.f0 PV.f1
    -- behind the draw of a cell
    refine ⟨fun σ H2 => ∃ (v : Option V) (a d f : Int), σ = [some (.ref p), some (.int m), v, none, none] ∧ PenV H2 p l cells a d (ct + 1) f ∧ But p H H2, ?_, ?_⟩
    · refine ⟨_, rfl, p, _, rfl, gDigits P1.di, rfl, _, rfl, ?_⟩
      by_cases hd : dg = 0
      · subst hd
        refine iteT ⟨_, rfl, p, _, rfl, gAt P1.di, _, rfl, p, _, rfl, gCells P1.di, l, _, rfl, .inl (.of P1.li), _, _, rfl, rfl, _, rfl, ?_⟩
        by_cases hlt : at_ < ((cells.map V.int).length : Int)
        · rw [decide_eq_true hlt]
          refine iteT ?_
          have a0 := PV.a0
          have hlt2 : at_.toNat < cells.length := by
            rw [List.length_map] at hlt
            omega
          obtain ⟨z, item⟩ : ∃ z, L2.atI (cells.map V.int) at_ = some (.int z) := by
            obtain ⟨i, rfl⟩ : ∃ i : Nat, at_ = (i : Int) := ⟨at_.toNat, by omega⟩
            exact ⟨cells[i]'hlt2, atI_nat (by rw [List.getElem?_map, List.getElem?_eq_getElem (show i < cells.length from hlt2)] <;> rfl)⟩
          refine ⟨_, rfl, p, _, rfl, gCells P1.di, _, rfl, p, _, rfl, gAt P1.di, l, _, _, _, rfl, rfl, .of P1.li, item, ?_⟩
          refine ⟨_, rfl, p, _, rfl, gAt P1.di, _, _, rfl, rfl, _, rfl, p, _, rfl, pAt P1.di, ?_⟩
          have P2 := P1.set (a' := at_ + 1) (by omega) P1.d0 P1.c0 P1.f0 P1.f1
          refine ⟨_, rfl, _, _, rfl, rfl, ⟨by decide, by decide, by decide⟩, _, _, rfl, rfl, _, rfl, ?_⟩
          refine ite2 (fun hbig => ?_) (fun _ => ?_)
          · refine ⟨_, rfl, _, _, rfl, rfl, ⟨by decide, by decide, by decide⟩, _, _, rfl, rfl, _, rfl, p, _, rfl, pDigits P2.di, ?_⟩
            have big := of_decide_eq_true hbig
            exact ⟨_, _, _, _, rfl, P2.set P2.a0 (by omega) P2.c0 P2.f0 P2.f1, But.refl.upd.upd.upd⟩
          · refine ⟨_, rfl, p, _, rfl, gFold P2.di, _, _, rfl, rfl, .inr ⟨by decide, by decide⟩, _, rfl, _, _, rfl, rfl, .inl ⟨_, rfl, _, _, rfl, rfl, (by show (0 : Int) < 2147483587; decide), _, rfl, p, _, rfl, pFold P2.di, ?_⟩⟩
            exact ⟨_, _, _, _, rfl, P2.set P2.a0 P2.d0 P2.c0 (Int.emod_nonneg _ (by decide)) (by have := Int.emod_lt_of_pos (fo * 69069 + z) (show (0 : Int) < 2147483587 by decide); omega), But.refl.upd.upd.upd⟩
        · rw [decide_eq_false hlt]
          exact iteF ⟨_, _, _, _, rfl, P1, But.refl.upd⟩
      · have e : decide (V.int dg = V.int 0) = false := decide_eq_false (fun z => hd (by injection z))
        rw [e]
        exact iteF ⟨_, _, _, _, rfl, P1, But.refl.upd⟩
    · rintro σ H2 ⟨v, a, d, f, rfl, P2, b2⟩
      refine ⟨_, rfl, p, _, rfl, gDigits P2.di, _, _, rfl, rfl, _, rfl, ?_⟩
      refine ite2 (fun hpos => ?_) (fun _ => ?_)
      · have pos := of_decide_eq_true hpos
        refine ⟨_, rfl, p, _, rfl, gDigits P2.di, .inl ⟨_, rfl, _, rfl, _, _, rfl, rfl, (by omega), ?_⟩⟩
        refine ⟨_, rfl, p, _, rfl, gDigits P2.di, _, rfl, _, _, rfl, rfl, ⟨by omega, m2⟩, _, rfl, p, _, rfl, pDigits P2.di, ?_⟩
        refine ⟨_, rfl, ?_⟩
        refine k _ _ (Int.emod_nonneg _ (by omega)) (Int.emod_lt_of_pos _ (by omega)) ⟨cells, _, _, _, _, P2.set P2.a0 (Int.ediv_nonneg P2.d0 (by omega)) P2.c0 P2.f0 P2.f1, by omega⟩ b2.upd
      · have c0 := P2.c0
        have f0 := P2.f0
        have f1 := P2.f1
        refine ⟨_, rfl, p, _, rfl, gFold P2.di, _, rfl, p, _, rfl, gCount P2.di, _, _, rfl, rfl, .inr ⟨by decide, by decide⟩, _, _, rfl, rfl, _, _, rfl, rfl, ?_⟩
        refine ⟨_, rfl, _, _, rfl, rfl, ⟨by decide, by decide, by omega⟩, _, _, rfl, rfl, (by show (0 : Int) < 2305843009213693951; decide), .inl ⟨_, rfl, _, _, rfl, rfl, ⟨by decide, by decide⟩, _, rfl, _, _, rfl, rfl, (by omega), ?_⟩⟩
        exact k _ _ (Int.emod_nonneg _ (by omega)) (Int.emod_lt_of_pos _ (by omega)) ⟨cells, _, _, _, _, P2, by omega⟩ b2
end
end K38
namespace K38
open PySem PySem.Spec PyProof.Rows L2 Pen
section
variable {P : Program} {w : World} {K : PySem.W.Frag} {mg : Str → Option PySem.Value} {base : Heap} {f fD fP : Addr} {fd fdD fdP : FuncData}
theorem scPick : FnScope ["_law_pen_here", "_law_some"] ["_law_pen_here", "_law_some"] (defScope sPick) := ⟨rfl, rfl, rfl, by decide +kernel, rfl, by decide +kernel, by decide +kernel⟩
theorem ok_pick (F : FnP K "_law_pick" sPick f fd) (T : Txt mg) (FD : FnP K "_law_draw" sDraw fD fdD) (gD : mg "_law_draw" = some (.ref fD)) : FnOk P w K mg base CX0 2 f fd ["_law_pen_here", "_law_some"] (spPick K) := by
  have GD : FnOk P w K mg base CX0 1 fD fdD ["_law_pen_here", "_law_many"] spDraw := ok_draw FD T
  have bD : Binds K fdD ["_law_pen_here", "_law_many"] [] := FD.bindsN fun _ _ _ _ _ _ us hl => match us, hl with | [_, _], _ => rfl
  refine F.ok scPick (fun vs H Q E h => ?_) (fun cdv A outer s H vs Q E hr h => ?_)
  · obtain ⟨_, _, _, _, _, rfl, _⟩ := h
    rfl
  · obtain ⟨p, l, a, n, xs, rfl, PA, hn, hS, ne, many, nap, k⟩ := h
    suffices z : ∃ t, PSs (cxOf CX0 P w K mg base ["_law_pen_here", "_law_some"] "_law_pick" (defScope sPick) f cdv A outer s H E).nox (defBody sPick) t ∧ t { nx := fun _ H' => Q .non H', rt := Q } (start ["_law_pen_here", "_law_some"] [.ref p, .ref a]) H by
      obtain ⟨t, h1, h2⟩ := z
      exact ⟨t, h1.nox, h2⟩
    refine ⟨_, pss_one (ps_ret (pe_ix ix_list (pv 1) (pe_call GD hr (by rfl) gD FD.kp bD .nil pass0 (pa_cons (pv 0) (pa_cons (pe_callB call_len_seq (by rfl) T.len PySem.boot_len (pa_cons (pv 1) pa_nil)) pa_nil))) (fun _ _ => rfl))), ?_⟩
    have pos : 0 < xs.length := List.length_pos_iff.mpr ne
    refine ⟨_, rfl, _, rfl, _, rfl, a, xs, rfl, .inl hS, p, l, n, _, rfl, PA, hn, by omega, by omega, fun r H' r0 r1 PA' but => ?_⟩
    obtain ⟨i, rfl⟩ : ∃ i : Nat, r = (i : Int) := ⟨r.toNat, by omega⟩
    have hi : i < xs.length := by omega
    exact ⟨a, xs, _, _, rfl, rfl, but.seq nap hS, atI_nat (List.getElem?_eq_getElem hi), k i _ H' (List.getElem?_eq_getElem hi) PA' but⟩
end
end K38

set_option Elab.async false
set_option linter.all false
set_option maxRecDepth 100000
set_option maxHeartbeats 4000000
namespace K38
open PySem PySem.Spec PyProof.Rows L2 Pen Tr AK LamX
section
variable {P : Program} {w : World} {K : PySem.W.Frag} {mg : Str → Option PySem.Value} {base : Heap} {f fI fD : Addr} {fd fdI fdD : FuncData}
theorem scInt : FnScope ["value"] ["value"] (defScope (top 12)) := ⟨rfl, rfl, rfl, by decide +kernel, rfl, by decide +kernel, by decide +kernel⟩
theorem ok_int (F : FnT K "is_integer" 12 f fd) (T : Txt mg) : FnOk P w K mg base CX0 1 f fd ["value"] (spAsk isIntD K) := by
  refine F.ok scInt (fun vs H Q E h => spAsk_len h) (fun cdv A outer s H vs Q E hr h => ?_)
  obtain ⟨v, d, rfl, hD, q⟩ := h
  suffices z : ∃ t, PSs (cxOf CX0 P w K mg base ["value"] "is_integer" (defScope (top 12)) f cdv A outer s H E).nox (defBody (top 12)) t ∧ t { nx := fun _ H' => Q .non H', rt := Q } (start ["value"] [v]) H by
    obtain ⟨t, h1, h2⟩ := z
    exact ⟨t, h1.nox, h2⟩
  refine ⟨_, pss_one (ps_ret (pe_and (pe_callB call_isD (by rfl) T.isi (by decide +kernel) (pa_cons (pv 0) (pa_cons (pe_bltn (by rfl) T.int (by decide +kernel) (v := .ty "int") rfl) pa_nil)))
    (pe_one (pe_not (pe_callB call_isD (by rfl) T.isi (by decide +kernel) (pa_cons (pv 0) (pa_cons (pe_bltn (by rfl) T.bool (by decide +kernel) (v := .ty "bool") rfl) pa_nil))))))), ?_⟩
  obtain ⟨b, h1, h2, h3⟩ := kit_int d (dp_nodict hD)
  refine ⟨_, rfl, _, "int", d, b, rfl, hD, h1, b, rfl, ?_⟩
  by_cases hb : b = true
  · rw [if_pos hb]
    obtain ⟨c, c1, c2⟩ := h2 hb
    refine ⟨_, rfl, _, "bool", d, c, rfl, hD, c1, c, rfl, ?_⟩
    rw [c2]
    exact q
  · rw [if_neg hb]
    rw [h3 (by simpa using hb)] at q
    exact q
/-- is_datum, is_symbol of integers, strings, None and tuples of these -/
def spSym (K : PySem.W.Frag) : Sp := fun vs H Q _ => ∃ v d, vs = [v] ∧ Dp K H v d ∧ symD d = true ∧ wtD d ≤ 100000 ∧ ∀ H', Same H H' → Q (.bl true) H'
abbrev nDat : List Str := ["value", "todo", "item"]
theorem scDat : FnScope nDat ["value"] (defScope (top 13)) := ⟨rfl, rfl, rfl, by decide +kernel, rfl, by decide +kernel, by decide +kernel⟩
theorem ok_datum (F : FnT K "is_datum" 13 f fd) (T : Txt mg) (FI : FnT K "is_integer" 12 fI fdI) (gI : mg "is_integer" = some (.ref fI)) : FnOk P w K mg base CX0 2 f fd ["value"] (spSym K) := by
  refine F.ok scDat (fun vs H Q E h => by obtain ⟨v, d, rfl, _⟩ := h; rfl) (fun cdv A outer s H vs Q E hr h => ?_)
  obtain ⟨v, d, rfl, hD, sy, wt, q⟩ := h
  have nd := scDat.nd
  suffices z : ∃ t, PSs (cxOf CX0 P w K mg base nDat "is_datum" (defScope (top 13)) f cdv A outer s H E).nox (defBody (top 13)) t ∧ t { nx := fun _ H' => Q .non H', rt := Q } (start nDat [v]) H by
    obtain ⟨t, h1, h2⟩ := z
    exact ⟨t, h1.nox, h2⟩
  have GI := ok_int (P := P) (w := w) (mg := mg) (base := base) FI T
  have bI : L2.Binds K fdI ["value"] [] := FunD.bindsN FI fun _ _ _ _ _ _ us hl => match us, hl with | [_], _ => rfl
  refine ⟨_, pss_cons (ps_asg (pe_lst (pa_cons (pv 0) pa_nil)) (pg_name (i := 1) nd rfl (.inl rfl)))
    (pss_cons (ps_while PassesOwn.never (pt_truth (pv 1) (by intro _; rfl))
      (pss_cons (ps_asg (pe_bm0 PySem.F.plainAttrs_list PySem.F.slot_list_pop PySem.F.type_list_pop mt_pop (pv 1)) (pg_name (i := 2) nd rfl (.inl rfl)))
      (pss_one (ps_if (pt_val (pe_callB call_isD (by rfl) T.isi (by decide +kernel) (pa_cons (pv 2) (pa_cons (pe_bltn (by rfl) T.tuple (by decide +kernel) (v := .ty "tuple") rfl) pa_nil))))
        (pss_one (ps_expr (pe_bm PySem.F.plainAttrs_list PySem.F.slot_list_extend PySem.F.type_list_extend mt_extT (pv 1) (pa_cons (pv 2) pa_nil))))
        (pss_one (ps_if (PW.pt (pw_and (pt_cmpR op_notN (pv 2) pe_non (nomark _)) (pw_and (pt_not (pt_val (pe_callB call_isD (by rfl) T.isi (by decide +kernel) (pa_cons (pv 2) (pa_cons (pe_bltn (by rfl) T.str (by decide +kernel) (v := .ty "str") rfl) pa_nil)))))
          (pw_and1 (pt_not (pt_val (pe_call GI hr (by rfl) gI FI.kp bI .nil pass0 (pa_cons (pv 2) pa_nil))))))))
          (pss_one (ps_ret pe_bl)) pss_nil))))))
    (pss_one (ps_ret pe_bl))), ?_⟩
  refine ⟨_, rfl, (by show 1 ≤ sizeLine; decide), fun D nD => ?_⟩
  have s0 := same_upd (o := .lst [v]) nD
  refine ⟨fun m σ H' => ∃ xs ds o, σ = [some v, some (.ref D), o] ∧ H' D = some (.lst xs) ∧ DpAll K H' xs ds ∧ symDs ds = true ∧ wtDs ds = m ∧ m ≤ 100000 ∧ Same H H', ⟨wtDs [d], [v], [d], none, rfl, upd_same, .cons (dp_same s0 _ _ hD) .nil, by simp [symDs, sy], rfl, by simp only [wtDs]; omega, s0⟩, ?_⟩
  rintro m σ H1 ⟨xs, ds, o, rfl, l1, dp1, sy1, rfl, wt1, s1⟩
  refine ⟨_, rfl, !xs.isEmpty, .inl ⟨xs, SqL.of l1, rfl⟩, ?_⟩
  rcases List.eq_nil_or_concat xs with rfl | ⟨xs0, y, ex⟩
  · exact iteF (q _ s1)
  · rw [List.concat_eq_append] at ex
    subst ex
    have ne : (!(xs0 ++ [y]).isEmpty) = true := by simp
    rw [ne]
    obtain ⟨es, e, rfl, dp0, dpy⟩ := dpall_snoc dp1
    rw [syms_app] at sy1
    obtain ⟨syE, sye⟩ := Bool.and_eq_true_iff.mp sy1
    have sye : symD e = true := by simpa [symDs] using sye
    have wtE : wtDs (es ++ [e]) = wtDs es + wtD e := by
      rw [wts_app]
      simp [wtDs]
    have len0 : xs0.length ≤ wtDs es := by
      rw [dps_len dp0]
      exact wts_len es
    refine iteT ⟨fun σ' H' => ∃ m', m' < wtDs (es ++ [e]) ∧ ∃ xs ds o, σ' = [some v, some (.ref D), o] ∧ H' D = some (.lst xs) ∧ DpAll K H' xs ds ∧ symDs ds = true ∧ wtDs ds = m' ∧ m' ≤ 100000 ∧ Same H H', fun σ' H' h => h, ?_⟩
    refine ⟨_, rfl, .inl ⟨rfl, _, SqL.of l1⟩, D, xs0 ++ [y], y, rfl, rfl, l1, by simp, ?_⟩
    refine at_new fun H2 e2 => ?_
    have e2 : H2 = upd H1 D (.lst xs0) := by
      rw [e2, List.dropLast_concat]
    have tu : Tups H1 H2 := by
      rw [e2]
      exact Tups.upd (lst_ntup l1)
    have l2 : H2 D = some (.lst xs0) := by
      rw [e2]
      exact upd_same
    have s2 : Same H H2 := fun b o eb => by
      rw [e2, upd_ne (ne_of_none eb nD)]
      exact s1 _ _ eb
    have dp02 := dpall_tups tu (fun d hd => sym_key d (syms_mem syE d hd)) dp0
    obtain ⟨ke, hke⟩ := sym_key e sye
    have dpy2 := dp_tups tu _ _ ke hke dpy
    clear e2 l1 dp0 dpy
    refine ⟨_, rfl, y, "tuple", e, isTupD e, rfl, dpy2, kit_tup e (dp_nodict dpy2), isTupD e, rfl, ?_⟩
    have stay : ∀ o, ∃ m', m' < wtDs (es ++ [e]) ∧ ∃ xs ds o', [some v, some (.ref D), o] = [some v, some (.ref D), o'] ∧ H2 D = some (.lst xs) ∧ DpAll K H2 xs ds ∧ symDs ds = true ∧ wtDs ds = m' ∧ m' ≤ 100000 ∧ Same H H2 := fun o =>
      ⟨wtDs es, by have := wt_pos e; omega, xs0, es, o, rfl, l2, dp02, syE, rfl, by omega, s2⟩
    cases dpy2 with
    | @tup a zs gs hz ha =>
      refine iteT ⟨_, rfl, .inl ⟨rfl, _, SqL.of l2⟩, _, rfl, D, a, xs0, zs, rfl, rfl, l2, hz, ?_, ?_⟩
      · have e3 := dps_len ha
        have e4 := wts_len gs
        have e5 : wtD (.tuple gs) = 1 + wtDs gs := by simp [wtD]
        rw [sizeLine_eq]
        omega
      · refine ⟨wtDs es + wtDs gs, ?_, xs0 ++ zs, es ++ gs, _, rfl, upd_same, ?_, ?_, wts_app, ?_, ?_⟩
        · have e5 : wtD (.tuple gs) = 1 + wtDs gs := by simp [wtD]
          omega
        · have t3 : Tups H2 (upd H2 D (.lst (xs0 ++ zs))) := Tups.upd (lst_ntup l2)
          exact dpall_append (dpall_tups t3 (fun d hd => sym_key d (syms_mem syE d hd)) dp02) (dpall_tups t3 (fun d hd => sym_key d (syms_mem (by simpa [symD] using sye) d hd)) ha)
        · rw [syms_app, syE]
          simpa [symD] using sye
        · have e5 : wtD (.tuple gs) = 1 + wtDs gs := by simp [wtD]
          omega
        · exact fun b o eb => by
            rw [upd_ne (ne_of_none eb nD)]
            exact s2 _ _ eb
    | non =>
      refine iteF ⟨_, rfl, rfl, _, rfl, ?_⟩
      exact iteF (stay _)
    | int i =>
      refine iteF ⟨_, rfl, rfl, _, rfl, ?_⟩
      refine iteT ⟨_, rfl, _, "str", .int i, false, rfl, .int i, (show kitB "int" "str" = some false by decide +kernel), false, rfl, ?_⟩
      refine iteT ⟨_, rfl, _, .int i, rfl, .int i, true, rfl, ?_⟩
      exact iteF (stay _)
    | str x =>
      refine iteF ⟨_, rfl, rfl, _, rfl, ?_⟩
      refine iteT ⟨_, rfl, _, "str", .str x, true, rfl, .str x, (show kitB "str" "str" = some true by decide +kernel), true, rfl, ?_⟩
      exact iteF (stay _)
    | bl b => simp [symD] at sye
    | lst _ _ => simp [symD] at sye
theorem scSym : FnScope ["value"] ["value"] (defScope (top 14)) := ⟨rfl, rfl, rfl, by decide +kernel, rfl, by decide +kernel, by decide +kernel⟩
/-- is_symbol: not None -/
def spSymb (K : PySem.W.Frag) : Sp := fun vs H Q _ => ∃ v d, vs = [v] ∧ Dp K H v d ∧ symD d = true ∧ v ≠ .non ∧ wtD d ≤ 100000 ∧ ∀ H', Same H H' → Q (.bl true) H'
theorem ok_symbol (F : FnT K "is_symbol" 14 f fd) (FD : FnT K "is_datum" 13 fD fdD) (gD : mg "is_datum" = some (.ref fD)) (GD : FnOk P w K mg base CX0 2 fD fdD ["value"] (spSym K)) : FnOk P w K mg base CX0 3 f fd ["value"] (spSymb K) := by
  refine F.ok scSym (fun vs H Q E h => by obtain ⟨v, d, rfl, _⟩ := h; rfl) (fun cdv A outer s H vs Q E hr h => ?_)
  obtain ⟨v, d, rfl, hD, sy, nn, wt, q⟩ := h
  suffices z : ∃ t, PSs (cxOf CX0 P w K mg base ["value"] "is_symbol" (defScope (top 14)) f cdv A outer s H E).nox (defBody (top 14)) t ∧ t { nx := fun _ H' => Q .non H', rt := Q } (start ["value"] [v]) H by
    obtain ⟨t, h1, h2⟩ := z
    exact ⟨t, h1.nox, h2⟩
  have bD : L2.Binds K fdD ["value"] [] := FunD.bindsN FD fun _ _ _ _ _ _ us hl => match us, hl with | [_], _ => rfl
  refine ⟨_, pss_one (ps_ret (pe_and (pe_cmpR op_notN (pv 0) pe_non (by rfl)) (pe_one (pe_call GD hr (by rfl) gD FD.kp bD .nil pass0 (pa_cons (pv 0) pa_nil))))), ?_⟩
  refine ⟨_, rfl, rfl, !decide (v = .non), rfl, ?_⟩
  rw [decide_eq_false nn]
  exact ⟨_, rfl, v, d, rfl, hD, sy, wt, q⟩
theorem scTup : FnScope ["many", "value"] ["many", "value"] (defScope (top 15)) := ⟨rfl, rfl, rfl, by decide +kernel, rfl, by decide +kernel, by decide +kernel⟩
/-- is_tuple_of: a tuple of just so many -/
def spTup (K : PySem.W.Frag) : Sp := fun vs H Q _ => ∃ (a : Addr) (xs : List V), vs = [.int xs.length, .ref a] ∧ SqT K H a xs ∧ Q (.bl true) H
theorem ok_tupof (F : FnT K "is_tuple_of" 15 f fd) (T : Txt mg) : FnOk P w K mg base CX0 1 f fd ["many", "value"] (spTup K) := by
  refine F.ok scTup (fun vs H Q E h => by obtain ⟨a, xs, rfl, _⟩ := h; rfl) (fun cdv A outer s H vs Q E hr h => ?_)
  obtain ⟨a, xs, rfl, hs, q⟩ := h
  suffices z : ∃ t, PSs (cxOf CX0 P w K mg base ["many", "value"] "is_tuple_of" (defScope (top 15)) f cdv A outer s H E).nox (defBody (top 15)) t ∧ t { nx := fun _ H' => Q .non H', rt := Q } (start ["many", "value"] [.int xs.length, .ref a]) H by
    obtain ⟨t, h1, h2⟩ := z
    exact ⟨t, h1.nox, h2⟩
  refine ⟨_, pss_one (ps_ret (pe_and (pe_callB call_isTu (by rfl) T.isi (by decide +kernel) (pa_cons (pv 1) (pa_cons (pe_bltn (by rfl) T.tuple (by decide +kernel) (v := .ty "tuple") rfl) pa_nil)))
    (pe_one (pe_cmpR op_eq (pe_callB call_len_seq (by rfl) T.len PySem.boot_len (pa_cons (pv 1) pa_nil)) (pv 0) (by rfl))))), ?_⟩
  refine ⟨_, rfl, a, xs, rfl, hs, true, rfl, ?_⟩
  rw [if_pos rfl]
  refine ⟨_, rfl, a, xs, rfl, .inr hs, _, rfl, rfl, ?_⟩
  rw [decide_eq_true rfl]
  exact q
/-! ### directions -/
def wayS (b : Bool) : Str := if b then "r" else "l"
theorem scDir : FnScope ["value"] ["value"] (defScope (top 3)) := ⟨rfl, rfl, rfl, by decide +kernel, rfl, by decide +kernel, by decide +kernel⟩
def spDir (_ : PySem.W.Frag) : Sp := fun vs H Q _ => ∃ b, vs = [.str (wayS b)] ∧ Q (.bl true) H
theorem ok_dir {aD : Addr} (F : FnT K "is_direction" 3 f fd) (gD : mg "DIRECTIONS" = some (.ref aD)) (hD : ∀ H, Dp K H (.ref aD) dDirs) : FnOk P w K mg base CX0 1 f fd ["value"] (spDir K) := by
  refine F.ok scDir (fun vs H Q E h => by obtain ⟨b, rfl, _⟩ := h; rfl) (fun cdv A outer s H vs Q E hr h => ?_)
  obtain ⟨b, rfl, q⟩ := h
  suffices z : ∃ t, PSs (cxOf CX0 P w K mg base ["value"] "is_direction" (defScope (top 3)) f cdv A outer s H E).nox (defBody (top 3)) t ∧ t { nx := fun _ H' => Q .non H', rt := Q } (start ["value"] [.str (wayS b)]) H by
    obtain ⟨t, h1, h2⟩ := z
    exact ⟨t, h1.nox, h2⟩
  refine ⟨_, pss_one (ps_ret (pe_cmpR op_in_seq (pv 0) (pe_glob (by rfl) gD (v := .ref aD) rfl) (by rfl))), ?_⟩
  have hd := hD H
  generalize e : dDirs = dd at hd
  cases hd with
  | @tup a xs ds hs ha =>
    unfold dDirs at e
    cases e
    cases ha with
    | cons h1 z => cases z with
      | cons h2 z =>
        cases z
        cases h1
        cases h2
        refine ⟨_, rfl, aD, _, rfl, .inr hs, by cases b <;> rfl, rfl, ?_⟩
        cases b with
        | true => exact q
        | false => exact q
  | _ => cases e
theorem scOrd : FnScope ["direction", "columns"] ["direction", "columns"] (defScope (top 4)) := ⟨rfl, rfl, rfl, by decide +kernel, rfl, by decide +kernel, by decide +kernel⟩
def ordV (b : Bool) (xs : List V) : List V := if b then xs else xs.reverse
def spOrd (K : PySem.W.Frag) : Sp := fun vs H Q _ => ∃ b a xs, vs = [.str (wayS b), .ref a] ∧ (SqL K H a xs ∨ SqT K H a xs) ∧ ∀ p H', Same H H' → SqT K H' p (ordV b xs) → Q (.ref p) H'
theorem ok_ord (F : FnT K "in_order" 4 f fd) (T : Txt mg) : FnOk P w K mg base CX0 1 f fd ["direction", "columns"] (spOrd K) := by
  refine F.ok scOrd (fun vs H Q E h => by obtain ⟨b, a, xs, rfl, _⟩ := h; rfl) (fun cdv A outer s H vs Q E hr h => ?_)
  obtain ⟨b, a, xs, rfl, hx, q⟩ := h
  suffices z : ∃ t, PSs (cxOf CX0 P w K mg base ["direction", "columns"] "in_order" (defScope (top 4)) f cdv A outer s H E).nox (defBody (top 4)) t ∧ t { nx := fun _ H' => Q .non H', rt := Q } (start ["direction", "columns"] [.str (wayS b), .ref a]) H by
    obtain ⟨t, h1, h2⟩ := z
    exact ⟨t, h1.nox, h2⟩
  refine ⟨_, pss_one (ps_ret (pe_ifExp (pt_cmpR op_eq (pv 0) pe_str (nomark _)) (pe_revT (pe_callTy call_tupR (by rfl) T.tuple (by decide +kernel) (pa_cons (pv 1) pa_nil))) (pe_callTy call_tupR (by rfl) T.tuple (by decide +kernel) (pa_cons (pv 1) pa_nil)))), ?_⟩
  refine ⟨_, rfl, rfl, decide (V.str (wayS b) = V.str "l"), rfl, ?_⟩
  cases b with
  | true =>
    rw [show decide (V.str (wayS true) = V.str "l") = false by decide]
    exact iteF ⟨_, rfl, a, xs, rfl, hx, fun p H' s' hp => q p H' s' hp⟩
  | false =>
    rw [show decide (V.str (wayS false) = V.str "l") = true by decide]
    refine iteT ⟨_, rfl, a, xs, rfl, hx, fun p H1 s1 hp => ⟨p, xs, rfl, hp, fun t nt => ?_⟩⟩
    exact q t _ (same_trans s1 (same_upd nt)) (SqT.of upd_same)
/-! ### by_repr -/
theorem scBy : FnScope ["values"] ["values"] (defScope (top 16)) := ⟨rfl, rfl, rfl, by decide +kernel, rfl, by decide +kernel, by decide +kernel⟩
def spBy (K : PySem.W.Frag) (w : World) (TT : List (Addr × Str)) : Sp := fun vs H Q _ => ∃ (x : V) (xs : List Vd), vs = [x] ∧ Tabs TT H ∧ Colls K w H x (xs.map (·.1)) ∧ (∀ q ∈ xs, ShowOk K H q) ∧ xs.length ≤ 1000 ∧ ∀ p H', ExtN H H' → Tabs TT H' → SqT K H' p ((srt xs).map (·.1)) → Q (.ref p) H'
theorem ok_by {TT : List (Addr × Str)} {Pt : Addr} (F : FnT K "by_repr" 16 f fd) (TX : Txt mg) (hf : He.fAd K ("by_repr", none) = f) (TB : TabB base mg (He.codeOf K ("by_repr", none)) Pt) (hT : (Pt, ("by_repr" ++ ".<locals>." ++ "<lambda>" : Str)) ∈ TT) (uT : ∀ p ∈ TT, p.1 = Pt → p.2 = ("by_repr" ++ ".<locals>." ++ "<lambda>" : Str)) :
    GFn P w K mg base CX0 4 f fd ["values"] (spBy K w TT) := by
  refine GFn.of F scBy (fun vs H Q E h => by obtain ⟨x, xs, rfl, _⟩ := h; rfl) (fun c A outer s0 H vs Q E hc hr free h => ?_)
  obtain ⟨x, xs, rfl, tabs, hx, sh, few, q⟩ := h
  suffices z : ∃ t, PSs (cxOf CX0 P w K mg base ["values"] "by_repr" (defScope (top 16)) f (.ref c) A outer s0 H E).nox (defBody (top 16)) t ∧ t { nx := fun _ H' => Q .non H', rt := Q } (start ["values"] [x]) H by
    obtain ⟨t, h1, h2⟩ := z
    exact ⟨t, h1.nox, h2⟩
  refine ⟨_, pss_one (ps_ret (pe_callTy call_tupR (by rfl) TX.tuple (by decide +kernel) (pa_cons (pe_sortR (T := TT) (pv 0) TB ?_ hT uT ⟨rfl, rfl, rfl, rfl, rfl, by decide +kernel, by decide +kernel⟩ hr free TX.repr TX.sorted (by rfl) (by decide +kernel) (by rfl) (by intros; rfl)) pa_nil))), ?_⟩
  · rw [hc _ hf]
    rfl
  refine ⟨_, rfl, tabs, xs, hx, sh, (by rw [sizeLine_eq]; omega), fun H2 p e2 t2 np => ⟨p, _, rfl, .inl (SqL.of upd_same), fun l H3 s3 hl => ?_⟩⟩
  have s2 := same_upd (o := .lst ((srt xs).map (·.1))) np
  exact q l H3 (ExtN.trans e2 (ExtN.of (same_trans s2 s3))) ((t2.ext s2).ext s3) hl
end
end K38

set_option Elab.async false
set_option linter.all false
set_option maxRecDepth 100000
set_option maxHeartbeats 4000000
namespace K38
open PySem PySem.Spec PyProof.Rows L2 Pen Tr AK LamX
/-! ### the letters and states of the law -/
/-- the state of a row, as the program writes it -/
def rowS (n : Nat) : Str := ("row" : Str) ++ (toString (n : Int) : Str)
def xD : PyData := .str "x"
def rowD (n : Nat) : PyData := .str (rowS n)
def menuW : List PyData := [.tuple [.str "a"], .str "b", .int 7, .str "", .tuple [.str "x", .int 1], .str "zz", .str "s", .str "t", .int 0, .tuple [.str "u", .int 1], .str "v", .str "w", .tuple [.str "s"], .int 12]
def menuT : List PyData := xD :: .str "0" :: .str "1" :: .str "back" :: .str "keep" :: .str "add" :: .str "end" :: (List.range 80).map rowD
def menuD : List PyData := menuW ++ menuT
def kOf (d : PyData) : NestedKey := (keyD d).getD .none
theorem menu_str {d : PyData} (hd : d ∈ menuT) : ∃ s, d = .str s := by
  simp only [menuT, List.mem_cons] at hd
  rcases hd with rfl | rfl | rfl | rfl | rfl | rfl | rfl | hd
  · exact ⟨_, rfl⟩
  · exact ⟨_, rfl⟩
  · exact ⟨_, rfl⟩
  · exact ⟨_, rfl⟩
  · exact ⟨_, rfl⟩
  · exact ⟨_, rfl⟩
  · exact ⟨_, rfl⟩
  · obtain ⟨n, _, rfl⟩ := List.mem_map.mp hd
    exact ⟨_, rfl⟩
theorem menuW_key : ∀ d ∈ menuW, keyD d = some (kOf d) := fun d hd => by
  simp only [menuW, List.mem_cons, List.not_mem_nil, or_false] at hd
  rcases hd with rfl | rfl | rfl | rfl | rfl | rfl | rfl | rfl | rfl | rfl | rfl | rfl | rfl | rfl <;> rfl
theorem menu_key : ∀ d ∈ menuD, keyD d = some (kOf d) := fun d hd => by
  rcases List.mem_append.mp hd with hd | hd
  · exact menuW_key d hd
  · obtain ⟨s, rfl⟩ := menu_str hd
    rfl
theorem menuW_deep : ∀ d ∈ menuW, (kOf d).depth ≤ 1 := by decide +kernel
theorem menu_deep : ∀ d ∈ menuD, (kOf d).depth ≤ 1 := fun d hd => by
  rcases List.mem_append.mp hd with hd | hd
  · exact menuW_deep d hd
  · obtain ⟨s, rfl⟩ := menu_str hd
    exact Nat.zero_le _
theorem menu_sym : ∀ d ∈ menuD, symD d = true ∧ wtD d ≤ 10 := by decide +kernel
theorem menu_show : ∀ d ∈ menuD, d.showable = true ∧ d.hasDict = false ∧ d.depth ≤ 1 ∧ d.shown.length ≤ 20 ∧ d.canLay0 = true := by decide +kernel
theorem menu_nn : ∀ d ∈ menuD, d ≠ .none := fun d hd z => by
  subst z
  rcases List.mem_append.mp hd with hd | hd
  · simp [menuW] at hd
  · obtain ⟨s, z⟩ := menu_str hd
    cases z
theorem menu_w {d : PyData} (h : d ∈ menuW) : d ∈ menuD := List.mem_append_left _ h
theorem menu_t {d : PyData} (h : d ∈ menuT) : d ∈ menuD := List.mem_append_right _ h
theorem row_inj : ∀ n, n < 80 → ∀ m, m < 80 → rowS n = rowS m → n = m := by decide +kernel
theorem row_menu {n : Nat} (h : n < 80) : rowD n ∈ menuD := menu_t (by
  simp only [menuT, List.mem_cons]
  exact .inr (.inr (.inr (.inr (.inr (.inr (.inr (List.mem_map.mpr ⟨n, List.mem_range.mpr h, rfl⟩))))))))
theorem x_menu : xD ∈ menuD := menu_t (List.mem_cons_self ..)
/-- a letter or a state: its value, its datum -/
abbrev Sy := V × PyData
structure SyOk (K : PySem.W.Frag) (H : Hp) (s : Sy) : Prop where
  dp : Dp K H s.1 s.2
  mem : s.2 ∈ menuD
section
variable {K : PySem.W.Frag} {w : World} {H H' : Hp}
theorem SyOk.tups {s : Sy} (o : SyOk K H s) (t : Tups H H') : SyOk K H' s := ⟨dp_tups t _ _ _ (menu_key _ o.mem) o.dp, o.mem⟩
theorem SyOk.nk {s : Sy} (o : SyOk K H s) : NK K H (kOf s.2) s.1 := ⟨s.2, o.dp, menu_key _ o.mem⟩
theorem SyOk.deep {s : Sy} (o : SyOk K H s) : (kOf s.2).depth ≤ 8 := Nat.le_trans (menu_deep _ o.mem) (by decide)
theorem SyOk.nn {s : Sy} (o : SyOk K H s) : s.1 ≠ .non := fun z => by
  have h := o.dp
  rw [z] at h
  have nn := menu_nn _ o.mem
  generalize s.2 = d at h nn
  cases h
  exact nn rfl
theorem SyOk.sh {s : Sy} (o : SyOk K H s) : ShowOk K H s := by
  obtain ⟨h1, h2, h3, h4, h5⟩ := menu_show _ o.mem
  exact ⟨o.dp, h1, h2, Nat.le_trans h3 (by decide), Nat.le_trans h4 (by rw [sizeLine_eq]; decide), _, menu_key _ o.mem⟩
/-! ### a machine -/
structure Mac where
  ld : List PyData
  sd : Bool → List PyData
  step : Bool → PyData → PyData → Sy × Sy
  turn : Bool → PyData → Option (Sy × Option Sy)
structure MacOk (K : PySem.W.Frag) (H : Hp) (m : Mac) : Prop where
  lm : ∀ d ∈ m.ld, d ∈ menuD
  sm : ∀ b, ∀ d ∈ m.sd b, d ∈ menuD
  lf : m.ld.length ≤ 3
  sf : ∀ b, (m.sd b).length ≤ 80
  st : ∀ b d e, d ∈ m.sd b → e ∈ m.ld → SyOk K H (m.step b d e).1 ∧ (m.step b d e).1.2 ∈ m.sd b ∧ SyOk K H (m.step b d e).2 ∧ (m.step b d e).2.2 ∈ m.ld
  tu : ∀ b d s x, d ∈ m.sd b → m.turn b d = some (s, x) → SyOk K H s ∧ s.2 ∈ m.sd (!b) ∧ ∀ l, x = some l → b = true ∧ SyOk K H l ∧ l.2 ∈ m.ld
theorem MacOk.tups {m : Mac} (o : MacOk K H m) (t : Tups H H') : MacOk K H' m :=
  ⟨o.lm, o.sm, o.lf, o.sf, fun b d e hd he => by
    obtain ⟨h1, h2, h3, h4⟩ := o.st b d e hd he
    exact ⟨h1.tups t, h2, h3.tups t, h4⟩, fun b d s x hd ht => by
    obtain ⟨h1, h2, h3⟩ := o.tu b d s x hd ht
    exact ⟨h1.tups t, h2, fun l hl => by
      obtain ⟨z1, z2, z3⟩ := h3 l hl
      exact ⟨z1, z2.tups t, z3⟩⟩⟩
def kS (b : Bool) (d e : PyData) : NestedKey := .tup [.text (wayS b), kOf d, kOf e]
def kT (b : Bool) (d : PyData) : NestedKey := .tup [.text (wayS b), kOf d]
def optV : Option Sy → V
  | none => .non
  | some l => l.1
/-- what stands in a turn -/
def TurnAt (K : PySem.W.Frag) (H : Hp) (v : V) : Option (Sy × Option Sy) → Prop
  | none => v = .non
  | some (s, x) => ∃ q, v = .ref q ∧ SqT K H q [s.1, optV x]
/-- the two tables -/
structure TabM (K : PySem.W.Frag) (w : World) (H : Hp) (ds dt : Addr) (m : Mac) : Prop where
  ex : ∃ es et : List Eh, DA K w H ds es ∧ DA K w H dt et ∧ (∀ b d e, d ∈ m.sd b → e ∈ m.ld → ∃ q, atK es (kS b d e) = some (.ref q) ∧ SqT K H q [(m.step b d e).1.1, (m.step b d e).2.1]) ∧
    (∀ b d, d ∈ m.sd b → ∃ v, atK et (kT b d) = some v ∧ TurnAt K H v (m.turn b d))
theorem TurnAt.tups {v : V} {t : Option (Sy × Option Sy)} (h : TurnAt K H v t) (tu : Tups H H') : TurnAt K H' v t := by
  match t, h with
  | none, h => exact h
  | some (s, x), ⟨q, e, hq⟩ => exact ⟨q, e, SqT.tups tu hq⟩
theorem TabM.keep {ds dt : Addr} {m : Mac} (T : TabM K w H ds dt m) (t : Tups H H') (k : ∀ b es, b = ds ∨ b = dt → Rd H b (DkO w b es) → Rd H' b (DkO w b es)) : TabM K w H' ds dt m := by
  obtain ⟨es, et, h1, h2, h3, h4⟩ := T.ex
  refine ⟨es, et, daKeep h1 t (k _ _ (.inl rfl) h1.at_), daKeep h2 t (k _ _ (.inr rfl) h2.at_), fun b d e hd he => ?_, fun b d hd => ?_⟩
  · obtain ⟨q, z1, z2⟩ := h3 b d e hd he
    exact ⟨q, z1, SqT.tups t z2⟩
  · obtain ⟨v, z1, z2⟩ := h4 b d hd
    exact ⟨v, z1, z2.tups t⟩
theorem TabM.same {ds dt : Addr} {m : Mac} (T : TabM K w H ds dt m) (s : Same H H') : TabM K w H' ds dt m := T.keep (fun b xs h => same_rd s h) fun b es _ h => same_rd s h
/-- no more of them than in the list -/
theorem sub_len {α : Type} [DecidableEq α] : ∀ {l r : List α}, l.Nodup → (∀ x ∈ l, x ∈ r) → l.length ≤ r.length
  | [], r, _, _ => Nat.zero_le _
  | a :: l, r, nd, h => by
    have nd2 : a ∉ l ∧ l.Nodup := List.nodup_cons.mp nd
    have ha := h a (List.mem_cons_self ..)
    have e : (r.erase a).length = r.length - 1 := List.length_erase_of_mem ha
    have z : l.length ≤ (r.erase a).length := sub_len nd2.2 fun x hx => by
      have ne : x ≠ a := fun q => nd2.1 (q ▸ hx)
      exact (List.mem_erase_of_ne ne).mpr (h x (List.mem_cons_of_mem _ hx))
    have p : 0 < r.length := List.length_pos_of_mem ha
    simp only [List.length_cons]
    omega
end
end K38

set_option Elab.async false
set_option linter.all false
set_option maxRecDepth 100000
set_option maxHeartbeats 4000000
namespace K38
open PySem PySem.Spec PyProof.Rows L2 Pen Tr AK LamX
/-- what is to be done: a way, a state, perhaps a letter -/
abbrev Td := V × Bool × Sy × Option Sy
/-- where a reach has its things -/
structure RA where
  a : Addr
  C : Addr
  dx : Addr
  ds : Addr
  dt : Addr
  td : Addr
  dl : Addr
  dS : Addr
  d0 : Addr
  d1 : Addr
  pm : Addr
/-- how far it has come -/
structure St where
  todo : List Td
  ls : List Sy
  ss : Bool → List Sy
def RA.db (R : RA) (b : Bool) : Addr := if b then R.d1 else R.d0
def entS (l : List Sy) : List Eh := l.map fun s => (kOf s.2, s.1, .bl true)
def entB (R : RA) : List Eh := [(.text "l", .str "l", .ref R.d0), (.text "r", .str "r", .ref R.d1)]
def tdV (b : Bool) (s : Sy) : Option Sy → List V
  | none => [.str (wayS b), s.1]
  | some l => [.str (wayS b), s.1, l.1]
/-- an entry is as it is told -/
structure TdOk (K : PySem.W.Frag) (H : Hp) (m : Mac) (e : Td) : Prop where
  at_ : ∃ q, e.1 = .ref q ∧ SqT K H q (tdV e.2.1 e.2.2.1 e.2.2.2)
  st : SyOk K H e.2.2.1 ∧ e.2.2.1.2 ∈ m.sd e.2.1
  le : ∀ l, e.2.2.2 = some l → SyOk K H l ∧ l.2 ∈ m.ld
def fldsR (R : RA) : List (Str × V) := [("_steps", .ref R.ds), ("_turns", .ref R.dt), ("_todo", .ref R.td), ("letters", .ref R.dl), ("states", .ref R.dS), ("missing", .ref R.pm)]
structure RS (K : PySem.W.Frag) (w : World) (H0 : Hp) (R : RA) (m : Mac) (t : St) (H : Hp) : Prop where
  ins : H R.a = some (.ins R.C R.dx (fldsR R))
  td : H R.td = some (.lst (t.todo.map (·.1)))
  pm : H R.pm = some (.lst [])
  dl : H R.dl = some (DkO w R.dl (entS t.ls))
  dS : H R.dS = some (DkO w R.dS (entB R))
  db : ∀ b, H (R.db b) = some (DkO w (R.db b) (entS (t.ss b)))
  lnd : ((entS t.ls).map (·.1)).Nodup
  snd : ∀ b, ((entS (t.ss b)).map (·.1)).Nodup
  tds : ∀ e ∈ t.todo, TdOk K H m e
  lsO : ∀ s ∈ t.ls, SyOk K H s ∧ s.2 ∈ m.ld
  ssO : ∀ b, ∀ s ∈ t.ss b, SyOk K H s ∧ s.2 ∈ m.sd b
  mac : MacOk K H m
  tab : TabM K w H R.ds R.dt m
  out : ∀ b o, H0 b = some o → b ≠ R.a → H b = some o
  tdN : H0 R.td = none
  dlN : H0 R.dl = none
  dbN : ∀ b, H0 (R.db b) = none
  nd : [R.ds, R.dt, R.dl, R.dS, R.d0, R.d1].Nodup
  ptn : R.pm ≠ R.td
section
variable {K : PySem.W.Frag} {w : World} {H0 H H' : Hp} {R : RA} {m : Mac} {t : St}
theorem TdOk.tups {e : Td} (o : TdOk K H m e) (tu : Tups H H') : TdOk K H' m e := by
  obtain ⟨q, h1, h2⟩ := o.at_
  exact ⟨⟨q, h1, SqT.tups tu h2⟩, ⟨o.st.1.tups tu, o.st.2⟩, fun l hl => ⟨(o.le l hl).1.tups tu, (o.le l hl).2⟩⟩
theorem da_ent {d : Addr} {l : List Sy} (h : Rd H d (DkO w d (entS l))) (o : ∀ s ∈ l, SyOk K H s) (nd : ((entS l).map (·.1)).Nodup) : DA K w H d (entS l) :=
  ⟨h, fun x hx => by
    obtain ⟨s, hs, rfl⟩ := List.mem_map.mp hx
    exact ⟨(o s hs).nk, (o s hs).deep⟩, nd⟩
theorem RS.dla (r : RS K w H0 R m t H) : DA K w H R.dl (entS t.ls) := da_ent (.inl r.dl) (fun s hs => (r.lsO s hs).1) r.lnd
theorem RS.dba (r : RS K w H0 R m t H) (b : Bool) : DA K w H (R.db b) (entS (t.ss b)) := da_ent (.inl (r.db b)) (fun s hs => (r.ssO b s hs).1) (r.snd b)
theorem nk_text {x : Str} : NK K H (.text x) (.str x) := ⟨.str x, .str x, rfl⟩
theorem RS.dSa (r : RS K w H0 R m t H) : DA K w H R.dS (entB R) := ⟨.inl r.dS, fun x hx => by
  simp only [entB, List.mem_cons, List.not_mem_nil, or_false] at hx
  rcases hx with rfl | rfl <;> exact ⟨nk_text, (show (0 : Nat) ≤ 8 by decide)⟩, (show ([NestedKey.text "l", NestedKey.text "r"] : List NestedKey).Nodup by decide)⟩
theorem entB_at (b : Bool) : atK (entB R) (.text (wayS b)) = some (.ref (R.db b)) := by
  cases b
  · exact atK_pos rfl
  · exact (atK_neg (show ¬ (NestedKey.text "l" : NestedKey) = NestedKey.text "r" by decide)).trans (atK_pos rfl)
/-- the rest of the facts stays -/
theorem RS.keep (r : RS K w H0 R m t H) {t' : St} (tu : Tups H H') (ins : H' R.a = some (.ins R.C R.dx (fldsR R))) (td : H' R.td = some (.lst (t'.todo.map (·.1)))) (pm : H' R.pm = some (.lst []))
    (dl : H' R.dl = some (DkO w R.dl (entS t'.ls))) (dS : H' R.dS = some (DkO w R.dS (entB R))) (db : ∀ b, H' (R.db b) = some (DkO w (R.db b) (entS (t'.ss b))))
    (lnd : ((entS t'.ls).map (·.1)).Nodup) (snd : ∀ b, ((entS (t'.ss b)).map (·.1)).Nodup)
    (tds : ∀ e ∈ t'.todo, e ∈ t.todo ∨ TdOk K H' m e) (lsO : ∀ s ∈ t'.ls, s ∈ t.ls ∨ (SyOk K H' s ∧ s.2 ∈ m.ld)) (ssO : ∀ b, ∀ s ∈ t'.ss b, s ∈ t.ss b ∨ (SyOk K H' s ∧ s.2 ∈ m.sd b))
    (tab : TabM K w H' R.ds R.dt m) (out : ∀ b o, H0 b = some o → b ≠ R.a → H' b = some o) : RS K w H0 R m t' H' :=
  ⟨ins, td, pm, dl, dS, db, lnd, snd, fun e he => (tds e he).elim (fun h => (r.tds e h).tups tu) id, fun s hs => (lsO s hs).elim (fun h => ⟨(r.lsO s h).1.tups tu, (r.lsO s h).2⟩) id,
    fun b s hs => (ssO b s hs).elim (fun h => ⟨(r.ssO b s h).1.tups tu, (r.ssO b s h).2⟩) id, r.mac.tups tu, tab, out, r.tdN, r.dlN, r.dbN, r.nd, r.ptn⟩
theorem RS.same (r : RS K w H0 R m t H) (s : Same H H') : RS K w H0 R m t H' :=
  r.keep (fun b xs h => same_rd s h) (s _ _ r.ins) (s _ _ r.td) (s _ _ r.pm) (s _ _ r.dl) (s _ _ r.dS) (fun b => s _ _ (r.db b)) r.lnd r.snd (fun e h => .inl h) (fun e h => .inl h) (fun b e h => .inl h) (r.tab.same s) (fun b o e n => s _ _ (r.out b o e n))
/-- H' is H but at d -/
theorem RS.dne (r : RS K w H0 R m t H) {d : Addr} {o o' : HO} {b : Addr} (h : H b = some o') (e : H d = some o) (ne : ∀ z : o' = o, b ≠ d) : b ≠ d := by
  rintro rfl
  rw [h] at e
  exact ne (Option.some.inj e) rfl
theorem rd_ne {b d : Addr} {es : List Eh} {o : HO} (h : Rd H b (DkO w b es)) (e : H d = some o) (n1 : ∀ b es, o ≠ DkO w b es) (n2 : ∀ x u, o ≠ .frz x u) : b ≠ d := by
  rintro rfl
  rcases h with h | ⟨u, h⟩
  · rw [h] at e
    exact n1 _ _ (Option.some.inj e).symm
  · rw [h] at e
    exact n2 _ _ (Option.some.inj e).symm
theorem rd_upd {b d : Addr} {o : HO} {es : List Eh} (n : b ≠ d) (h : Rd H b (DkO w b es)) : Rd (upd H d o) b (DkO w b es) := h.imp (fun h => by rw [upd_ne n]; exact h) fun ⟨u, h⟩ => ⟨u, by rw [upd_ne n]; exact h⟩
theorem RA.nes (nd : [R.ds, R.dt, R.dl, R.dS, R.d0, R.d1].Nodup) : R.ds ≠ R.dl ∧ R.dt ≠ R.dl ∧ R.dS ≠ R.dl ∧ (∀ b, R.ds ≠ R.db b ∧ R.dt ≠ R.db b ∧ R.dS ≠ R.db b ∧ R.dl ≠ R.db b) ∧ R.d0 ≠ R.d1 := by
  simp only [List.nodup_cons, List.mem_cons, List.not_mem_nil, or_false, not_or] at nd
  obtain ⟨⟨a1, a2, a3, a4, a5⟩, ⟨b1, b2, b3, b4⟩, ⟨c1, c2, c3⟩, ⟨d1, d2⟩, e1, -⟩ := nd
  exact ⟨a2, b1, Ne.symm c1, fun b => by cases b <;> exact ⟨by assumption, by assumption, by assumption, by assumption⟩, e1⟩
theorem RA.dbne {b c : Bool} (n : R.d0 ≠ R.d1) (h : b ≠ c) : R.db b ≠ R.db c := by
  cases b <;> cases c <;> first | exact absurd rfl h | exact n | exact Ne.symm n
/-- another list of what is to be done -/
theorem RS.setTd (r : RS K w H0 R m t H) {l : List Td} (h : ∀ e ∈ l, e ∈ t.todo ∨ TdOk K H m e) : RS K w H0 R m { t with todo := l } (upd H R.td (.lst (l.map (·.1)))) := by
  have tu : Tups H (upd H R.td (.lst (l.map (·.1)))) := Tups.upd (lst_ntup r.td)
  have st : ∀ {b : Addr} {o : HO}, b ≠ R.td → H b = some o → upd H R.td (.lst (l.map (·.1))) b = some o := fun n e => by
    rw [upd_ne n]
    exact e
  refine r.keep tu (st (ne_of r.ins r.td fun z => nomatch z) r.ins) upd_same (st r.ptn r.pm) (st (ne_of r.dl r.td fun z => nomatch z) r.dl) (st (ne_of r.dS r.td fun z => nomatch z) r.dS) (fun b => st (ne_of (r.db b) r.td fun z => nomatch z) (r.db b)) r.lnd r.snd
    (fun e he => (h e he).imp id fun o => o.tups tu) (fun s h => .inl h) (fun b s h => .inl h) (r.tab.keep tu fun b es hb h => rd_upd (rd_ne h r.td (fun _ _ z => nomatch z) (fun _ _ z => nomatch z)) h) (fun b o e n => st (ne_of_none e r.tdN) (r.out b o e n))
/-- one more letter -/
theorem RS.addL (r : RS K w H0 R m t H) {s : Sy} (h : SyOk K H s ∧ s.2 ∈ m.ld) (new : atK (entS t.ls) (kOf s.2) = none) : RS K w H0 R m { t with ls := t.ls ++ [s] } (upd H R.dl (DkO w R.dl (putE (entS t.ls) (kOf s.2) s.1 (.bl true)))) := by
  have pe : putE (entS t.ls) (kOf s.2) s.1 (.bl true) = entS (t.ls ++ [s]) := by
    rw [putE_new new]
    simp [entS]
  have nd2 : ((entS (t.ls ++ [s])).map (·.1)).Nodup := by
    rw [← pe]
    exact putE_nd r.lnd
  rw [pe]
  obtain ⟨n1, n2, n3, n4, n5⟩ := RA.nes r.nd
  have tu : Tups H (upd H R.dl (DkO w R.dl (entS (t.ls ++ [s])))) := Tups.upd (dk_ntup r.dl)
  have st : ∀ {b : Addr} {o : HO}, b ≠ R.dl → H b = some o → upd H R.dl (DkO w R.dl (entS (t.ls ++ [s]))) b = some o := fun n e => by
    rw [upd_ne n]
    exact e
  refine r.keep tu (st (ne_of r.ins r.dl fun z => nomatch z) r.ins) (st (ne_of r.td r.dl fun z => nomatch z) r.td) (st (ne_of r.pm r.dl fun z => nomatch z) r.pm) upd_same (st n3 r.dS) (fun b => st (Ne.symm (n4 b).2.2.2) (r.db b)) nd2 r.snd
    (fun e he => .inl he) (fun x hx => ?_) (fun b s h => .inl h) (r.tab.keep tu fun b es hb h => rd_upd (by rcases hb with rfl | rfl; exact n1; exact n2) h) (fun b o e n => st (ne_of_none e r.dlN) (r.out b o e n))
  rcases List.mem_append.mp hx with hx | hx
  · exact .inl hx
  · obtain rfl := List.mem_singleton.mp hx
    exact .inr ⟨h.1.tups tu, h.2⟩
def setB (f : Bool → List Sy) (b : Bool) (l : List Sy) : Bool → List Sy := fun c => if c = b then l else f c
/-- one more state -/
theorem RS.addS (r : RS K w H0 R m t H) {b : Bool} {s : Sy} (h : SyOk K H s ∧ s.2 ∈ m.sd b) (new : atK (entS (t.ss b)) (kOf s.2) = none) : RS K w H0 R m { t with ss := setB t.ss b (t.ss b ++ [s]) } (upd H (R.db b) (DkO w (R.db b) (putE (entS (t.ss b)) (kOf s.2) s.1 (.bl true)))) := by
  have pe : putE (entS (t.ss b)) (kOf s.2) s.1 (.bl true) = entS (t.ss b ++ [s]) := by
    rw [putE_new new]
    simp [entS]
  have nd2 : ((entS (t.ss b ++ [s])).map (·.1)).Nodup := by
    rw [← pe]
    exact putE_nd (r.snd b)
  rw [pe]
  obtain ⟨n1, n2, n3, n4, n5⟩ := RA.nes r.nd
  obtain ⟨m1, m2, m3, m4⟩ := n4 b
  have tu : Tups H (upd H (R.db b) (DkO w (R.db b) (entS (t.ss b ++ [s])))) := Tups.upd (dk_ntup (r.db b))
  have st : ∀ {c : Addr} {o : HO}, c ≠ R.db b → H c = some o → upd H (R.db b) (DkO w (R.db b) (entS (t.ss b ++ [s]))) c = some o := fun n e => by
    rw [upd_ne n]
    exact e
  have sb : setB t.ss b (t.ss b ++ [s]) b = t.ss b ++ [s] := if_pos rfl
  have sn : ∀ c, c ≠ b → setB t.ss b (t.ss b ++ [s]) c = t.ss c := fun c n => if_neg n
  refine r.keep tu (st (ne_of r.ins (r.db b) fun z => nomatch z) r.ins) (st (ne_of r.td (r.db b) fun z => nomatch z) r.td) (st (ne_of r.pm (r.db b) fun z => nomatch z) r.pm) (st m4 r.dl) (st m3 r.dS) (fun c => ?_) r.lnd (fun c => ?_)
    (fun e he => .inl he) (fun x hx => .inl hx) (fun c x hx => ?_) (r.tab.keep tu fun c es hb h => rd_upd (by rcases hb with rfl | rfl; exact m1; exact m2) h) (fun c o e n => st (ne_of_none e (r.dbN b)) (r.out c o e n))
  · by_cases e : c = b
    · subst e
      show _ = some (DkO w (R.db c) (entS (setB t.ss c (t.ss c ++ [s]) c)))
      rw [sb]
      exact upd_same
    · show _ = some (DkO w (R.db c) (entS (setB t.ss b (t.ss b ++ [s]) c)))
      rw [sn c e]
      exact st (RA.dbne n5 e) (r.db c)
  · by_cases e : c = b
    · subst e
      show ((entS (setB t.ss c (t.ss c ++ [s]) c)).map (·.1)).Nodup
      rw [sb]
      exact nd2
    · show ((entS (setB t.ss b (t.ss b ++ [s]) c)).map (·.1)).Nodup
      rw [sn c e]
      exact r.snd c
  · by_cases e : c = b
    · subst e
      rw [show (St.mk t.todo t.ls (setB t.ss c (t.ss c ++ [s]))).ss c = t.ss c ++ [s] from sb] at hx
      rcases List.mem_append.mp hx with hx | hx
      · exact .inl hx
      · obtain rfl := List.mem_singleton.mp hx
        exact .inr ⟨h.1.tups tu, h.2⟩
    · rw [show (St.mk t.todo t.ls (setB t.ss b (t.ss b ++ [s]))).ss c = t.ss c from sn c e] at hx
      exact .inl hx
/-! ### what is left falls -/
def pot (m : Mac) (t : St) : Nat := t.todo.length + 200 * (m.ld.length - t.ls.length) + 20 * ((m.sd false).length - (t.ss false).length) + 20 * ((m.sd true).length - (t.ss true).length)
theorem ent_len {l : List Sy} {r : List PyData} (nd : ((entS l).map (·.1)).Nodup) (h : ∀ s ∈ l, s.2 ∈ r) : l.length ≤ r.length := by
  have z := sub_len (r := r.map kOf) nd fun x hx => by
    obtain ⟨e, he, rfl⟩ := List.mem_map.mp hx
    obtain ⟨s, hs, rfl⟩ := List.mem_map.mp he
    exact List.mem_map.mpr ⟨s.2, h s hs, rfl⟩
  simpa [entS] using z
theorem RS.lle (r : RS K w H0 R m t H) : t.ls.length ≤ m.ld.length := ent_len r.lnd fun s hs => (r.lsO s hs).2
theorem RS.sle (r : RS K w H0 R m t H) (b : Bool) : (t.ss b).length ≤ (m.sd b).length := ent_len (r.snd b) fun s hs => (r.ssO b s hs).2
end
end K38

set_option Elab.async false
set_option linter.all false
set_option maxRecDepth 100000
set_option maxHeartbeats 4000000
namespace K38
open PySem PySem.Spec PyProof.Rows L2 Pen Tr AK LamX
/-- the class Reach -/
structure ReF (K : PySem.W.Frag) (C : Addr) : Prop where
  cl : Cls K C
  st : NoAttr K C "_steps"
  tu : NoAttr K C "_turns"
  td : NoAttr K C "_todo"
  le : NoAttr K C "letters"
  ss : NoAttr K C "states"
  mi : NoAttr K C "missing"
theorem paired_app {α β : Type} {F : α → β → Prop} : ∀ {l1 m1 : List α} {l2 m2 : List β}, Paired F l1 l2 → Paired F m1 m2 → Paired F (l1 ++ m1) (l2 ++ m2)
  | _, _, _, _, .nil, h => h
  | _, _, _, _, .cons h1 h2, h => .cons h1 (paired_app h2 h)
theorem news_of {K : PySem.W.Frag} {H : Hp} {m : Mac} {g : Sy → Bool × Sy × Option Sy} : ∀ {l : List Sy} {acc : List V}, Paired (fun (s : Sy) (v : V) => ∃ p, v = .ref p ∧ SqT K H p (tdV (g s).1 (g s).2.1 (g s).2.2)) l acc →
    (∀ s ∈ l, (SyOk K H (g s).2.1 ∧ (g s).2.1.2 ∈ m.sd (g s).1) ∧ ∀ z, (g s).2.2 = some z → SyOk K H z ∧ z.2 ∈ m.ld) → ∃ news : List Td, news.map (·.1) = acc ∧ news.length = l.length ∧ ∀ e ∈ news, TdOk K H m e
  | _, _, .nil, _ => ⟨[], rfl, rfl, fun _ h => nomatch h⟩
  | s :: l, v :: acc, .cons ⟨p, h1, h2⟩ pr, ok => by
    obtain ⟨news, e1, e2, e3⟩ := news_of pr fun z hz => ok z (List.mem_cons_of_mem _ hz)
    obtain ⟨o1, o2⟩ := ok s (List.mem_cons_self ..)
    refine ⟨(v, g s) :: news, by rw [List.map_cons, e1], by rw [List.length_cons, e2, List.length_cons], fun e he => ?_⟩
    rcases List.mem_cons.mp he with rfl | he
    · exact ⟨⟨p, h1, h2⟩, o1, o2⟩
    · exact e3 e he
/-- a list of tuples, one for each key of such a dict -/
theorem lc_tups {K : PySem.W.Frag} {w : World} {H : Hp} {Q : VK} {d : Addr} {l : List Sy} {fv : Sy → List V} {td te : TE} {v0 v1 v2 o : Option V} (hd : H d = some (DkO w d (entS l))) (few : l.length ≤ 1000)
    (htd : ∀ od (R : VK), R (.ref d) (upd H d (.frz od (DkO w d (entS l)))) → td [v0, v1, v2, o] (upd H d (.frz od (DkO w d (entS l)))) R)
    (hte : ∀ s H1 (R : VK), (∀ p, H1 p = none → R (.ref p) (upd H1 p (.tup (fv s)))) → te [v0, v1, v2, some (s : Sy).1] H1 R)
    (q : ∀ D H' (acc : List V), Same H H' → H D = none → H' D = some (.lst acc) → Paired (fun (s : Sy) (v : V) => ∃ p, v = .ref p ∧ SqT K H' p (fv s)) l acc → Q (.ref D) H') :
    tLockE (tLc (iKeysA w td) (gName 3) tYes te [3]) [v0, v1, v2, o] H Q := by
  refine ⟨d, _, hd, trivial, fun od => ?_⟩
  refine htd od _ ⟨d, od, _, rfl, upd_same, fun D nD => ?_⟩
  have nDd : D ≠ d := by
    rintro rfl
    rw [upd_same] at nD
    cases nD
  have nDH : H D = none := by
    rw [upd_ne nDd] at nD
    exact nD
  have len : (entS l).length = l.length := by simp [entS]
  have s0 : Same (upd H d (.frz od (DkO w d (entS l)))) (upd (upd H d (.frz od (DkO w d (entS l)))) D (.lst [])) := same_upd nD
  refine lc_it (walk_keysA (w := w) (d := d) (o := od) (es := entS l)) (fun i H' => Same (upd H d (.frz od (DkO w d (entS l)))) H' ∧ ∃ acc, H' D = some (.lst acc) ∧ Paired (fun (s : Sy) (v : V) => ∃ p, v = .ref p ∧ SqT K H' p (fv s)) (l.take i) acc)
    ⟨s0, [], upd_same, .nil⟩ (fun i H' _ ⟨s, _⟩ => s _ _ upd_same) ?_ ?_
  · rintro i x H1 H2 hi ⟨s1, acc, hacc, pr⟩ ⟨rfl, e, he, rfl⟩
    rw [len] at hi
    obtain ⟨s, hs, rfl⟩ : ∃ s, l[i]? = some s ∧ (kOf s.2, s.1, V.bl true) = e := by
      unfold entS at he
      rw [List.getElem?_map] at he
      exact Option.map_eq_some_iff.mp he
    refine ⟨rfl, ?_⟩
    show te [v0, v1, v2, some s.1] H2 _
    refine hte s _ _ fun p np => ?_
    have npD : D ≠ p := ne_of_none hacc np
    have al : acc.length = (l.take i).length := (Paired.length pr).symm
    refine ⟨acc, by rw [upd_ne npD]; exact hacc, ?_, ?_, _, upd_same, ?_⟩
    · rw [al, List.length_take, sizeLine_eq]
      omega
    · intro b ob eb
      have n1 : b ≠ D := ne_of_none eb nD
      rw [upd_ne n1, upd_ne (ne_of_none (s1 _ _ eb) np)]
      exact s1 _ _ eb
    · have tu1 : Tups H2 (upd H2 p (.tup (fv s))) := Tups.new np
      have tu2 : Tups (upd H2 p (.tup (fv s))) (upd (upd H2 p (.tup (fv s))) D (.lst (acc ++ [.ref p]))) := Tups.upd (lst_ntup (by rw [upd_ne npD]; exact hacc))
      have tu := Tups.trans tu1 tu2
      rw [List.take_add_one, hs]
      refine paired_app (Paired.mono (fun a b ⟨c, h1, h2⟩ => ⟨c, h1, SqT.tups tu h2⟩) pr) (.cons ⟨p, rfl, SqT.tups tu2 (SqT.of upd_same)⟩ .nil)
  · rintro H' ⟨s1, acc, hacc, pr⟩
    have lock := s1 _ _ (upd_same (H := H) (a := d))
    refine ⟨lock, ?_⟩
    have tu : Tups H' (upd H' d (DkO w d (entS l))) := Tups.upd fun xs h => by
      rcases h with h | ⟨u, h⟩ <;> rw [lock] at h <;> cases h
    refine q D _ acc (fun b ob eb => ?_) nDH (by rw [upd_ne nDd]; exact hacc) ?_
    · by_cases e : b = d
      · subst e
        rw [hd] at eb
        cases eb
        exact upd_same
      · rw [upd_ne e]
        exact s1 _ _ (by rw [upd_ne e]; exact eb)
    · rw [len, List.take_length] at pr
      exact Paired.mono (fun a b ⟨c, h1, h2⟩ => ⟨c, h1, SqT.tups tu h2⟩) pr
section
variable {P : Program} {w : World} {K : PySem.W.Frag} {mg : Str → Option PySem.Value} {base : Heap} {f C aD : Addr} {fd : FuncData} {H0 H : Hp} {R : RA} {m : Mac} {t : St}
theorem pot_few {m : Mac} {t : St} {n : Nat} (h : pot m t ≤ n) : t.todo.length ≤ n := by
  unfold pot at h
  omega
def spAddL (K : PySem.W.Frag) (w : World) (C : Addr) : Sp := fun vs H Q _ => ∃ H0 R m t s, vs = [.ref R.a, (s : Sy).1] ∧ R.C = C ∧ RS K w H0 R m t H ∧ pot m t ≤ 5000 ∧ SyOk K H s ∧ s.2 ∈ m.ld ∧ ∀ t' H', RS K w H0 R m t' H' → pot m t' ≤ pot m t → (∀ b, (t.ss b) = t'.ss b) → t'.ls ≠ [] → Q .non H'
abbrev nAL : List Str := ["self", "letter", "direction", "state"]
theorem scAL : FnScope nAL ["self", "letter"] (defScope (cReach 1)) := ⟨rfl, rfl, rfl, by decide +kernel, rfl, by decide +kernel, by decide +kernel⟩
theorem ok_addL (F : FnM K "_add_letter" "Reach._add_letter" (cReach 1) f fd) (RF : ReF K C) (gD : mg "DIRECTIONS" = some (.ref aD)) (hD : ∀ H, SqT K H aD [.str "l", .str "r"]) : FnOk P w K mg base CX0 1 f fd ["self", "letter"] (spAddL K w C) := by
  refine F.ok scAL (fun vs H Q E h => by obtain ⟨H0, R, m, t, s, rfl, _⟩ := h; rfl) (fun cdv A outer s0 H vs Q E hr h => ?_)
  obtain ⟨H0, R, m, t, s, rfl, rfl, r, few0, hs, ms, q⟩ := h
  have few := pot_few few0
  have nd := scAL.nd
  have hu := hr.units
  suffices z : ∃ t, PSs (cxOf CX0 P w K mg base nAL "Reach._add_letter" (defScope (cReach 1)) f cdv A outer s0 H E).nox (defBody (cReach 1)) t ∧ t { nx := fun _ H' => Q .non H', rt := Q } (start nAL [.ref R.a, s.1]) H by
    obtain ⟨t, h1, h2⟩ := z
    exact ⟨t, h1.nox, h2⟩
  refine ⟨_, pss_cons (ps_if (pt_cmpR (op_inA hu) (pv 1) (pe_fld (pv 0) rfl) (by rfl)) (pss_one (ps_retN)) pss_nil)
   (pss_cons (ps_asg pe_bl (pg_sub (pe_fld (pv 0) rfl) (pv 1) (set_dictA hu)))
   (pss_one (ps_for PassesOwn.never rfl (pi_tup (pe_glob (by rfl) gD (v := .ref aD) rfl)) (pg_name (i := 2) nd rfl (.inr rfl))
    (pss_one (ps_expr (pe_bm PySem.F.plainAttrs_list PySem.F.slot_list_extend PySem.F.type_list_extend mt_extend (pe_fld (pv 0) rfl) (pa_cons (pe_lock (pe_lc (own := [("state", 3)]) (g := gName 3) (tt := tYes) (te := tTup (tCons (tVar 2) (tCons (tVar 3) (tCons (tVar 1) tNil)))) (by rfl) nd
      (pi_keysA (pe_ix (ix_dictA hu) (pe_fld (pv 0) rfl) (pv 2) (fun _ _ => rfl))) (blkOk_by (own := [("state", 3)]) (N := nAL) (sc := defScope (cReach 1)) (by decide +kernel)) (fun _ _ _ _ _ => pg_name (i := 3) nd rfl (Or.inl rfl)) (fun _ _ _ _ _ => pts_nil)
      (fun _ _ _ _ _ => pe_tup (pa_cons (pv 2) (pa_cons (pv 3) (pa_cons (pv 1) pa_nil)))))) pa_nil))))))), ?_⟩
  refine ⟨_, rfl, _, rfl, R.a, R.C, R.dx, _, .ref R.dl, rfl, r.ins, RF.cl, RF.le, rfl, R.dl, _, kOf s.2, rfl, r.dla, hs.nk, hs.deep, _, rfl, ?_⟩
  cases new : atK (entS t.ls) (kOf s.2) with
  | some z =>
    exact iteT (q t H r (Nat.le_refl _) (fun _ => rfl) (by intro z0; rw [z0] at new; cases new))
  | none =>
    refine iteF ⟨_, rfl, R.a, R.C, R.dx, _, .ref R.dl, rfl, r.ins, RF.cl, RF.le, rfl, _, rfl, R.dl, _, kOf s.2, rfl, r.dl, r.dla, hs.nk, hs.deep, ?_, ?_⟩
    · have := r.lle
      have := r.mac.lf
      simp only [entS, List.length_map]
      rw [sizeLine_eq]
      omega
    have r1 := r.addL ⟨hs, ms⟩ new
    refine ⟨aD, rfl, ⟨_, hD _⟩, ?_⟩
    have lss : ∀ b, (t.ss b).length ≤ 80 := fun b => Nat.le_trans (r.sle b) (r.mac.sf b)
    refine for_it (walk_tup (K := K) (a := aD) (xs := [.str "l", .str "r"])) (fun j σ H' => (∃ o, σ = [some (.ref R.a), some s.1, o, none]) ∧ ∃ td, td.length ≤ t.todo.length + 80 * j ∧ RS K w H0 R m { t with todo := td, ls := t.ls ++ [s] } H') ?_ ?_ ?_ ?_
    · exact ⟨⟨none, rfl⟩, t.todo, Nat.le_refl _, r1⟩
    · rintro j σ H' hj _
      exact hD _
    · rintro j y σ H5 H4 hj ⟨⟨o, rfl⟩, td, ltd, r4⟩ ⟨rfl, hx⟩
      have hj : j < 2 := hj
      obtain ⟨b, rfl⟩ : ∃ b, y = .str (wayS b) := by
        match j, hj with
        | 0, _ => exact ⟨false, (Option.some.inj hx).symm⟩
        | 1, _ => exact ⟨true, (Option.some.inj hx).symm⟩
      have lb := lss b
      refine ⟨_, rfl, R.a, R.C, R.dx, _, .ref R.td, rfl, r4.ins, RF.cl, RF.td, rfl, .inl ⟨rfl, _, SqL.of r4.td⟩, ?_⟩
      refine lc_tups (K := K) (l := t.ss b) (fv := fun z => tdV b z (some s)) (r4.db b) (by omega) (fun od R' q' => ?_) (fun z H6 R' q' => ?_) fun D H6 acc s6 nD hD6 pr => ?_
      · have nS : R.dS ≠ R.db b := ((RA.nes r.nd).2.2.2.1 b).2.2.1
        have na : R.a ≠ R.db b := ne_of r4.ins (r4.db b) fun z => nomatch z
        refine ⟨_, rfl, R.a, R.C, R.dx, _, .ref R.dS, rfl, (by rw [upd_ne na]; exact r4.ins), RF.cl, RF.ss, rfl, _, rfl, R.dS, _, .text (wayS b), _, rfl, ?_, nk_text, (Nat.zero_le _), entB_at b, q'⟩
        exact ⟨.inl (by rw [upd_ne nS]; exact r4.dS), fun x hx => ⟨(r4.dSa.nk x hx).1.tups (Tups.upd (dk_ntup (r4.db b))), (r4.dSa.nk x hx).2⟩, r4.dSa.nd⟩
      · exact ⟨_, rfl, _, rfl, _, rfl, (by show 3 ≤ sizeLine; rw [sizeLine_eq]; decide), q'⟩
      · have r6 := r4.same s6
        obtain ⟨news, e1, e2, e3⟩ := news_of (m := m) (g := fun z => (b, z, some s)) pr fun z hz => ⟨r6.ssO b z hz, fun x hx => by
          cases hx
          exact r6.lsO s (List.mem_append_right _ (List.mem_singleton.mpr rfl))⟩
        refine ⟨R.td, D, _, acc, rfl, rfl, r6.td, hD6, ?_, ?_⟩
        · rw [← e1, List.length_map, List.length_map, sizeLine_eq, e2]
          show td.length + (t.ss b).length ≤ _
          omega
        · refine ⟨⟨_, rfl⟩, td ++ news, ?_, ?_⟩
          · rw [List.length_append, e2]
            omega
          · have r7 := r6.setTd (l := td ++ news) fun e he => (List.mem_append.mp he).imp id (e3 e)
            rw [List.map_append, e1] at r7
            exact r7
    · rintro σ H' ⟨⟨o, rfl⟩, td, ltd, r4⟩
      refine q _ H' r4 ?_ (fun _ => rfl) (by simp)
      have h1 := r4.lle
      have h2 : td.length ≤ t.todo.length + 80 * 2 := ltd
      simp only [List.length_append, List.length_singleton] at h1
      simp only [pot, List.length_append, List.length_singleton]
      omega
theorem RS.ssp (r : RS K w H0 R m t H) (b : Bool) : (t.ss b).length ≤ 80 := Nat.le_trans (r.sle b) (r.mac.sf b)
def spAddS (K : PySem.W.Frag) (w : World) (C : Addr) : Sp := fun vs H Q _ => ∃ H0 R m t b s, vs = [.ref R.a, .str (wayS b), (s : Sy).1] ∧ R.C = C ∧ RS K w H0 R m t H ∧ pot m t ≤ 5000 ∧ SyOk K H s ∧ s.2 ∈ m.sd b ∧ ∀ t' H', RS K w H0 R m t' H' → pot m t' ≤ pot m t → t'.ls = t.ls → Q .non H'
abbrev nAS : List Str := ["self", "direction", "state", "letter"]
theorem scAS : FnScope nAS ["self", "direction", "state"] (defScope (cReach 2)) := ⟨rfl, rfl, rfl, by decide +kernel, rfl, by decide +kernel, by decide +kernel⟩
theorem ok_addS (F : FnM K "_add_state" "Reach._add_state" (cReach 2) f fd) (RF : ReF K C) : FnOk P w K mg base CX0 1 f fd ["self", "direction", "state"] (spAddS K w C) := by
  refine F.ok scAS (fun vs H Q E h => by obtain ⟨H0, R, m, t, b, s, rfl, _⟩ := h; rfl) (fun cdv A outer s0 H vs Q E hr h => ?_)
  obtain ⟨H0, R, m, t, b, s, rfl, rfl, r, few0, hs, ms, q⟩ := h
  have few := pot_few few0
  have nd := scAS.nd
  have hu := hr.units
  suffices z : ∃ t, PSs (cxOf CX0 P w K mg base nAS "Reach._add_state" (defScope (cReach 2)) f cdv A outer s0 H E).nox (defBody (cReach 2)) t ∧ t { nx := fun _ H' => Q .non H', rt := Q } (start nAS [.ref R.a, .str (wayS b), s.1]) H by
    obtain ⟨t, h1, h2⟩ := z
    exact ⟨t, h1.nox, h2⟩
  refine ⟨_, pss_cons (ps_if (pt_cmpR (op_inA hu) (pv 2) (pe_ix (ix_dictA hu) (pe_fld (pv 0) rfl) (pv 1) (fun _ _ => rfl)) (by rfl)) (pss_one ps_retN) pss_nil)
    (pss_cons (ps_asg pe_bl (pg_sub (pe_ix (ix_dictA hu) (pe_fld (pv 0) rfl) (pv 1) (fun _ _ => rfl)) (pv 2) (set_dictA hu)))
    (pss_cons (ps_expr (pe_bm PySem.F.plainAttrs_list PySem.F.slot_list_append PySem.F.type_list_append mt_append (pe_fld (pv 0) rfl) (pa_cons (pe_tup (pa_cons (pv 1) (pa_cons (pv 2) pa_nil))) pa_nil)))
    (pss_one (ps_expr (pe_bm PySem.F.plainAttrs_list PySem.F.slot_list_extend PySem.F.type_list_extend mt_extend (pe_fld (pv 0) rfl) (pa_cons (pe_lock (pe_lc (own := [("letter", 3)]) (g := gName 3) (tt := tYes) (te := tTup (tCons (tVar 1) (tCons (tVar 2) (tCons (tVar 3) tNil)))) (by rfl) nd
      (pi_keysA (pe_fld (pv 0) rfl)) (blkOk_by (own := [("letter", 3)]) (N := nAS) (sc := defScope (cReach 2)) (by decide +kernel)) (fun _ _ _ _ _ => pg_name (i := 3) nd rfl (Or.inl rfl)) (fun _ _ _ _ _ => pts_nil)
      (fun _ _ _ _ _ => pe_tup (pa_cons (pv 1) (pa_cons (pv 2) (pa_cons (pv 3) pa_nil)))))) pa_nil)))))), ?_⟩
  have dep : (NestedKey.text (wayS b)).depth ≤ 8 := Nat.zero_le _
  refine ⟨_, rfl, _, rfl, R.a, R.C, R.dx, _, .ref R.dS, rfl, r.ins, RF.cl, RF.ss, rfl, _, rfl, R.dS, _, .text (wayS b), _, rfl, r.dSa, nk_text, dep, entB_at b, R.db b, _, kOf s.2, rfl, r.dba b, hs.nk, hs.deep, _, rfl, ?_⟩
  cases new : atK (entS (t.ss b)) (kOf s.2) with
  | some z =>
    exact iteT (q t H r (Nat.le_refl _) rfl)
  | none =>
    refine iteF ⟨_, rfl, R.a, R.C, R.dx, _, .ref R.dS, rfl, r.ins, RF.cl, RF.ss, rfl, _, rfl, R.dS, _, .text (wayS b), _, rfl, r.dSa, nk_text, dep, entB_at b, _, rfl, R.db b, _, kOf s.2, rfl, r.db b, r.dba b, hs.nk, hs.deep, ?_, ?_⟩
    · have := r.ssp b
      simp only [entS, List.length_map]
      rw [sizeLine_eq]
      omega
    have hs1 := hs
    have r1 := r.addS ⟨hs, ms⟩ new
    refine ⟨_, rfl, R.a, R.C, R.dx, _, .ref R.td, rfl, r1.ins, RF.cl, RF.td, rfl, .inl ⟨rfl, _, SqL.of r1.td⟩, ?_⟩
    refine ⟨_, rfl, _, rfl, (by show 2 ≤ sizeLine; rw [sizeLine_eq]; decide), fun p np => ?_⟩
    have r2 := r1.same (same_upd (o := .tup [.str (wayS b), s.1]) np)
    have in2 : ∀ H', RS K w H0 R m { t with ss := setB t.ss b (t.ss b ++ [s]) } H' → SyOk K H' s ∧ s.2 ∈ m.sd b := fun H' rr => rr.ssO b s (by
      show s ∈ setB t.ss b (t.ss b ++ [s]) b
      rw [show setB t.ss b (t.ss b ++ [s]) b = t.ss b ++ [s] from if_pos rfl]
      exact List.mem_append_right _ (List.mem_singleton.mpr rfl))
    have r3 := r2.setTd (l := t.todo ++ [(.ref p, b, s, none)]) fun e he => (List.mem_append.mp he).imp id fun he => by
      obtain rfl := List.mem_singleton.mp he
      exact ⟨⟨p, rfl, SqT.of upd_same⟩, in2 _ r2, fun l hl => nomatch hl⟩
    rw [List.map_append] at r3
    refine ⟨R.td, _, .ref p, rfl, rfl, r2.td, ?_, ?_⟩
    · rw [List.length_map, sizeLine_eq]
      show t.todo.length < _
      omega
    refine ⟨_, rfl, R.a, R.C, R.dx, _, .ref R.td, rfl, r3.ins, RF.cl, RF.td, rfl, .inl ⟨rfl, _, SqL.of r3.td⟩, ?_⟩
    have few1 : t.ls.length ≤ 3 := Nat.le_trans r.lle r.mac.lf
    refine lc_tups (K := K) (l := t.ls) (fv := fun z => tdV b s (some z)) r3.dl (by omega) (fun od R' q' => ?_) (fun z H6 R' q' => ?_) fun D H6 acc s6 nD hD6 pr => ?_
    · have na : R.a ≠ R.dl := ne_of r3.ins r3.dl fun z => nomatch z
      exact ⟨_, rfl, R.a, R.C, R.dx, _, .ref R.dl, rfl, (by rw [upd_ne na]; exact r3.ins), RF.cl, RF.le, rfl, q'⟩
    · exact ⟨_, rfl, _, rfl, _, rfl, (by show 3 ≤ sizeLine; rw [sizeLine_eq]; decide), q'⟩
    · have r6 := r3.same s6
      have in6 : SyOk K H6 s ∧ s.2 ∈ m.sd b := r6.ssO b s (by
        show s ∈ setB t.ss b (t.ss b ++ [s]) b
        rw [show setB t.ss b (t.ss b ++ [s]) b = t.ss b ++ [s] from if_pos rfl]
        exact List.mem_append_right _ (List.mem_singleton.mpr rfl))
      obtain ⟨news, e1, e2, e3⟩ := news_of (m := m) (g := fun z => (b, s, some z)) pr fun z hz => ⟨in6, fun x hx => by
        cases hx
        exact r6.lsO z hz⟩
      have len6 : (t.todo ++ [(V.ref p, b, s, (none : Option Sy))]).length = t.todo.length + 1 := by simp
      refine ⟨R.td, D, _, acc, rfl, rfl, r6.td, hD6, ?_, ?_⟩
      · rw [← e1, List.length_map, List.length_map, e2, sizeLine_eq]
        show (t.todo ++ [(V.ref p, b, s, none)]).length + t.ls.length ≤ _
        rw [len6]
        omega
      · have r7 := r6.setTd (l := (t.todo ++ [(V.ref p, b, s, none)]) ++ news) fun e he => (List.mem_append.mp he).imp id (e3 e)
        rw [List.map_append, e1] at r7
        refine q _ _ r7 ?_ rfl
        have h1 := r7.sle b
        simp only [pot, List.length_append, List.length_singleton, e2]
        have sb : setB t.ss b (t.ss b ++ [s]) b = t.ss b ++ [s] := if_pos rfl
        have sn : setB t.ss b (t.ss b ++ [s]) (!b) = t.ss (!b) := if_neg (by cases b <;> decide)
        have h1 : (setB t.ss b (t.ss b ++ [s]) b).length ≤ (m.sd b).length := h1
        cases b with
        | false =>
          rw [sb] at h1 ⊢
          rw [show setB t.ss false (t.ss false ++ [s]) true = t.ss true from sn]
          simp only [List.length_append, List.length_singleton] at h1 ⊢
          omega
        | true =>
          rw [sb] at h1 ⊢
          rw [show setB t.ss true (t.ss true ++ [s]) false = t.ss false from sn]
          simp only [List.length_append, List.length_singleton] at h1 ⊢
          omega
end
end K38

set_option Elab.async false
set_option linter.all false
set_option maxRecDepth 100000
set_option maxHeartbeats 4000000
namespace K38
open PySem PySem.Spec PyProof.Rows L2 Pen Tr AK LamX
section
variable {P : Program} {w : World} {K : PySem.W.Frag} {mg : Str → Option PySem.Value} {base : Heap} {f C aD aO fS fL fK fT : Addr} {fd fdS fdL fdK fdT : FuncData} {H0 H : Hp} {R : RA} {m : Mac} {t : St}
/-- the key of an entry -/
def tdK (e : Td) : NestedKey := match e.2.2.2 with
  | none => kT e.2.1 e.2.2.1.2
  | some l => kS e.2.1 e.2.2.1.2 l.2
theorem dep3 {a b c : NestedKey} (h1 : a.depth ≤ 1) (h2 : b.depth ≤ 1) (h3 : c.depth ≤ 1) : (NestedKey.tup [a, b, c]).depth ≤ 8 := by
  simp [NestedKey.depth, NestedKey.depthAll]
  omega
theorem TdOk.nk {e : Td} (o : TdOk K H m e) : NK K H (tdK e) e.1 := by
  obtain ⟨q, h1, h2⟩ := o.at_
  obtain ⟨v, b, s, x⟩ := e
  have h1 : v = .ref q := h1
  subst h1
  have ks := menu_key _ o.st.1.mem
  cases x with
  | none =>
    refine ⟨.tuple [.str (wayS b), s.2], .tup h2 (.cons (.str _) (.cons o.st.1.dp .nil)), ?_⟩
    show keyD _ = some (kT b s.2)
    simp [keyD, keyDs, ks, kT]
  | some l =>
    have kl := menu_key _ (o.le l rfl).1.mem
    refine ⟨.tuple [.str (wayS b), s.2, l.2], .tup h2 (.cons (.str _) (.cons o.st.1.dp (.cons (o.le l rfl).1.dp .nil))), ?_⟩
    show keyD _ = some (kS b s.2 l.2)
    simp [keyD, keyDs, ks, kl, kS]
theorem TdOk.deep {e : Td} (o : TdOk K H m e) : (tdK e).depth ≤ 8 := by
  obtain ⟨v, b, s, x⟩ := e
  have ks : (kOf s.2).depth ≤ 1 := menu_deep _ o.st.1.mem
  cases x with
  | none =>
    show (kT b s.2).depth ≤ 8
    simp only [kT, NestedKey.depth, NestedKey.depthAll]
    omega
  | some l =>
    have kl : (kOf l.2).depth ≤ 1 := menu_deep _ (o.le l rfl).1.mem
    show (kS b s.2 l.2).depth ≤ 8
    simp only [kS, NestedKey.depth, NestedKey.depthAll]
    omega
def spLookS (K : PySem.W.Frag) (w : World) (C : Addr) : Sp := fun vs H Q _ => ∃ H0 R m t e, vs = [.ref R.a, (e : Td).1] ∧ R.C = C ∧ RS K w H0 R m t H ∧ pot m t ≤ 5000 ∧ TdOk K H m e ∧ e.2.2.2.isSome = true ∧ ∀ t' H', RS K w H0 R m t' H' → pot m t' ≤ pot m t → (t.ls ≠ [] → t'.ls ≠ []) → Q .non H'
abbrev nLS : List Str := ["self", "key", "state", "written"]
theorem scLS : FnScope nLS ["self", "key"] (defScope (cReach 4)) := ⟨rfl, rfl, rfl, by decide +kernel, rfl, by decide +kernel, by decide +kernel⟩
theorem ok_lookS (F : FnM K "_look_at_step" "Reach._look_at_step" (cReach 4) f fd) (RF : ReF K C) (MS : Meth K C "_add_state" fS) (FS : FnM K "_add_state" "Reach._add_state" (cReach 2) fS fdS) (ML : Meth K C "_add_letter" fL) (FL : FnM K "_add_letter" "Reach._add_letter" (cReach 1) fL fdL)
    (gD : mg "DIRECTIONS" = some (.ref aD)) (hD : ∀ H, SqT K H aD [.str "l", .str "r"]) : FnOk P w K mg base CX0 2 f fd ["self", "key"] (spLookS K w C) := by
  refine F.ok scLS (fun vs H Q E h => by obtain ⟨H0, R, m, t, s, rfl, _⟩ := h; rfl) (fun cdv A outer s0 H vs Q E hr h => ?_)
  obtain ⟨H0, R, m, t, e, rfl, rfl, r, few, he, es, q⟩ := h
  have nd := scLS.nd
  have hu := hr.units
  suffices z : ∃ t, PSs (cxOf CX0 P w K mg base nLS "Reach._look_at_step" (defScope (cReach 4)) f cdv A outer s0 H E).nox (defBody (cReach 4)) t ∧ t { nx := fun _ H' => Q .non H', rt := Q } (start nLS [.ref R.a, e.1]) H by
    obtain ⟨t, h1, h2⟩ := z
    exact ⟨t, h1.nox, h2⟩
  have GS := ok_addS (P := P) (w := w) (mg := mg) (base := base) FS RF
  have GL := ok_addL (P := P) (w := w) (mg := mg) (base := base) FL RF gD hD
  have bS : L2.Binds K fdS ["self", "direction", "state"] [] := FunD.bindsN FS fun _ _ _ _ _ _ us hl => match us, hl with | [_, _, _], _ => rfl
  have bL : L2.Binds K fdL ["self", "letter"] [] := FunD.bindsN FL fun _ _ _ _ _ _ us hl => match us, hl with | [_, _], _ => rfl
  refine ⟨_, pss_cons (ps_if (pt_cmpR (op_notInA hu) (pv 1) (pe_fld (pv 0) rfl) (by rfl)) Tr.pss_never pss_nil)
    (pss_cons (ps_asg (pe_ix (ix_dictA hu) (pe_fld (pv 0) rfl) (pv 1) (fun _ _ => rfl)) (pg_tup (by rfl) (pgs_cons (pg_name (i := 2) nd rfl (.inl rfl)) (pgs_cons (pg_name (i := 3) nd rfl (.inl rfl)) pgs_nil))))
    (pss_cons (ps_expr (pe_meth (pv 0) RF.cl MS GS hr bS .nil pass0 (pa_cons (pe_ix ix_tup (pv 1) pe_int (fun _ _ => rfl)) (pa_cons (pv 2) pa_nil))))
    (pss_one (ps_expr (pe_meth (pv 0) RF.cl ML GL hr bL .nil pass0 (pa_cons (pv 3) pa_nil)))))), ?_⟩
  obtain ⟨v, b, s, x⟩ := e
  cases x with
  | none => cases es
  | some l =>
    obtain ⟨es1, et1, D1, D2, T1, T2⟩ := r.tab.ex
    obtain ⟨hl, ml⟩ := he.le l rfl
    obtain ⟨p, at1, hp⟩ := T1 b s.2 l.2 he.st.2 ml
    obtain ⟨z1, z2, z3, z4⟩ := r.mac.st b s.2 l.2 he.st.2 ml
    obtain ⟨q1, e1, hq1⟩ := he.at_
    have e1 : v = .ref q1 := e1
    subst e1
    refine ⟨_, rfl, _, rfl, R.a, R.C, R.dx, _, .ref R.ds, rfl, r.ins, RF.cl, RF.st, rfl, R.ds, es1, kS b s.2 l.2, rfl, D1, he.nk, he.deep, _, rfl, ?_⟩
    rw [at1]
    refine iteF ⟨_, rfl, R.a, R.C, R.dx, _, .ref R.ds, rfl, r.ins, RF.cl, RF.st, rfl, _, rfl, R.ds, es1, kS b s.2 l.2, _, rfl, D1, he.nk, he.deep, at1, p, _, rfl, hp, rfl, _, _, rfl, _, _, rfl, rfl, ?_⟩
    refine ⟨_, rfl, R.a, R.dx, _, rfl, r.ins, rfl, _, rfl, q1, _, 0, .str (wayS b), rfl, rfl, hq1, rfl, _, rfl, ?_⟩
    refine ⟨H0, R, m, t, b, (m.step b s.2 l.2).1, rfl, rfl, r, few, z1, z2, fun t2 H2 r2 le2 ls2 => ?_⟩
    have ul : ∀ H', RS K w H0 R m t2 H' → SyOk K H' (m.step b s.2 l.2).2 ∧ (m.step b s.2 l.2).2.2 ∈ m.ld := fun H' rr => by
      obtain ⟨y1, y2, y3, y4⟩ := rr.mac.st b s.2 l.2 he.st.2 ml
      exact ⟨y3, y4⟩
    obtain ⟨u1, u2⟩ := ul _ r2
    refine ⟨_, rfl, R.a, R.dx, _, rfl, r2.ins, rfl, _, rfl, ?_⟩
    refine ⟨H0, R, m, t2, (m.step b s.2 l.2).2, rfl, rfl, r2, Nat.le_trans le2 few, u1, u2, fun t3 H3 r3 le3 _ ne3 => q t3 H3 r3 (Nat.le_trans le3 le2) fun _ => ne3⟩
def spLookT (K : PySem.W.Frag) (w : World) (C : Addr) : Sp := fun vs H Q _ => ∃ H0 R m t e, vs = [.ref R.a, (e : Td).1] ∧ R.C = C ∧ RS K w H0 R m t H ∧ pot m t ≤ 5000 ∧ TdOk K H m e ∧ e.2.2.2 = none ∧ ∀ t' H', RS K w H0 R m t' H' → pot m t' ≤ pot m t → (t.ls ≠ [] → t'.ls ≠ []) → Q .non H'
abbrev nLT : List Str := ["self", "key", "turn", "state", "extra"]
theorem scLT : FnScope nLT ["self", "key"] (defScope (cReach 5)) := ⟨rfl, rfl, rfl, by decide +kernel, rfl, by decide +kernel, by decide +kernel⟩
theorem ok_lookT (F : FnM K "_look_at_turn" "Reach._look_at_turn" (cReach 5) f fd) (RF : ReF K C) (MS : Meth K C "_add_state" fS) (FS : FnM K "_add_state" "Reach._add_state" (cReach 2) fS fdS) (ML : Meth K C "_add_letter" fL) (FL : FnM K "_add_letter" "Reach._add_letter" (cReach 1) fL fdL)
    (gD : mg "DIRECTIONS" = some (.ref aD)) (hD : ∀ H, SqT K H aD [.str "l", .str "r"]) (gO : mg "OTHER_DIRECTION" = some (.ref aO)) (hO : ∀ b, KDct K w aO (wayS b) (.str (wayS (!b)))) : FnOk P w K mg base CX0 2 f fd ["self", "key"] (spLookT K w C) := by
  refine F.ok scLT (fun vs H Q E h => by obtain ⟨H0, R, m, t, s, rfl, _⟩ := h; rfl) (fun cdv A outer s0 H vs Q E hr h => ?_)
  obtain ⟨H0, R, m, t, e, rfl, rfl, r, few, he, es, q⟩ := h
  have nd := scLT.nd
  have hu := hr.units
  suffices z : ∃ t, PSs (cxOf CX0 P w K mg base nLT "Reach._look_at_turn" (defScope (cReach 5)) f cdv A outer s0 H E).nox (defBody (cReach 5)) t ∧ t { nx := fun _ H' => Q .non H', rt := Q } (start nLT [.ref R.a, e.1]) H by
    obtain ⟨t, h1, h2⟩ := z
    exact ⟨t, h1.nox, h2⟩
  have GS := ok_addS (P := P) (w := w) (mg := mg) (base := base) FS RF
  have GL := ok_addL (P := P) (w := w) (mg := mg) (base := base) FL RF gD hD
  have bS : L2.Binds K fdS ["self", "direction", "state"] [] := FunD.bindsN FS fun _ _ _ _ _ _ us hl => match us, hl with | [_, _, _], _ => rfl
  have bL : L2.Binds K fdL ["self", "letter"] [] := FunD.bindsN FL fun _ _ _ _ _ _ us hl => match us, hl with | [_, _], _ => rfl
  refine ⟨_, pss_cons (ps_if (pt_cmpR (op_notInA hu) (pv 1) (pe_fld (pv 0) rfl) (by rfl)) Tr.pss_never pss_nil)
    (pss_cons (ps_asg (pe_ix (ix_dictA hu) (pe_fld (pv 0) rfl) (pv 1) (fun _ _ => rfl)) (pg_name (i := 2) nd rfl (.inl rfl)))
    (pss_cons (ps_if (pt_cmpR op_isN (pv 2) pe_non (nomark _)) (pss_one ps_retN) pss_nil)
    (pss_cons (ps_asg (pv 2) (pg_tup (by rfl) (pgs_cons (pg_name (i := 3) nd rfl (.inl rfl)) (pgs_cons (pg_name (i := 4) nd rfl (.inl rfl)) pgs_nil))))
    (pss_cons (ps_expr (pe_meth (pv 0) RF.cl MS GS hr bS .nil pass0 (pa_cons (pe_ix ix_kdict (pe_glob (by rfl) gO (v := .ref aO) rfl) (pe_ix ix_tup (pv 1) pe_int (fun _ _ => rfl)) (fun _ _ => rfl)) (pa_cons (pv 3) pa_nil))))
    (pss_one (ps_if (pt_cmpR op_notN (pv 4) pe_non (nomark _)) (pss_one (ps_expr (pe_meth (pv 0) RF.cl ML GL hr bL .nil pass0 (pa_cons (pv 4) pa_nil)))) pss_nil)))))), ?_⟩
  obtain ⟨v, b, s, x⟩ := e
  cases es
  obtain ⟨es1, et1, D1, D2, T1, T2⟩ := r.tab.ex
  obtain ⟨v2, at1, tv⟩ := T2 b s.2 he.st.2
  have z0 := fun s2 x2 => r.mac.tu b s.2 s2 x2 he.st.2
  obtain ⟨q1, e1, hq1⟩ := he.at_
  have e1 : v = .ref q1 := e1
  subst e1
  refine ⟨_, rfl, _, rfl, R.a, R.C, R.dx, _, .ref R.dt, rfl, r.ins, RF.cl, RF.tu, rfl, R.dt, et1, kT b s.2, rfl, D2, he.nk, he.deep, _, rfl, ?_⟩
  rw [at1]
  refine iteF ⟨_, rfl, R.a, R.C, R.dx, _, .ref R.dt, rfl, r.ins, RF.cl, RF.tu, rfl, _, rfl, R.dt, et1, kT b s.2, _, rfl, D2, he.nk, he.deep, at1, ?_⟩
  refine ⟨_, rfl, rfl, _, rfl, ?_⟩
  cases tn : m.turn b s.2 with
  | none =>
    rw [tn] at tv
    have tv : v2 = .non := tv
    subst tv
    exact iteT (q t H r (Nat.le_refl _) id)
  | some y =>
    obtain ⟨s2, x2⟩ := y
    rw [tn] at tv
    obtain ⟨p, e2, hp⟩ := tv
    subst e2
    refine iteF ⟨_, rfl, p, _, rfl, hp, rfl, _, _, rfl, _, _, rfl, rfl, ?_⟩
    obtain ⟨z1, z2, z3⟩ := z0 s2 x2 tn
    refine ⟨_, rfl, R.a, R.dx, _, rfl, r.ins, rfl, _, rfl, q1, _, 0, .str (wayS b), rfl, rfl, hq1, rfl, aO, _, _, rfl, rfl, hO b, _, rfl, ?_⟩
    refine ⟨H0, R, m, t, !b, s2, rfl, rfl, r, few, z1, z2, fun t2 H2 r2 le2 ls2 => ?_⟩
    refine ⟨_, rfl, rfl, _, rfl, ?_⟩
    cases x2 with
    | none => exact iteF (q t2 H2 r2 le2 fun z => by rw [ls2]; exact z)
    | some l =>
      obtain ⟨_, u1, u2⟩ := z3 l rfl
      obtain ⟨_, _, u3⟩ := r2.mac.tu b s.2 s2 (some l) he.st.2 tn
      obtain ⟨_, u4, u5⟩ := u3 l rfl
      have nn : (!decide (optV (some l) = V.non)) = true := by
        show (!decide (l.1 = V.non)) = true
        rw [decide_eq_false u4.nn]
        rfl
      rw [nn]
      refine iteT ⟨_, rfl, R.a, R.dx, _, rfl, r2.ins, rfl, _, rfl, ?_⟩
      exact ⟨H0, R, m, t2, l, rfl, rfl, r2, Nat.le_trans le2 few, u4, u5, fun t3 H3 r3 le3 _ ne3 => q t3 H3 r3 (Nat.le_trans le3 le2) fun _ => ne3⟩
/-- _look_at -/
def spLook (K : PySem.W.Frag) (w : World) (C : Addr) : Sp := fun vs H Q _ => ∃ H0 R m t e, vs = [.ref R.a, (e : Td).1] ∧ R.C = C ∧ RS K w H0 R m t H ∧ pot m t ≤ 5000 ∧ TdOk K H m e ∧ ∀ t' H', RS K w H0 R m t' H' → pot m t' ≤ pot m t → (t.ls ≠ [] → t'.ls ≠ []) → Q .non H'
abbrev nLK : List Str := ["self", "key"]
theorem scLK : FnScope nLK ["self", "key"] (defScope (cReach 3)) := ⟨rfl, rfl, rfl, by decide +kernel, rfl, by decide +kernel, by decide +kernel⟩
theorem ok_look (F : FnM K "_look_at" "Reach._look_at" (cReach 3) f fd) (TX : Txt mg) (RF : ReF K C) (MK : Meth K C "_look_at_step" fK) (FK : FnM K "_look_at_step" "Reach._look_at_step" (cReach 4) fK fdK) (GK : FnOk P w K mg base CX0 2 fK fdK ["self", "key"] (spLookS K w C))
    (MT : Meth K C "_look_at_turn" fT) (FT : FnM K "_look_at_turn" "Reach._look_at_turn" (cReach 5) fT fdT) (GT : FnOk P w K mg base CX0 2 fT fdT ["self", "key"] (spLookT K w C)) : FnOk P w K mg base CX0 3 f fd ["self", "key"] (spLook K w C) := by
  refine F.ok scLK (fun vs H Q E h => by obtain ⟨H0, R, m, t, s, rfl, _⟩ := h; rfl) (fun cdv A outer s0 H vs Q E hr h => ?_)
  obtain ⟨H0, R, m, t, e, rfl, rfl, r, few, he, q⟩ := h
  have nd := scLK.nd
  have hu := hr.units
  suffices z : ∃ t, PSs (cxOf CX0 P w K mg base nLK "Reach._look_at" (defScope (cReach 3)) f cdv A outer s0 H E).nox (defBody (cReach 3)) t ∧ t { nx := fun _ H' => Q .non H', rt := Q } (start nLK [.ref R.a, e.1]) H by
    obtain ⟨t, h1, h2⟩ := z
    exact ⟨t, h1.nox, h2⟩
  have bK : L2.Binds K fdK ["self", "key"] [] := FunD.bindsN FK fun _ _ _ _ _ _ us hl => match us, hl with | [_, _], _ => rfl
  have bT : L2.Binds K fdT ["self", "key"] [] := FunD.bindsN FT fun _ _ _ _ _ _ us hl => match us, hl with | [_, _], _ => rfl
  refine ⟨_, pss_one (ps_if (pt_cmpR op_eq (pe_callB call_len_seq (by rfl) TX.len PySem.boot_len (pa_cons (pv 1) pa_nil)) pe_int (nomark _)) (pss_one (ps_expr (pe_meth (pv 0) RF.cl MK GK hr bK .nil pass0 (pa_cons (pv 1) pa_nil)))) (pss_one (ps_expr (pe_meth (pv 0) RF.cl MT GT hr bT .nil pass0 (pa_cons (pv 1) pa_nil))))), ?_⟩
  obtain ⟨v, b, s, x⟩ := e
  have he0 := he
  obtain ⟨q1, e1, hq1⟩ := he.at_
  have e1 : v = .ref q1 := e1
  subst e1
  cases x with
  | none =>
    refine ⟨_, rfl, q1, _, rfl, .inr hq1, rfl, false, (show V.bl (decide (V.int 2 = V.int 3)) = V.bl false by decide), iteF ?_⟩
    exact ⟨_, rfl, R.a, R.dx, _, rfl, r.ins, rfl, _, rfl, H0, R, m, t, _, rfl, rfl, r, few, he, rfl, q⟩
  | some l =>
    refine ⟨_, rfl, q1, _, rfl, .inr hq1, rfl, true, (show V.bl (decide (V.int 3 = V.int 3)) = V.bl true by decide), iteT ?_⟩
    exact ⟨_, rfl, R.a, R.dx, _, rfl, r.ins, rfl, _, rfl, H0, R, m, t, _, rfl, rfl, r, few, he, rfl, q⟩
end
end K38

set_option Elab.async false
set_option linter.all false
set_option maxRecDepth 100000
set_option maxHeartbeats 4000000
namespace K38
open PySem PySem.Spec PyProof.Rows L2 Pen Tr AK LamX
theorem But.none {a p : Addr} {H H' : Hp} {o : HO} (b : But a H H') (ha : H' a = some o) (n : H' p = none) : H p = none ∧ p ≠ a := by
  have ne : p ≠ a := Ne.symm (ne_of_none ha n)
  cases e : H p with
  | none => exact ⟨rfl, ne⟩
  | some u =>
    rw [b _ _ e ne] at n
    cases n
theorem But.tups {a C dx : Addr} {fs : List (Str × V)} {H H' : Hp} (x : But a H H') (ha : H a = some (.ins C dx fs)) : Tups H H' := fun c xs r => by
  have n : c ≠ a := by
    rintro rfl
    rcases r with r | ⟨u, r⟩ <;> rw [ha] at r <;> cases r
  rcases r with r | ⟨o, r⟩
  · exact .inl (x _ _ r n)
  · exact .inr ⟨o, x _ _ r n⟩
theorem But.rdk {a C dx : Addr} {fs : List (Str × V)} {w : World} {H H' : Hp} {b : Addr} {es : List Eh} (x : But a H H') (ha : H a = some (.ins C dx fs)) (h : Rd H b (DkO w b es)) : Rd H' b (DkO w b es) := by
  have n : b ≠ a := rd_ne h ha (fun _ _ z => nomatch z) (fun _ _ z => nomatch z)
  rcases h with h | ⟨o, h⟩
  · exact .inl (x _ _ h n)
  · exact .inr ⟨o, x _ _ h n⟩
def mkB : List Addr → List Eh
  | [] => []
  | [x] => [(.text "l", .str "l", .ref x)]
  | x :: y :: _ => [(.text "l", .str "l", .ref x), (.text "r", .str "r", .ref y)]
section
variable {P : Program} {w : World} {K : PySem.W.Frag} {mg : Str → Option PySem.Value} {base : Heap} {f C aD aO fS fL fK fT : Addr} {fd fdS fdL fdK fdT : FuncData} {H0 H : Hp} {R : RA} {m : Mac} {t : St}
theorem mkB_da {d : Addr} {ds : List Addr} (h : Rd H d (DkO w d (mkB ds))) : DA K w H d (mkB ds) := by
  refine ⟨h, fun x hx => ?_, ?_⟩
  · match ds, hx with
    | [_], hx =>
      obtain rfl := List.mem_singleton.mp hx
      exact ⟨nk_text, Nat.zero_le _⟩
    | _ :: _ :: _, hx =>
      simp only [mkB, List.mem_cons, List.not_mem_nil, or_false] at hx
      rcases hx with rfl | rfl <;> exact ⟨nk_text, Nat.zero_le _⟩
  · match ds with
    | [] => exact List.nodup_nil
    | [_] => exact List.nodup_cons.mpr ⟨List.not_mem_nil, List.nodup_nil⟩
    | _ :: _ :: _ => exact (show ([NestedKey.text "l", NestedKey.text "r"] : List NestedKey).Nodup by decide)
def spRe (K : PySem.W.Frag) (w : World) (C : Addr) : Sp := fun vs H Q _ => ∃ a dx fi ds dt m be, ∃ first : List Sy, vs = [.ref a, .ref fi, (be : Sy).1, .ref ds, .ref dt] ∧ H a = some (.ins C dx []) ∧ SqT K H fi (first.map (·.1)) ∧ (∀ s ∈ first, SyOk K H s ∧ s.2 ∈ (m : Mac).ld) ∧ first.length ≤ 20000 ∧
  (SyOk K H be ∧ be.2 ∈ m.sd false) ∧ MacOk K H m ∧ TabM K w H ds dt m ∧ ds ≠ dt ∧ ∀ R t H', R.a = a → R.C = C → RS K w H R m t H' → (first ≠ [] → t.ls ≠ []) → Q .non H'
abbrev nRe : List Str := ["self", "first", "begin", "steps", "turns", "letter", "direction"]
theorem scRe : FnScope nRe ["self", "first", "begin", "steps", "turns"] (defScope (cReach 0)) := ⟨rfl, rfl, rfl, by decide +kernel, rfl, by decide +kernel, by decide +kernel⟩
theorem ok_reach (F : FnM K "__init__" "Reach.__init__" (cReach 0) f fd) (RF : ReF K C) (MS : Meth K C "_add_state" fS) (FS : FnM K "_add_state" "Reach._add_state" (cReach 2) fS fdS) (ML : Meth K C "_add_letter" fL) (FL : FnM K "_add_letter" "Reach._add_letter" (cReach 1) fL fdL)
    (gD : mg "DIRECTIONS" = some (.ref aD)) (hD : ∀ H, SqT K H aD [.str "l", .str "r"]) (MK : Meth K C "_look_at" fK) (FK : FnM K "_look_at" "Reach._look_at" (cReach 3) fK fdK) (GK : FnOk P w K mg base CX0 3 fK fdK ["self", "key"] (spLook K w C)) :
    FnOk P w K mg base CX0 4 f fd ["self", "first", "begin", "steps", "turns"] (spRe K w C) := by
  refine F.ok scRe (fun vs H Q E h => by obtain ⟨a, dx, fi, ds, dt, m, be, first, rfl, _⟩ := h; rfl) (fun cdv A outer s0 H vs Q E hr h => ?_)
  obtain ⟨a, dx, fi, ds, dt, m, be, first, rfl, ha, hfi, hfs, few, hbe, mac, tab, nst, q⟩ := h
  have nd := scRe.nd
  have hu := hr.units
  suffices z : ∃ t, PSs (cxOf CX0 P w K mg base nRe "Reach.__init__" (defScope (cReach 0)) f cdv A outer s0 H E).nox (defBody (cReach 0)) t ∧ t { nx := fun _ H' => Q .non H', rt := Q } (start nRe [.ref a, .ref fi, be.1, .ref ds, .ref dt]) H by
    obtain ⟨t, h1, h2⟩ := z
    exact ⟨t, h1.nox, h2⟩
  have GS := ok_addS (P := P) (w := w) (mg := mg) (base := base) FS RF
  have GL := ok_addL (P := P) (w := w) (mg := mg) (base := base) FL RF gD hD
  have bS : L2.Binds K fdS ["self", "direction", "state"] [] := FunD.bindsN FS fun _ _ _ _ _ _ us hl => match us, hl with | [_, _, _], _ => rfl
  have bL : L2.Binds K fdL ["self", "letter"] [] := FunD.bindsN FL fun _ _ _ _ _ _ us hl => match us, hl with | [_, _], _ => rfl
  have bK : L2.Binds K fdK ["self", "key"] [] := FunD.bindsN FK fun _ _ _ _ _ _ us hl => match us, hl with | [_, _], _ => rfl
  refine ⟨_, pss_cons (ps_fld (pv 0) (pv 3) rfl) (pss_cons (ps_fld (pv 0) (pv 4) rfl) (pss_cons (ps_fld (pv 0) (pe_lst pa_nil) rfl) (pss_cons (ps_fld (pv 0) pe_dnewA rfl)
    (pss_cons (ps_fld (pv 0) (pe_dcA (own := [("direction", 6)]) (g := gName 6) (tk := tVar 6) (tv := tDNewA w) hu (by rfl) nd (pi_tup (pe_glob (by rfl) gD (v := .ref aD) rfl)) (blkOk_by (own := [("direction", 6)]) (N := nRe) (sc := defScope (cReach 0)) (by decide +kernel)) (fun _ _ _ _ _ => pg_name (i := 6) nd rfl (.inl rfl)) (fun _ _ _ _ _ => pv 6) (fun _ _ _ _ _ => pe_dnewA)) rfl)
    (pss_cons (ps_fld (pv 0) (pe_lst pa_nil) rfl)
    (pss_cons (ps_for PassesOwn.never rfl (pi_tup (pv 1)) (pg_name (i := 5) nd rfl (.inl rfl)) (pss_one (ps_expr (pe_meth (pv 0) RF.cl ML GL (hr.mono (by decide)) bL .nil pass0 (pa_cons (pv 5) pa_nil)))))
    (pss_cons (ps_expr (pe_meth (pv 0) RF.cl MS GS (hr.mono (by decide)) bS .nil pass0 (pa_cons pe_str (pa_cons (pv 2) pa_nil))))
    (pss_one (ps_while PassesOwn.never (pt_truth (pe_fld (pv 0) rfl) (by intro _; rfl)) (pss_one (ps_expr (pe_meth (pv 0) RF.cl MK GK hr bK .nil pass0 (pa_cons (pe_bm0 PySem.F.plainAttrs_list PySem.F.slot_list_pop PySem.F.type_list_pop mt_pop (pe_fld (pv 0) rfl)) pa_nil))))))))))))), ?_⟩
  refine ⟨_, rfl, _, rfl, a, C, dx, [], rfl, ha, RF.cl, RF.st, (by show 0 < 1000; decide), ?_⟩
  refine at_new fun H1 e1 => ?_
  have a1 : H1 a = some (.ins C dx [("_steps", .ref ds)]) := by
    rw [e1]
    exact upd_same
  have b1 : But a H H1 := by
    rw [e1]
    exact But.upd But.refl
  clear e1
  refine ⟨_, rfl, _, rfl, a, C, dx, _, rfl, a1, RF.cl, RF.tu, (by show 1 < 1000; decide), ?_⟩
  refine at_new fun H2 e2 => ?_
  have a2 : H2 a = some (.ins C dx [("_steps", .ref ds), ("_turns", .ref dt)]) := by
    rw [e2]
    exact upd_same
  have b2 : But a H H2 := by
    rw [e2]
    exact But.upd b1
  clear e2
  -- the empty list of what is to be done
  refine ⟨by show 0 ≤ sizeLine; exact Nat.zero_le _, fun td ntd => ?_⟩
  obtain ⟨f1, g1⟩ := But.none b2 a2 ntd
  have s3 := same_upd (o := .lst []) ntd
  refine ⟨_, rfl, a, C, dx, _, rfl, s3 _ _ a2, RF.cl, RF.td, (by show 2 < 1000; decide), ?_⟩
  refine at_new fun H3 e3 => ?_
  have a3 : H3 a = some (.ins C dx [("_steps", .ref ds), ("_turns", .ref dt), ("_todo", .ref td)]) := by
    rw [e3]
    exact upd_same
  have b23 : But a (upd H2 td (.lst [])) H3 := by
    rw [e3]
    exact But.upd But.refl
  have b3 : But a H H3 := But.trans (But.trans b2 (But.same s3)) b23
  have td3 : H3 td = some (.lst []) := b23 _ _ upd_same g1
  clear e3 b23 s3
  -- the letters
  intro dl ndl
  obtain ⟨f2, g2⟩ := But.none b3 a3 ndl
  have s4 := same_upd (o := DkO w dl []) ndl
  refine ⟨_, rfl, a, C, dx, _, rfl, s4 _ _ a3, RF.cl, RF.le, (by show 3 < 1000; decide), ?_⟩
  refine at_new fun H4 e4 => ?_
  have a4 : H4 a = some (.ins C dx [("_steps", .ref ds), ("_turns", .ref dt), ("_todo", .ref td), ("letters", .ref dl)]) := by
    rw [e4]
    exact upd_same
  have b34 : But a (upd H3 dl (DkO w dl [])) H4 := by
    rw [e4]
    exact But.upd But.refl
  have b34' : But a H3 H4 := But.trans (But.same s4) b34
  have b4 : But a H H4 := But.trans b3 b34'
  have td4 : H4 td = some (.lst []) := b34' _ _ td3 g1
  have dl4 : H4 dl = some (DkO w dl []) := b34 _ _ upd_same g2
  clear e4 b34 s4
  -- the states
  refine ⟨aD, rfl, ⟨_, hD _⟩, fun dS ndS => ?_⟩
  obtain ⟨f3, g3⟩ := But.none b4 a4 ndS
  refine dcA_it (walk_tup (K := K) (a := aD) (xs := [.str "l", .str "r"])) (fun i H' => Same H4 H' ∧ ∃ l : List Addr, l.length = i ∧ H' dS = some (DkO w dS (mkB l)) ∧ (∀ x ∈ l, H' x = some (DkO w x []) ∧ H4 x = none ∧ x ≠ dS) ∧ l.Nodup) ?_ ?_ ?_ ?_
  · exact ⟨same_upd ndS, [], rfl, upd_same, (fun _ h => nomatch h), List.nodup_nil⟩
  · rintro i H' hi _
    exact hD _
  · rintro i x H5 H6 hi ⟨s5, l, len, at5, all5, nd5⟩ ⟨rfl, hx⟩
    have hi : i < 2 := hi
    refine ⟨rfl, _, rfl, fun p np => ?_⟩
    have pS : p ≠ dS := Ne.symm (ne_of_none at5 np)
    have pl : p ∉ l := fun h => absurd rfl (ne_of_none (all5 p h).1 np)
    have p4 : H4 p = none := by
      cases e : H4 p with
      | none => rfl
      | some o =>
        rw [s5 _ _ e] at np
        cases np
    have at6 : upd H6 p (DkO w p []) dS = some (DkO w dS (mkB l)) := by
      rw [upd_ne (Ne.symm pS)]
      exact at5
    obtain ⟨b, rfl, pe⟩ : ∃ b, x = .str (wayS b) ∧ putE (mkB l) (.text (wayS b)) (.str (wayS b)) (.ref p) = mkB (l ++ [p]) := by
      match i, hi, l, len with
      | 0, _, [], _ => exact ⟨false, (Option.some.inj hx).symm, putE_new rfl⟩
      | 1, _, [y], _ => exact ⟨true, (Option.some.inj hx).symm, putE_new ((atK_neg (show ¬ (NestedKey.text "l" : NestedKey) = NestedKey.text "r" by decide)).trans atK_nil)⟩
    refine ⟨mkB l, .text (wayS b), at6, mkB_da (.inl at6), nk_text, Nat.zero_le _, ?_, ?_, l ++ [p], ?_, ?_, ?_, ?_⟩
    · have small : (mkB l).length ≤ 2 := by
        match l with
        | [] => exact Nat.zero_le _
        | [_] => exact (by decide : 1 ≤ 2)
        | _ :: _ :: _ => exact Nat.le_refl _
      rw [sizeLine_eq]
      omega
    · intro c o ec
      have n1 : c ≠ dS := ne_of_none ec ndS
      rw [upd_ne n1, upd_ne (ne_of_none ec p4)]
      exact s5 _ _ ec
    · rw [List.length_append, len]
      rfl
    · rw [pe]
      exact upd_same
    · intro y hy
      rcases List.mem_append.mp hy with hy | hy
      · obtain ⟨y1, y2, y3⟩ := all5 y hy
        refine ⟨?_, y2, y3⟩
        rw [upd_ne y3, upd_ne (fun z : y = p => pl (z ▸ hy))]
        exact y1
      · obtain rfl := List.mem_singleton.mp hy
        refine ⟨?_, p4, pS⟩
        rw [upd_ne pS]
        exact upd_same
    · exact List.nodup_append.mpr ⟨nd5, List.nodup_cons.mpr ⟨List.not_mem_nil, List.nodup_nil⟩, fun y hy z hz e => by
        obtain rfl := List.mem_singleton.mp hz
        exact pl (e ▸ hy)⟩
  rintro H5 ⟨s5, l, len, at5, all5, nd5⟩
  obtain ⟨d0, d1, rfl⟩ : ∃ d0 d1, l = [d0, d1] := by
    match l, len with
    | [x, y], _ => exact ⟨x, y, rfl⟩
  obtain ⟨x1, x2, x3⟩ := all5 d0 (List.mem_cons_self ..)
  obtain ⟨y1, y2, y3⟩ := all5 d1 (List.mem_cons_of_mem _ (List.mem_cons_self ..))
  have n01 : d0 ≠ d1 := fun z => (List.nodup_cons.mp nd5).1 (z ▸ List.mem_cons_self ..)
  clear all5 nd5 len
  have td5 := s5 _ _ td4
  have dl5 := s5 _ _ dl4
  have nd5 : dl ≠ d0 ∧ dl ≠ d1 ∧ dl ≠ dS := ⟨ne_of_none dl4 x2, ne_of_none dl4 y2, ne_of_none dl4 ndS⟩
  have nd6 : td ≠ d0 ∧ td ≠ d1 ∧ td ≠ dS := ⟨ne_of_none td4 x2, ne_of_none td4 y2, ne_of_none td4 ndS⟩
  obtain ⟨f4, g4⟩ := But.none b4 a4 x2
  obtain ⟨f5, g5⟩ := But.none b4 a4 y2
  refine ⟨_, rfl, a, C, dx, _, rfl, s5 _ _ a4, RF.cl, RF.ss, (by show 4 < 1000; decide), ?_⟩
  refine at_new fun H6 e6 => ?_
  have a6 : H6 a = some (.ins C dx [("_steps", .ref ds), ("_turns", .ref dt), ("_todo", .ref td), ("letters", .ref dl), ("states", .ref dS)]) := by
    rw [e6]
    exact upd_same
  have b56 : But a H5 H6 := by
    rw [e6]
    exact But.upd But.refl
  have b6 : But a H H6 := But.trans (But.trans b4 (But.same s5)) b56
  have td6 := b56 _ _ td5 g1
  have dl6 := b56 _ _ dl5 g2
  have dS6 := b56 _ _ at5 g3
  have d06 := b56 _ _ x1 g4
  have d16 := b56 _ _ y1 g5
  clear e6 b56 s5
  refine ⟨by show 0 ≤ sizeLine; exact Nat.zero_le _, fun pm npm => ?_⟩
  obtain ⟨f6, g6⟩ := But.none b6 a6 npm
  have s7 := same_upd (o := .lst []) npm
  refine ⟨_, rfl, a, C, dx, _, rfl, s7 _ _ a6, RF.cl, RF.mi, (by show 5 < 1000; decide), ?_⟩
  refine at_new fun H7 e7 => ?_
  have a7 : H7 a = some (.ins C dx [("_steps", .ref ds), ("_turns", .ref dt), ("_todo", .ref td), ("letters", .ref dl), ("states", .ref dS), ("missing", .ref pm)]) := by
    rw [e7]
    exact upd_same
  have b67 : But a (upd H6 pm (.lst [])) H7 := by
    rw [e7]
    exact But.upd But.refl
  have b67' : But a H6 H7 := But.trans (But.same s7) b67
  have b7 : But a H H7 := But.trans b6 b67'
  have pm7 := b67 _ _ upd_same g6
  have tu7 : Tups H H7 := But.tups b7 ha
  have ne : ∀ {b x : Addr} {es : List Eh}, Rd H b (DkO w b es) → H x = none → b ≠ x := fun {b x es} h n z => by
    rcases h with h | ⟨o, h⟩ <;> rw [z, n] at h <;> cases h
  obtain ⟨es1, et1, D1, D2, T1, T2⟩ := id tab.ex
  have r7 : RS K w H ⟨a, C, dx, ds, dt, td, dl, dS, d0, d1, pm⟩ m ⟨[], [], fun _ => []⟩ H7 :=
    { ins := a7, td := b67' _ _ td6 g1, pm := pm7, dl := b67' _ _ dl6 g2, dS := b67' _ _ dS6 g3, db := (fun b => by cases b; exact b67' _ _ d06 g4; exact b67' _ _ d16 g5), lnd := List.nodup_nil, snd := (fun _ => List.nodup_nil),
      tds := (fun _ h => nomatch h), lsO := (fun _ h => nomatch h), ssO := (fun _ _ h => nomatch h), mac := mac.tups tu7, tab := (tab.keep tu7 fun b es _ h => But.rdk b7 ha h), out := (fun b o e n => b7 b o e n), tdN := f1, dlN := f2, dbN := (fun b => by cases b; exact f4; exact f5),
      nd := by
        refine List.nodup_cons.mpr ⟨?_, List.nodup_cons.mpr ⟨?_, List.nodup_cons.mpr ⟨?_, List.nodup_cons.mpr ⟨?_, List.nodup_cons.mpr ⟨?_, List.nodup_cons.mpr ⟨List.not_mem_nil, List.nodup_nil⟩⟩⟩⟩⟩⟩
        all_goals simp only [List.mem_cons, List.not_mem_nil, or_false, not_or]
        · exact ⟨nst, ne D1.at_ f2, ne D1.at_ f3, ne D1.at_ f4, ne D1.at_ f5⟩
        · exact ⟨ne D2.at_ f2, ne D2.at_ f3, ne D2.at_ f4, ne D2.at_ f5⟩
        · exact ⟨nd5.2.2, nd5.1, nd5.2.1⟩
        · exact ⟨Ne.symm x3, Ne.symm y3⟩
        · exact n01,
      ptn := Ne.symm (ne_of_none td6 npm) }
  have few7 : pot m ⟨[], [], fun _ => []⟩ ≤ 4000 := by
    have h1 := mac.lf
    have h2 := mac.sf false
    have h3 := mac.sf true
    simp only [pot, List.length_nil]
    omega
  clear e7 s7 b67 b67' pm7 td6 dl6 dS6 d06 d16 td5 dl5 at5 x1 y1 td4 dl4 b34' td3
  obtain ⟨R, hRa, hRC, hRx, rs⟩ : ∃ R : RA, R.a = a ∧ R.C = C ∧ R.dx = dx ∧ RS K w H R m ⟨[], [], fun _ => []⟩ H7 := ⟨_, rfl, rfl, rfl, r7⟩
  subst hRa hRC
  have seen : ∀ {t : St} {H' : Hp}, RS K w H R m t H' → Tups H H' := fun r => But.tups (a := R.a) (fun b o e n => r.out b o e n) ha
  refine ⟨_, rfl, fi, rfl, ⟨_, SqT.tups tu7 hfi⟩, ?_⟩
  refine for_it (walk_tup (K := K) (a := fi) (xs := first.map (·.1))) (fun j σ H' => (∃ o, σ = [some (.ref R.a), some (.ref fi), some be.1, some (.ref ds), some (.ref dt), o, none]) ∧ ∃ t, RS K w H R m t H' ∧ pot m t ≤ 4000 ∧ (0 < j → t.ls ≠ [])) ?_ ?_ ?_ ?_
  · exact ⟨⟨none, rfl⟩, _, rs, few7, fun z => absurd z (Nat.lt_irrefl _)⟩
  · rintro j σ H' hj ⟨_, t, r, _⟩
    exact SqT.tups (seen r) hfi
  · rintro j y σ H9 H8 hj ⟨⟨o, rfl⟩, t, r, ft, _⟩ ⟨rfl, hx⟩
    obtain ⟨s, hs, rfl⟩ : ∃ s, first[j]? = some s ∧ s.1 = y := by
      rw [List.getElem?_map] at hx
      exact Option.map_eq_some_iff.mp hx
    have ms := hfs s (List.mem_of_getElem? hs)
    refine ⟨_, rfl, R.a, R.dx, _, rfl, r.ins, rfl, _, rfl, ?_⟩
    exact ⟨H, R, m, t, s, rfl, rfl, r, by omega, ms.1.tups (seen r), ms.2, fun t2 H2 r2 le2 _ ne2 => ⟨⟨_, rfl⟩, t2, r2, by omega, fun _ => ne2⟩⟩
  rintro σ H8 ⟨⟨o, rfl⟩, t8, r8, f8, ne8⟩
  have ne8 : first ≠ [] → t8.ls ≠ [] := fun z => ne8 (by rw [List.length_map]; exact List.length_pos_iff.mpr z)
  refine ⟨_, rfl, R.a, R.dx, _, rfl, r8.ins, rfl, _, rfl, ?_⟩
  refine ⟨H, R, m, t8, false, be, rfl, rfl, r8, by omega, hbe.1.tups (seen r8), hbe.2, fun t9 H9 r9 le9 ls9 => ?_⟩
  refine ⟨fun n σ H' => σ = [some (.ref R.a), some (.ref fi), some be.1, some (.ref ds), some (.ref dt), o, none] ∧ ∃ t, RS K w H R m t H' ∧ pot m t = n ∧ n ≤ 4000 ∧ (first ≠ [] → t.ls ≠ []), ⟨_, rfl, t9, r9, rfl, by omega, fun z => by rw [ls9]; exact ne8 z⟩, ?_⟩
  rintro n σ H' ⟨rfl, t, r, rfl, ft, nt⟩
  refine ⟨_, rfl, R.a, R.C, R.dx, _, .ref R.td, rfl, r.ins, RF.cl, RF.td, rfl, !(t.todo.map (·.1)).isEmpty, .inl ⟨_, SqL.of r.td, rfl⟩, ?_⟩
  rcases List.eq_nil_or_concat t.todo with e | ⟨td0, e, ex⟩
  · rw [e]
    exact iteF (q R t H' rfl rfl r nt)
  · rw [List.concat_eq_append] at ex
    have ne : (!(t.todo.map (·.1)).isEmpty) = true := by
      rw [ex]
      simp
    rw [ne]
    have he := r.tds e (by rw [ex]; exact List.mem_append_right _ (List.mem_singleton.mpr rfl))
    have rt := r.td
    rw [ex, List.map_append] at rt
    refine iteT ⟨fun σ' H' => ∃ m', m' < pot m t ∧ σ' = [some (.ref R.a), some (.ref fi), some be.1, some (.ref ds), some (.ref dt), o, none] ∧ ∃ t, RS K w H R m t H' ∧ pot m t = m' ∧ m' ≤ 4000 ∧ (first ≠ [] → t.ls ≠ []), fun σ' H' h => h, ?_⟩
    refine ⟨_, rfl, R.a, R.dx, _, rfl, r.ins, rfl, _, rfl, R.a, R.C, R.dx, _, .ref R.td, rfl, r.ins, RF.cl, RF.td, rfl, .inl ⟨rfl, _, SqL.of r.td⟩, R.td, _, e.1, rfl, rfl, rt, (by simp), ?_⟩
    have dl : (td0.map (·.1) ++ [e].map (fun x : Td => x.1)).dropLast = td0.map (·.1) := by simp
    rw [dl]
    have r2 := r.setTd (l := td0) fun x hx => .inl (by rw [ex]; exact List.mem_append_left _ hx)
    have lt : pot m { t with todo := td0 } < pot m t := by
      simp only [pot, ex, List.length_append, List.length_singleton]
      omega
    refine ⟨H, R, m, _, e, rfl, rfl, r2, by omega, he.tups (Tups.upd (lst_ntup r.td)), fun t3 H3 r3 le3 ne3 => ⟨_, ?_, rfl, t3, r3, rfl, ?_, fun z => ne3 (nt z)⟩⟩ <;> omega
end
end K38

set_option Elab.async false
set_option linter.all false
set_option maxRecDepth 100000
set_option maxHeartbeats 4000000
namespace K38
open PySem PySem.Spec PyProof.Rows L2 Pen Tr AK LamX
section
variable {P : Program} {w : World} {K : PySem.W.Frag} {mg : Str → Option PySem.Value} {base : Heap} {f C aD fS fT fD fE : Addr} {fd fdS fdT fdD fdE : FuncData} {H H' : Hp} {m : Mac}
theorem SyOk.symb {s : Sy} {Q : VK} {E : XK} (o : SyOk K H s) (q : ∀ H', Same H H' → Q (.bl true) H') : spSymb K [s.1] H Q E :=
  ⟨s.1, s.2, rfl, o.dp, (menu_sym _ o.mem).1, o.nn, Nat.le_trans (menu_sym _ o.mem).2 (by decide), q⟩
theorem SyOk.sy {s : Sy} (o : SyOk K H s) : symD s.2 = true := (menu_sym _ o.mem).1
theorem SyOk.wt {s : Sy} (o : SyOk K H s) : wtD s.2 ≤ 100000 := Nat.le_trans (menu_sym _ o.mem).2 (by decide)
theorem same_tups (s : Same H H') : Tups H H' := fun b xs h => same_rd s h
/-- an entry of the steps -/
def StepE (K : PySem.W.Frag) (H : Hp) (x : Eh) : Prop := ∃ q p b s l s2 l2, x = (kS b (s : Sy).2 (l : Sy).2, .ref q, .ref p) ∧ SqT K H q [.str (wayS b), s.1, l.1] ∧ SqT K H p [(s2 : Sy).1, (l2 : Sy).1] ∧ SyOk K H s ∧ SyOk K H l ∧ SyOk K H s2 ∧ SyOk K H l2
/-- an entry of the turns -/
def TurnE (K : PySem.W.Frag) (H : Hp) (x : Eh) : Prop := ∃ q b s v t, x = (kT b (s : Sy).2, .ref q, v) ∧ SqT K H q [.str (wayS b), s.1] ∧ SyOk K H s ∧ TurnAt K H v t ∧ ∀ s2 y, t = some (s2, y) → SyOk K H s2 ∧ ∀ l, y = some l → b = true ∧ SyOk K H l
theorem StepE.tups {x : Eh} (h : StepE K H x) (t : Tups H H') : StepE K H' x := by
  obtain ⟨q, p, b, s, l, s2, l2, e, h1, h2, h3, h4, h5, h6⟩ := h
  exact ⟨q, p, b, s, l, s2, l2, e, SqT.tups t h1, SqT.tups t h2, h3.tups t, h4.tups t, h5.tups t, h6.tups t⟩
theorem TurnE.tups {x : Eh} (h : TurnE K H x) (t : Tups H H') : TurnE K H' x := by
  obtain ⟨q, b, s, v, y, e, h1, h2, h3, h4⟩ := h
  exact ⟨q, b, s, v, y, e, SqT.tups t h1, h2.tups t, h3.tups t, fun s2 y2 e2 => ⟨(h4 s2 y2 e2).1.tups t, fun l hl => ⟨((h4 s2 y2 e2).2 l hl).1, ((h4 s2 y2 e2).2 l hl).2.tups t⟩⟩⟩
def spStep (K : PySem.W.Frag) : Sp := fun vs H Q _ => ∃ x, vs = [(x : Eh).2.1, x.2.2] ∧ StepE K H x ∧ ∀ H', Same H H' → Q (.bl true) H'
def spTurn (K : PySem.W.Frag) : Sp := fun vs H Q _ => ∃ x, vs = [(x : Eh).2.1, x.2.2] ∧ TurnE K H x ∧ ∀ H', Same H H' → Q (.bl true) H'
abbrev nIs : List Str := ["key", "told"]
theorem scIsS : FnScope nIs ["key", "told"] (defScope (top 23)) := ⟨rfl, rfl, rfl, by decide +kernel, rfl, by decide +kernel, by decide +kernel⟩
theorem ok_isStep (F : FnT K "is_step" 23 f fd) (FT : FnT K "is_tuple_of" 15 fT fdT) (gT : mg "is_tuple_of" = some (.ref fT)) (GT : FnOk P w K mg base CX0 1 fT fdT ["many", "value"] (spTup K)) (FD : FnT K "is_direction" 3 fD fdD) (gF : mg "is_direction" = some (.ref fD)) (GD : FnOk P w K mg base CX0 1 fD fdD ["value"] (spDir K))
    (FS : FnT K "is_symbol" 14 fS fdS) (gS : mg "is_symbol" = some (.ref fS)) (GS : FnOk P w K mg base CX0 3 fS fdS ["value"] (spSymb K)) : FnOk P w K mg base CX0 4 f fd ["key", "told"] (spStep K) := by
  refine F.ok scIsS (fun vs H Q E h => by obtain ⟨x, rfl, _⟩ := h; rfl) (fun cdv A outer s0 H vs Q E hr h => ?_)
  obtain ⟨x, rfl, hx, q⟩ := h
  suffices z : ∃ t, PSs (cxOf CX0 P w K mg base nIs "is_step" (defScope (top 23)) f cdv A outer s0 H E).nox (defBody (top 23)) t ∧ t { nx := fun _ H' => Q .non H', rt := Q } (start nIs [x.2.1, x.2.2]) H by
    obtain ⟨t, h1, h2⟩ := z
    exact ⟨t, h1.nox, h2⟩
  have bT : L2.Binds K fdT ["many", "value"] [] := FunD.bindsN FT fun _ _ _ _ _ _ us hl => match us, hl with | [_, _], _ => rfl
  have bD : L2.Binds K fdD ["value"] [] := FunD.bindsN FD fun _ _ _ _ _ _ us hl => match us, hl with | [_], _ => rfl
  have bS : L2.Binds K fdS ["value"] [] := FunD.bindsN FS fun _ _ _ _ _ _ us hl => match us, hl with | [_], _ => rfl
  have h1 := hr.mono (show 1 ≤ 3 by decide)
  refine ⟨_, pss_cons (ps_if (PW.pt (pw_or (pt_not (pt_val (pe_call GT h1 (by rfl) gT FT.kp bT .nil pass0 (pa_cons pe_int (pa_cons (pv 0) pa_nil))))) (pw_or (pt_not (pt_val (pe_call GT h1 (by rfl) gT FT.kp bT .nil pass0 (pa_cons pe_int (pa_cons (pv 1) pa_nil)))))
      (pw_or1 (pt_not (pt_val (pe_call GD h1 (by rfl) gF FD.kp bD .nil pass0 (pa_cons (pe_ix ix_tup (pv 0) pe_int (fun _ _ => rfl)) pa_nil)))))))) Tr.pss_never pss_nil)
    (pss_one (ps_ret (pe_and (pe_call GS hr (by rfl) gS FS.kp bS .nil pass0 (pa_cons (pe_ix ix_tup (pv 0) pe_int (fun _ _ => rfl)) pa_nil)) (pe_and (pe_call GS hr (by rfl) gS FS.kp bS .nil pass0 (pa_cons (pe_ix ix_tup (pv 0) pe_int (fun _ _ => rfl)) pa_nil))
      (pe_and (pe_call GS hr (by rfl) gS FS.kp bS .nil pass0 (pa_cons (pe_ix ix_tup (pv 1) pe_int (fun _ _ => rfl)) pa_nil)) (pe_one (pe_call GS hr (by rfl) gS FS.kp bS .nil pass0 (pa_cons (pe_ix ix_tup (pv 1) pe_int (fun _ _ => rfl)) pa_nil)))))))), ?_⟩
  obtain ⟨p1, p2, b, s, l, s2, l2, rfl, hp1, hp2, o1, o2, o3, o4⟩ := hx
  refine ⟨_, rfl, p1, _, rfl, hp1, true, rfl, ?_⟩
  refine iteF ⟨_, rfl, p2, _, rfl, hp2, true, rfl, ?_⟩
  refine iteF ⟨_, rfl, p1, _, 0, .str (wayS b), rfl, rfl, hp1, rfl, b, rfl, true, rfl, ?_⟩
  refine iteF ?_
  refine ⟨_, rfl, p1, _, 1, s.1, rfl, rfl, hp1, rfl, s.1, s.2, rfl, o1.dp, o1.sy, o1.nn, o1.wt, fun H1 s1 => ⟨true, rfl, ?_⟩⟩
  have o2' := o2.tups (same_tups s1)
  refine iteT ⟨_, rfl, p1, _, 2, l.1, rfl, rfl, SqT.tups (same_tups s1) hp1, rfl, l.1, l.2, rfl, o2'.dp, o2'.sy, o2'.nn, o2'.wt, fun H2 s2' => ⟨true, rfl, ?_⟩⟩
  have s12 := same_trans s1 s2'
  have o3' := o3.tups (same_tups s12)
  refine iteT ⟨_, rfl, p2, _, 0, s2.1, rfl, rfl, SqT.tups (same_tups s12) hp2, rfl, s2.1, s2.2, rfl, o3'.dp, o3'.sy, o3'.nn, o3'.wt, fun H3 s3 => ⟨true, rfl, ?_⟩⟩
  have s13 := same_trans s12 s3
  have o4' := o4.tups (same_tups s13)
  exact iteT ⟨_, rfl, p2, _, 1, l2.1, rfl, rfl, SqT.tups (same_tups s13) hp2, rfl, l2.1, l2.2, rfl, o4'.dp, o4'.sy, o4'.nn, o4'.wt, fun H4 s4 => q H4 (same_trans s13 s4)⟩
theorem scIsT : FnScope nIs ["key", "told"] (defScope (top 25)) := ⟨rfl, rfl, rfl, by decide +kernel, rfl, by decide +kernel, by decide +kernel⟩
theorem ok_isTurn (F : FnT K "is_turn" 25 f fd) (FT : FnT K "is_tuple_of" 15 fT fdT) (gT : mg "is_tuple_of" = some (.ref fT)) (GT : FnOk P w K mg base CX0 1 fT fdT ["many", "value"] (spTup K)) (FD : FnT K "is_direction" 3 fD fdD) (gF : mg "is_direction" = some (.ref fD)) (GD : FnOk P w K mg base CX0 1 fD fdD ["value"] (spDir K))
    (FS : FnT K "is_symbol" 14 fS fdS) (gS : mg "is_symbol" = some (.ref fS)) (GS : FnOk P w K mg base CX0 3 fS fdS ["value"] (spSymb K)) : FnOk P w K mg base CX0 4 f fd ["key", "told"] (spTurn K) := by
  refine F.ok scIsT (fun vs H Q E h => by obtain ⟨x, rfl, _⟩ := h; rfl) (fun cdv A outer s0 H vs Q E hr h => ?_)
  obtain ⟨x, rfl, hx, q⟩ := h
  suffices z : ∃ t, PSs (cxOf CX0 P w K mg base nIs "is_turn" (defScope (top 25)) f cdv A outer s0 H E).nox (defBody (top 25)) t ∧ t { nx := fun _ H' => Q .non H', rt := Q } (start nIs [x.2.1, x.2.2]) H by
    obtain ⟨t, h1, h2⟩ := z
    exact ⟨t, h1.nox, h2⟩
  have bT : L2.Binds K fdT ["many", "value"] [] := FunD.bindsN FT fun _ _ _ _ _ _ us hl => match us, hl with | [_, _], _ => rfl
  have bD : L2.Binds K fdD ["value"] [] := FunD.bindsN FD fun _ _ _ _ _ _ us hl => match us, hl with | [_], _ => rfl
  have bS : L2.Binds K fdS ["value"] [] := FunD.bindsN FS fun _ _ _ _ _ _ us hl => match us, hl with | [_], _ => rfl
  have h1 := hr.mono (show 1 ≤ 3 by decide)
  refine ⟨_, pss_cons (ps_if (PW.pt (pw_or (pt_not (pt_val (pe_call GT h1 (by rfl) gT FT.kp bT .nil pass0 (pa_cons pe_int (pa_cons (pv 0) pa_nil))))) (pw_or (pt_not (pt_val (pe_call GD h1 (by rfl) gF FD.kp bD .nil pass0 (pa_cons (pe_ix ix_tup (pv 0) pe_int (fun _ _ => rfl)) pa_nil))))
      (pw_or1 (pt_not (pt_val (pe_call GS hr (by rfl) gS FS.kp bS .nil pass0 (pa_cons (pe_ix ix_tup (pv 0) pe_int (fun _ _ => rfl)) pa_nil)))))))) Tr.pss_never pss_nil)
    (pss_cons (ps_if (pt_cmpR op_isN (pv 1) pe_non (nomark _)) (pss_one (ps_ret pe_bl)) pss_nil)
    (pss_cons (ps_if (PW.pt (pw_or (pt_not (pt_val (pe_call GT h1 (by rfl) gT FT.kp bT .nil pass0 (pa_cons pe_int (pa_cons (pv 1) pa_nil))))) (pw_or1 (pt_not (pt_val (pe_call GS hr (by rfl) gS FS.kp bS .nil pass0 (pa_cons (pe_ix ix_tup (pv 1) pe_int (fun _ _ => rfl)) pa_nil))))))) Tr.pss_never pss_nil)
    (pss_one (ps_ret (pe_or (pe_cmpR op_isN (pe_ix ix_tup (pv 1) pe_int (fun _ _ => rfl)) pe_non (nomark _)) (pe_one (pe_and (pe_cmpR op_eq (pe_ix ix_tup (pv 0) pe_int (fun _ _ => rfl)) pe_str (nomark _)) (pe_one (pe_call GS hr (by rfl) gS FS.kp bS .nil pass0 (pa_cons (pe_ix ix_tup (pv 1) pe_int (fun _ _ => rfl)) pa_nil)))))))))), ?_⟩
  obtain ⟨p1, b, s, v, t, rfl, hp1, o1, tv, ot⟩ := hx
  refine ⟨_, rfl, p1, _, rfl, hp1, true, rfl, ?_⟩
  refine iteF ⟨_, rfl, p1, _, 0, .str (wayS b), rfl, rfl, hp1, rfl, b, rfl, true, rfl, ?_⟩
  refine iteF ⟨_, rfl, p1, _, 1, s.1, rfl, rfl, hp1, rfl, s.1, s.2, rfl, o1.dp, o1.sy, o1.nn, o1.wt, fun H1 s1 => ⟨true, rfl, ?_⟩⟩
  refine iteF ⟨_, rfl, rfl, _, rfl, ?_⟩
  cases t with
  | none =>
    have tv : v = .non := tv
    subst tv
    exact iteT (q H1 s1)
  | some y =>
    obtain ⟨s2, x2⟩ := y
    obtain ⟨p, e2, hp⟩ := tv
    subst e2
    obtain ⟨o2, o3⟩ := ot s2 x2 rfl
    have o2' := o2.tups (same_tups s1)
    have hp' := SqT.tups (same_tups s1) hp
    refine iteF ⟨_, rfl, p, _, rfl, hp', true, rfl, ?_⟩
    refine iteF ⟨_, rfl, p, _, 0, s2.1, rfl, rfl, hp', rfl, s2.1, s2.2, rfl, o2'.dp, o2'.sy, o2'.nn, o2'.wt, fun H2 s2' => ⟨true, rfl, ?_⟩⟩
    have s12 := same_trans s1 s2'
    have hp2 := SqT.tups (same_tups s12) hp
    refine iteF ⟨_, rfl, p, _, 1, optV x2, rfl, rfl, hp2, rfl, rfl, ?_⟩
    refine ⟨_, rfl, ?_⟩
    cases x2 with
    | none => exact iteT (q H2 s12)
    | some l =>
      obtain ⟨hb, o4⟩ := o3 l rfl
      subst hb
      have o4' := o4.tups (same_tups s12)
      have nn : decide (optV (some l) = V.non) = false := decide_eq_false o4.nn
      rw [nn]
      refine iteF ⟨_, rfl, p1, _, 0, .str "r", rfl, rfl, SqT.tups (same_tups s12) hp1, rfl, rfl, true, (show V.bl (decide (V.str "r" = V.str "r")) = V.bl true by decide), ?_⟩
      exact iteT ⟨_, rfl, p, _, 1, l.1, rfl, rfl, hp2, rfl, l.1, l.2, rfl, o4'.dp, o4'.sy, o4'.nn, o4'.wt, fun H3 s3 => q H3 (same_trans s12 s3)⟩
/-- a list of trues, one for each key of a dict that is locked -/
theorem lc_true {Q : VK} {d : Addr} {es : List Eh} {td te : TE} {v0 o : Option V} (hd : H d = some (DkO w d es)) (few : es.length ≤ 1000000)
    (htd : ∀ od (R : VK), R (.ref d) (upd H d (.frz od (DkO w d es))) → td [v0, o] (upd H d (.frz od (DkO w d es))) R)
    (hte : ∀ od x H1 (R : VK), x ∈ es → Same (upd H d (.frz od (DkO w d es))) H1 → (∀ H2, Same H1 H2 → R (.bl true) H2) → te [v0, some (x : Eh).2.1] H1 R)
    (q : ∀ D H', Same H H' → H' D = some (.lst (List.replicate es.length (.bl true))) → Q (.ref D) H') :
    tLockE (tLc (iKeysA w td) (gName 1) tYes te [1]) [v0, o] H Q := by
  refine ⟨d, _, hd, trivial, fun od => ?_⟩
  refine htd od _ ⟨d, od, _, rfl, upd_same, fun D nD => ?_⟩
  have nDd : D ≠ d := by
    rintro rfl
    rw [upd_same] at nD
    cases nD
  have s0 : Same (upd H d (.frz od (DkO w d es))) (upd (upd H d (.frz od (DkO w d es))) D (.lst [])) := same_upd nD
  refine lc_it (walk_keysA (w := w) (d := d) (o := od) (es := es)) (fun i H' => Same (upd H d (.frz od (DkO w d es))) H' ∧ H' D = some (.lst (List.replicate i (.bl true)))) ⟨s0, upd_same⟩ (fun i H' _ ⟨s, _⟩ => s _ _ upd_same) ?_ ?_
  · rintro i x H1 H2 hi ⟨s1, hacc⟩ ⟨rfl, e, he, rfl⟩
    refine ⟨rfl, ?_⟩
    show te [v0, some e.2.1] H2 _
    refine hte od e _ _ (List.mem_of_getElem? he) s1 fun H3 s3 => ⟨_, s3 _ _ hacc, ?_, ?_, ?_⟩
    · rw [List.length_replicate, sizeLine_eq]
      omega
    · intro b ob eb
      rw [upd_ne (ne_of_none eb nD)]
      exact s3 _ _ (s1 _ _ eb)
    · rw [upd_same, List.replicate_succ']
  · rintro H' ⟨s1, hacc⟩
    have lock := s1 _ _ (upd_same (H := H) (a := d))
    refine ⟨lock, ?_⟩
    refine q D _ (fun b ob eb => ?_) (by rw [upd_ne nDd]; exact hacc)
    by_cases e : b = d
    · subst e
      rw [hd] at eb
      cases eb
      exact upd_same
    · rw [upd_ne e]
      exact s1 _ _ (by rw [upd_ne e]; exact eb)
theorem all_rep (n : Nat) : (List.replicate n true).all id = true := by
  rw [List.all_eq_true]
  intro x hx
  exact (List.mem_replicate.mp hx).2
theorem atK_mem {es : List Eh} {x : Eh} (nd : (es.map (·.1)).Nodup) (h : x ∈ es) : atK es x.1 = some x.2.2 := by
  obtain ⟨j, hj⟩ := List.getElem?_of_mem h
  exact atK_get nd hj rfl
def spSteps (K : PySem.W.Frag) (w : World) : Sp := fun vs H Q _ => ∃ d es, vs = [.ref d] ∧ H d = some (DkO w d es) ∧ DA K w H d es ∧ (∀ x ∈ es, StepE K H x) ∧ es.length ≤ 900000 ∧ ∀ H', Same H H' → Q (.bl true) H'
def spTurns (K : PySem.W.Frag) (w : World) : Sp := fun vs H Q _ => ∃ d es, vs = [.ref d] ∧ H d = some (DkO w d es) ∧ DA K w H d es ∧ (∀ x ∈ es, TurnE K H x) ∧ es.length ≤ 900000 ∧ ∀ H', Same H H' → Q (.bl true) H'
abbrev nAre : List Str := ["steps", "key"]
theorem scAreS : FnScope nAre ["steps"] (defScope (top 22)) := ⟨rfl, rfl, rfl, by decide +kernel, rfl, by decide +kernel, by decide +kernel⟩
theorem ok_areSteps (F : FnT K "are_steps" 22 f fd) (TX : Txt mg) (FE : FnT K "is_step" 23 fE fdE) (gE : mg "is_step" = some (.ref fE)) (GE : FnOk P w K mg base CX0 4 fE fdE ["key", "told"] (spStep K)) : FnOk P w K mg base CX0 5 f fd ["steps"] (spSteps K w) := by
  refine F.ok scAreS (fun vs H Q E h => by obtain ⟨x, es, rfl, _⟩ := h; rfl) (fun cdv A outer s0 H vs Q E hr h => ?_)
  obtain ⟨d, es, rfl, hd, D, hx, few, q⟩ := h
  have nd := scAreS.nd
  have hu := hr.units
  suffices z : ∃ t, PSs (cxOf CX0 P w K mg base nAre "are_steps" (defScope (top 22)) f cdv A outer s0 H E).nox (defBody (top 22)) t ∧ t { nx := fun _ H' => Q .non H', rt := Q } (start nAre [.ref d]) H by
    obtain ⟨t, h1, h2⟩ := z
    exact ⟨t, h1.nox, h2⟩
  have bE : L2.Binds K fdE ["key", "told"] [] := FunD.bindsN FE fun _ _ _ _ _ _ us hl => match us, hl with | [_, _], _ => rfl
  refine ⟨_, pss_one (ps_ret (pe_and (pe_callB call_isDi (by rfl) TX.isi (by decide +kernel) (pa_cons (pv 0) (pa_cons (pe_bltn (by rfl) TX.dict (by decide +kernel) (v := .ty "dict") rfl) pa_nil)))
    (pe_one (pe_callB (cr_all rfl) (by rfl) TX.all (by decide +kernel) (pa_cons (pe_lock (pe_lc (own := [("key", 1)]) (g := gName 1) (tt := tYes) (te := tCall (spStep K) [] E0 (tCons (tVar 1) (tCons (tOp (rIxA K w) (tVar 0) (tVar 1)) tNil))) (by rfl) nd (pi_keysA (pv 0)) (blkOk_by (own := [("key", 1)]) (N := nAre) (sc := defScope (top 22)) (by decide +kernel))
      (fun _ _ _ _ _ => pg_name (i := 1) nd rfl (Or.inl rfl)) (fun _ _ _ _ _ => pts_nil) (fun _ _ _ _ _ => pe_call GE hr (by rfl) gE FE.kp bE .nil pass0 (pa_cons (pv 1) (pa_cons (pe_ix (ix_dictA hu) (pv 0) (pv 1) (fun _ _ => rfl)) pa_nil))))) pa_nil))))), ?_⟩
  refine ⟨_, rfl, d, es, rfl, D, true, rfl, iteT ?_⟩
  refine lc_true hd (by omega) (fun od R' q' => ⟨_, rfl, q'⟩) (fun od x H1 R' mx s1 q' => ?_) fun DD H2 s2 h2 => ?_
  · have tu : Tups H H1 := Tups.trans (Tups.upd (dk_ntup hd)) (same_tups s1)
    have D1 : DA K w H1 d es := ⟨.inr ⟨od, s1 _ _ upd_same⟩, fun y hy => ⟨(D.nk y hy).1.tups tu, (D.nk y hy).2⟩, D.nd⟩
    refine ⟨_, rfl, _, rfl, _, rfl, d, es, x.1, x.2.2, rfl, D1, (D1.nk x mx).1, (D1.nk x mx).2, atK_mem D.nd mx, ?_⟩
    exact ⟨x, rfl, (hx x mx).tups tu, q'⟩
  · refine ⟨DD, List.replicate es.length true, rfl, SqL.of (by rw [List.map_replicate]; exact h2), ?_⟩
    rw [all_rep]
    exact q H2 s2
abbrev nAreT : List Str := ["turns", "key"]
theorem scAreT : FnScope nAreT ["turns"] (defScope (top 24)) := ⟨rfl, rfl, rfl, by decide +kernel, rfl, by decide +kernel, by decide +kernel⟩
theorem ok_areTurns (F : FnT K "are_turns" 24 f fd) (TX : Txt mg) (FE : FnT K "is_turn" 25 fE fdE) (gE : mg "is_turn" = some (.ref fE)) (GE : FnOk P w K mg base CX0 4 fE fdE ["key", "told"] (spTurn K)) : FnOk P w K mg base CX0 5 f fd ["turns"] (spTurns K w) := by
  refine F.ok scAreT (fun vs H Q E h => by obtain ⟨x, es, rfl, _⟩ := h; rfl) (fun cdv A outer s0 H vs Q E hr h => ?_)
  obtain ⟨d, es, rfl, hd, D, hx, few, q⟩ := h
  have nd := scAreT.nd
  have hu := hr.units
  suffices z : ∃ t, PSs (cxOf CX0 P w K mg base nAreT "are_turns" (defScope (top 24)) f cdv A outer s0 H E).nox (defBody (top 24)) t ∧ t { nx := fun _ H' => Q .non H', rt := Q } (start nAreT [.ref d]) H by
    obtain ⟨t, h1, h2⟩ := z
    exact ⟨t, h1.nox, h2⟩
  have bE : L2.Binds K fdE ["key", "told"] [] := FunD.bindsN FE fun _ _ _ _ _ _ us hl => match us, hl with | [_, _], _ => rfl
  refine ⟨_, pss_one (ps_ret (pe_and (pe_callB call_isDi (by rfl) TX.isi (by decide +kernel) (pa_cons (pv 0) (pa_cons (pe_bltn (by rfl) TX.dict (by decide +kernel) (v := .ty "dict") rfl) pa_nil)))
    (pe_one (pe_callB (cr_all rfl) (by rfl) TX.all (by decide +kernel) (pa_cons (pe_lock (pe_lc (own := [("key", 1)]) (g := gName 1) (tt := tYes) (te := tCall (spTurn K) [] E0 (tCons (tVar 1) (tCons (tOp (rIxA K w) (tVar 0) (tVar 1)) tNil))) (by rfl) nd (pi_keysA (pv 0)) (blkOk_by (own := [("key", 1)]) (N := nAreT) (sc := defScope (top 24)) (by decide +kernel))
      (fun _ _ _ _ _ => pg_name (i := 1) nd rfl (Or.inl rfl)) (fun _ _ _ _ _ => pts_nil) (fun _ _ _ _ _ => pe_call GE hr (by rfl) gE FE.kp bE .nil pass0 (pa_cons (pv 1) (pa_cons (pe_ix (ix_dictA hu) (pv 0) (pv 1) (fun _ _ => rfl)) pa_nil))))) pa_nil))))), ?_⟩
  refine ⟨_, rfl, d, es, rfl, D, true, rfl, iteT ?_⟩
  refine lc_true hd (by omega) (fun od R' q' => ⟨_, rfl, q'⟩) (fun od x H1 R' mx s1 q' => ?_) fun DD H2 s2 h2 => ?_
  · have tu : Tups H H1 := Tups.trans (Tups.upd (dk_ntup hd)) (same_tups s1)
    have D1 : DA K w H1 d es := ⟨.inr ⟨od, s1 _ _ upd_same⟩, fun y hy => ⟨(D.nk y hy).1.tups tu, (D.nk y hy).2⟩, D.nd⟩
    refine ⟨_, rfl, _, rfl, _, rfl, d, es, x.1, x.2.2, rfl, D1, (D1.nk x mx).1, (D1.nk x mx).2, atK_mem D.nd mx, ?_⟩
    exact ⟨x, rfl, (hx x mx).tups tu, q'⟩
  · refine ⟨DD, List.replicate es.length true, rfl, SqL.of (by rw [List.map_replicate]; exact h2), ?_⟩
    rw [all_rep]
    exact q H2 s2
end
end K38

set_option Elab.async false
set_option linter.all false
set_option maxRecDepth 100000
set_option maxHeartbeats 4000000
namespace K38
open PySem PySem.Spec PyProof.Rows L2 Pen Tr AK LamX
section
variable {P : Program} {w : World} {K : PySem.W.Frag} {mg : Str → Option PySem.Value} {base : Heap} {f C fS : Addr} {fd fdS : FuncData} {H H' : Hp} {m : Mac}
/-! ### row 0 -/
def spFirst (K : PySem.W.Frag) : Sp := fun vs H Q _ => ∃ fi, ∃ first : List Sy, vs = [.ref fi] ∧ SqT K H fi (first.map (·.1)) ∧ (∀ s ∈ first, SyOk K H s) ∧ 2 ≤ first.length ∧ first.length ≤ 90000 ∧ ∀ H', Same H H' → Q (.bl true) H'
abbrev nFi : List Str := ["first", "letter"]
theorem scFi : FnScope nFi ["first"] (defScope (top 21)) := ⟨rfl, rfl, rfl, by decide +kernel, rfl, by decide +kernel, by decide +kernel⟩
theorem ok_first (F : FnT K "is_first" 21 f fd) (TX : Txt mg) (FS : FnT K "is_symbol" 14 fS fdS) (gS : mg "is_symbol" = some (.ref fS)) (GS : FnOk P w K mg base CX0 3 fS fdS ["value"] (spSymb K)) : FnOk P w K mg base CX0 4 f fd ["first"] (spFirst K) := by
  refine F.ok scFi (fun vs H Q E h => by obtain ⟨x, es, rfl, _⟩ := h; rfl) (fun cdv A outer s0 H vs Q E hr h => ?_)
  obtain ⟨fi, first, rfl, hf, hs, l2, few, q⟩ := h
  have nd := scFi.nd
  suffices z : ∃ t, PSs (cxOf CX0 P w K mg base nFi "is_first" (defScope (top 21)) f cdv A outer s0 H E).nox (defBody (top 21)) t ∧ t { nx := fun _ H' => Q .non H', rt := Q } (start nFi [.ref fi]) H by
    obtain ⟨t, h1, h2⟩ := z
    exact ⟨t, h1.nox, h2⟩
  have bS : L2.Binds K fdS ["value"] [] := FunD.bindsN FS fun _ _ _ _ _ _ us hl => match us, hl with | [_], _ => rfl
  refine ⟨_, pss_one (ps_ret (pe_and (pe_callB call_isTu (by rfl) TX.isi (by decide +kernel) (pa_cons (pv 0) (pa_cons (pe_bltn (by rfl) TX.tuple (by decide +kernel) (v := .ty "tuple") rfl) pa_nil)))
    (pe_and (pe_cmpR op_ge (pe_callB call_len_seq (by rfl) TX.len PySem.boot_len (pa_cons (pv 0) pa_nil)) pe_int (nomark _))
    (pe_one (pe_callB (cr_all rfl) (by rfl) TX.all (by decide +kernel) (pa_cons (pe_lc (own := [("letter", 1)]) (g := gName 1) (tt := tYes) (te := tCall (spSymb K) [] E0 (tCons (tVar 1) tNil)) (by rfl) nd (pi_tup (pv 0)) (blkOk_by (own := [("letter", 1)]) (N := nFi) (sc := defScope (top 21)) (by decide +kernel))
      (fun _ _ _ _ _ => pg_name (i := 1) nd rfl (Or.inl rfl)) (fun _ _ _ _ _ => pts_nil) (fun _ _ _ _ _ => pe_call GS hr (by rfl) gS FS.kp bS .nil pass0 (pa_cons (pv 1) pa_nil))) pa_nil)))))), ?_⟩
  refine ⟨_, rfl, fi, _, rfl, hf, true, rfl, iteT ?_⟩
  refine ⟨_, rfl, fi, _, rfl, .inr hf, _, _, rfl, rfl, _, rfl, ?_⟩
  rw [decide_eq_true (show (2 : Int) ≤ ((first.map (·.1)).length : Int) by rw [List.length_map]; omega)]
  refine iteT ⟨_, rfl, fi, rfl, ⟨_, hf⟩, fun D nD => ?_⟩
  refine lc_tup (K := K) (a := fi) (xs := first.map (·.1)) (fun i H' => Same H H' ∧ H' D = some (.lst (List.replicate i (.bl true)))) ⟨same_upd nD, upd_same⟩ (fun i H' _ p => SqT.tups (same_tups p.1) hf) ?_ ?_
  · rintro i x H' hx ⟨s1, hacc⟩
    obtain ⟨s, hs2, rfl⟩ : ∃ s, first[i]? = some s ∧ s.1 = x := by
      rw [List.getElem?_map] at hx
      exact Option.map_eq_some_iff.mp hx
    have o1 := (hs s (List.mem_of_getElem? hs2)).tups (same_tups s1)
    have hi := (List.getElem?_eq_some_iff.mp hs2).1
    refine ⟨rfl, ?_⟩
    refine yes_if ?_
    refine ⟨_, rfl, s.1, s.2, rfl, o1.dp, o1.sy, o1.nn, o1.wt, fun H2 s2 => ⟨_, s2 _ _ hacc, ?_, ?_, ?_⟩⟩
    · rw [List.length_replicate, sizeLine_eq]
      omega
    · intro b ob eb
      rw [upd_ne (ne_of_none eb nD)]
      exact s2 _ _ (s1 _ _ eb)
    · rw [upd_same, List.replicate_succ']
  · rintro H' ⟨s1, hacc⟩
    refine ⟨D, List.replicate (first.map (·.1)).length true, rfl, SqL.of (by rw [List.map_replicate]; exact hacc), ?_⟩
    rw [all_rep]
    exact q H' s1
/-! ### a copy of a dict -/
theorem dc_copy {Q : VK} {d : Addr} {es : List Eh} {td tk tv : TE} {v0 v1 v2 v3 v4 v5 o6 o7 : Option V} (hd : H d = some (DkO w d es)) (D : DA K w H d es) (few : es.length ≤ 1000000)
    (htd : ∀ od (R : VK), R (.ref d) (upd H d (.frz od (DkO w d es))) → td [v0, v1, v2, v3, v4, v5, o6, o7] (upd H d (.frz od (DkO w d es))) R)
    (htk : ∀ x H1 (R : VK), R (x : Eh).2.1 H1 → tk [v0, v1, v2, v3, v4, v5, some x.2.1, o7] H1 R)
    (htv : ∀ x H1 (R : VK), x ∈ es → DA K w H1 d es → R (x : Eh).2.2 H1 → tv [v0, v1, v2, v3, v4, v5, some x.2.1, o7] H1 R)
    (q : ∀ Dn H', Same H H' → H Dn = none → H' Dn = some (DkO w Dn es) → Q (.ref Dn) H') :
    tLockE (tDcA K w (iKeysA w td) (gName 6) tk tv [6]) [v0, v1, v2, v3, v4, v5, o6, o7] H Q := by
  refine ⟨d, _, hd, trivial, fun od => ?_⟩
  refine htd od _ ⟨d, od, _, rfl, upd_same, fun Dn nD => ?_⟩
  have nDd : Dn ≠ d := by
    rintro rfl
    rw [upd_same] at nD
    cases nD
  have nDH : H Dn = none := by
    rw [upd_ne nDd] at nD
    exact nD
  have s0 : Same (upd H d (.frz od (DkO w d es))) (upd (upd H d (.frz od (DkO w d es))) Dn (DkO w Dn [])) := same_upd nD
  have tuL : Tups H (upd H d (.frz od (DkO w d es))) := Tups.upd (dk_ntup hd)
  refine dcA_it (walk_keysA (w := w) (d := d) (o := od) (es := es)) (fun i H' => Same (upd H d (.frz od (DkO w d es))) H' ∧ H' Dn = some (DkO w Dn (es.take i))) ⟨s0, upd_same⟩ (fun i H' _ ⟨s, _⟩ => s _ _ upd_same) ?_ ?_
  · rintro i x H1 H2 hi ⟨s1, hacc⟩ ⟨rfl, e, he, rfl⟩
    have me := List.mem_of_getElem? he
    have tu := Tups.trans tuL (same_tups s1)
    have D1 : DA K w H2 d es := ⟨.inr ⟨od, s1 _ _ upd_same⟩, fun y hy => ⟨(D.nk y hy).1.tups tu, (D.nk y hy).2⟩, D.nd⟩
    refine ⟨rfl, ?_⟩
    refine htk e _ _ (htv e _ _ me D1 ?_)
    have nd2 : ((es.take i).map (·.1)).Nodup := List.Sublist.nodup ((List.take_sublist i es).map _) D.nd
    have new : atK (es.take i) e.1 = none := atK_none.mpr fun y hy z => by
      obtain ⟨j, hj⟩ := List.getElem?_of_mem hy
      have lt : j < i := by
        have := (List.getElem?_eq_some_iff.mp hj).1
        rw [List.length_take] at this
        omega
      rw [List.getElem?_take_of_lt lt] at hj
      have h1 : (es.map (·.1))[j]? = some y.1 := by rw [List.getElem?_map, hj]; rfl
      have h2 : (es.map (·.1))[i]? = some y.1 := by
        rw [List.getElem?_map, he]
        exact congrArg some z.symm
      have l1 : j < (es.map (·.1)).length := by
        rw [List.length_map]
        omega
      have := (List.getElem?_inj l1 D.nd).mp (h1.trans h2.symm)
      omega
    have Dt : DA K w H2 Dn (es.take i) := ⟨.inl hacc, fun y hy => D1.nk y (List.mem_of_mem_take hy), nd2⟩
    refine ⟨es.take i, e.1, hacc, Dt, (D1.nk e me).1, (D1.nk e me).2, ?_, ?_, ?_⟩
    · rw [List.length_take, sizeLine_eq]
      omega
    · intro b ob eb
      rw [upd_ne (ne_of_none eb nD)]
      exact s1 _ _ eb
    · rw [upd_same, putE_new new, List.take_add_one, he]
      rfl
  · rintro H' ⟨s1, hacc⟩
    have lock := s1 _ _ (upd_same (H := H) (a := d))
    refine ⟨lock, ?_⟩
    rw [List.take_length] at hacc
    refine q Dn _ (fun b ob eb => ?_) nDH (by rw [upd_ne nDd]; exact hacc)
    by_cases e : b = d
    · subst e
      rw [hd] at eb
      cases eb
      exact upd_same
    · rw [upd_ne e]
      exact s1 _ _ (by rw [upd_ne e]; exact eb)
end
end K38

set_option Elab.async false
set_option linter.all false
set_option maxRecDepth 100000
set_option maxHeartbeats 4000000
namespace K38
open PySem PySem.Spec PyProof.Rows L2 Pen Tr AK LamX
/-- the class Sweeps -/
structure SwF (K : PySem.W.Frag) (C : Addr) : Prop where
  cl : Cls K C
  fi : NoAttr K C "first"
  be : NoAttr K C "begin"
  st : NoAttr K C "steps"
  tu : NoAttr K C "turns"
  le : NoAttr K C "letters"
  ss : NoAttr K C "states"
/-- the two tables, with all that stands in them -/
structure TabE (K : PySem.W.Frag) (w : World) (H : Hp) (ds dt : Addr) (m : Mac) (es et : List Eh) : Prop where
  h1 : H ds = some (DkO w ds es)
  h2 : H dt = some (DkO w dt et)
  d1 : DA K w H ds es
  d2 : DA K w H dt et
  s : ∀ b d e, d ∈ m.sd b → e ∈ m.ld → ∃ q, atK es (kS b d e) = some (.ref q) ∧ SqT K H q [(m.step b d e).1.1, (m.step b d e).2.1]
  t : ∀ b d, d ∈ m.sd b → ∃ v, atK et (kT b d) = some v ∧ TurnAt K H v (m.turn b d)
  se : ∀ x ∈ es, StepE K H x
  te : ∀ x ∈ et, TurnE K H x
  f1 : es.length ≤ 900000
  f2 : et.length ≤ 900000
section
variable {K : PySem.W.Frag} {w : World} {H H' : Hp} {ds dt : Addr} {m : Mac} {es et : List Eh} {R : RA} {t : St} {TT : List (Addr × Str)}
theorem TabE.tabM (T : TabE K w H ds dt m es et) : TabM K w H ds dt m := ⟨es, et, T.d1, T.d2, T.s, T.t⟩
/-- with other dicts of the same entries -/
theorem TabE.keep (T : TabE K w H ds dt m es et) (tu : Tups H H') {ds' dt' : Addr} (h1 : H' ds' = some (DkO w ds' es)) (h2 : H' dt' = some (DkO w dt' et)) : TabE K w H' ds' dt' m es et :=
  ⟨h1, h2, ⟨.inl h1, fun x hx => ⟨(T.d1.nk x hx).1.tups tu, (T.d1.nk x hx).2⟩, T.d1.nd⟩, ⟨.inl h2, fun x hx => ⟨(T.d2.nk x hx).1.tups tu, (T.d2.nk x hx).2⟩, T.d2.nd⟩, fun b d e hd he => by
    obtain ⟨q, z1, z2⟩ := T.s b d e hd he
    exact ⟨q, z1, SqT.tups tu z2⟩, fun b d hd => by
    obtain ⟨v, z1, z2⟩ := T.t b d hd
    exact ⟨v, z1, z2.tups tu⟩, fun x hx => (T.se x hx).tups tu, fun x hx => (T.te x hx).tups tu, T.f1, T.f2⟩
theorem TabE.same (T : TabE K w H ds dt m es et) (s : Same H H') : TabE K w H' ds dt m es et := T.keep (same_tups s) (s _ _ T.h1) (s _ _ T.h2)
/-- what is looked at of a reach that is done -/
structure RZ (K : PySem.W.Frag) (w : World) (R : RA) (t : St) (H : Hp) : Prop where
  ins : H R.a = some (.ins R.C R.dx (fldsR R))
  dl : H R.dl = some (DkO w R.dl (entS t.ls))
  dS : H R.dS = some (DkO w R.dS (entB R))
  db : ∀ b, H (R.db b) = some (DkO w (R.db b) (entS (t.ss b)))
  lnd : ((entS t.ls).map (·.1)).Nodup
  snd : ∀ b, ((entS (t.ss b)).map (·.1)).Nodup
  lsO : ∀ s ∈ t.ls, SyOk K H s
  ssO : ∀ b, ∀ s ∈ t.ss b, SyOk K H s
  lf : t.ls.length ≤ 100
  sf : ∀ b, (t.ss b).length ≤ 100
theorem RS.z {H0 : Hp} (r : RS K w H0 R m t H) : RZ K w R t H :=
  ⟨r.ins, r.dl, r.dS, r.db, r.lnd, r.snd, fun s hs => (r.lsO s hs).1, fun b s hs => (r.ssO b s hs).1, Nat.le_trans (Nat.le_trans r.lle r.mac.lf) (by decide), fun b => Nat.le_trans (r.ssp b) (by decide)⟩
theorem RZ.butN (z : RZ K w R t H) {a C dx : Addr} {fs : List (Str × V)} (b : ButN a H H') (ha : H a = some (.ins C dx fs)) (ne : R.a ≠ a) : RZ K w R t H' := by
  have tu := ButN.tups b ha
  have k : ∀ {d : Addr} {es : List Eh}, H d = some (DkO w d es) → H' d = some (DkO w d es) := fun h => b _ _ h (fun _ z => nomatch z) (ne_of h ha fun z => nomatch z)
  exact ⟨b _ _ z.ins (fun _ z => nomatch z) ne, k z.dl, k z.dS, fun c => k (z.db c), z.lnd, z.snd, fun s hs => (z.lsO s hs).tups tu, fun c s hs => (z.ssO c s hs).tups tu, z.lf, z.sf⟩
theorem RZ.ext (z : RZ K w R t H) (e : ExtN H H') : RZ K w R t H' := by
  have tu := ExtN.tups e
  have k : ∀ {d : Addr} {es : List Eh}, H d = some (DkO w d es) → H' d = some (DkO w d es) := fun h => e _ _ h fun _ z => nomatch z
  exact ⟨e _ _ z.ins (fun _ z => nomatch z), k z.dl, k z.dS, fun c => k (z.db c), z.lnd, z.snd, fun s hs => (z.lsO s hs).tups tu, fun c s hs => (z.ssO c s hs).tups tu, z.lf, z.sf⟩
/-- a code object is none of these dicts -/
theorem code_ne_dk {c d : Addr} {q : Str} {es : List Eh} : CodeO c q ≠ DkO w d es := fun z => by
  injection z with z
  have hz := congrFun z
  let o1 : Obj := { cls := .type "code", data := .fields #[.none, .str q 0] }
  let h0 : Heap := { objs := Array.replicate (c + 1) o1 }
  have g0 : ∀ b, b < c + 1 → h0.get? b = some o1 := fun b hb => by
    have : h0.objs[b]? = some o1 := by
      show (Array.replicate (c + 1) o1)[b]? = some o1
      rw [Array.getElem?_replicate, if_pos hb]
    exact PySem.Heap.get?_some_iff.mpr ⟨this, rfl⟩
  have yes : DkRaw w d es h0 := (hz h0) ▸ ⟨o1, #[.none, .str q 0], 0, g0 c (Nat.lt_succ_self c), rfl, rfl⟩
  obtain ⟨_, _, o, arr, ep, us, ho, hx, hd, _⟩ := yes
  by_cases hb : d < c + 1
  · rw [g0 d hb] at ho
    cases ho
    cases hd
  · have no : h0.get? d = none := by
      cases e : h0.get? d with
      | none => rfl
      | some u =>
        have := (PySem.Heap.get?_some_iff.mp e).1
        have e2 : (Array.replicate (c + 1) o1)[d]? = none := by
          rw [Array.getElem?_replicate, if_neg hb]
        rw [show h0.objs = Array.replicate (c + 1) o1 from rfl, e2] at this
        cases this
    rw [no] at ho
    cases ho
theorem Tabs.updK {T : List (Addr × Str)} {x : Addr} {es : List Eh} {o : HO} (t : Tabs T H) (h : H x = some (DkO w x es)) : Tabs T (L2.upd H x o) := fun y hy => by
  obtain ⟨ps, h1, h2, h3⟩ := t y hy
  have n1 : ∀ {b : Addr} {u : HO}, H b = some u → u ≠ DkO w x es → b ≠ x := fun e n z => by
    rw [z, h] at e
    exact n (Option.some.inj e).symm
  refine ⟨ps, by rw [upd_ne (n1 h1 fun z => nomatch z)]; exact h1, h2, fun pos cv hc => ?_⟩
  obtain ⟨c, e1, e2⟩ := h3 pos cv hc
  exact ⟨c, e1, by rw [upd_ne (n1 e2 code_ne_dk)]; exact e2⟩
theorem text_da {d : Addr} {i : Nat} {es : List Eh} (h : Rd H d (DkO w d es)) (e : es.map (fun x => (x.1, x.2.1)) = [((.text "l" : NestedKey), V.str "l"), (.text "r", .str "r")].take i) : DA K w H d es := by
  refine ⟨h, fun x hx => ?_, ?_⟩
  · have m1 : (x.1, x.2.1) ∈ [((.text "l" : NestedKey), V.str "l"), (.text "r", .str "r")] := List.mem_of_mem_take (e ▸ List.mem_map.mpr ⟨x, hx, rfl⟩)
    simp only [List.mem_cons, List.not_mem_nil, or_false] at m1
    rcases m1 with m1 | m1 <;> (obtain ⟨a1, a2⟩ := Prod.mk.inj m1; rw [a1, a2]; exact ⟨nk_text, Nat.zero_le _⟩)
  · have e2 : es.map (·.1) = ([((.text "l" : NestedKey), V.str "l"), (.text "r", .str "r")].take i).map (·.1) := by
      rw [← e, List.map_map]
      rfl
    rw [e2]
    exact List.Sublist.nodup ((List.take_sublist i _).map _) (show ([NestedKey.text "l", NestedKey.text "r"] : List NestedKey).Nodup by decide)
theorem Tabs.updF {T : List (Addr × Str)} {x : Addr} {od : Obj} {u o : HO} (t : Tabs T H) (h : H x = some (.frz od u)) : Tabs T (L2.upd H x o) := fun y hy => by
  obtain ⟨ps, h1, h2, h3⟩ := t y hy
  refine ⟨ps, by rw [upd_ne (ne_of h1 h fun z => nomatch z)]; exact h1, h2, fun pos cv hc => ?_⟩
  obtain ⟨c, e1, e2⟩ := h3 pos cv hc
  exact ⟨c, e1, by rw [upd_ne (ne_of e2 h fun z => nomatch z)]; exact e2⟩
/-- what stays while a machine is made -/
structure Ph (K : PySem.W.Frag) (w : World) (TT : List (Addr × Str)) (R : RA) (t : St) (ds dt : Addr) (m : Mac) (es et : List Eh) (fi : Addr) (first : List Sy) (a : Addr) (H0 H : Hp) : Prop where
  z : RZ K w R t H
  tab : TabE K w H ds dt m es et
  fi : SqT K H fi (first.map (·.1))
  tabs : Tabs TT H
  b : ButN a H0 H
section
variable {fi a : Addr} {first : List Sy} {H0 : Hp}
theorem Ph.but (p : Ph K w TT R t ds dt m es et fi first a H0 H) {C dx : Addr} {fs : List (Str × V)} (ha : H a = some (.ins C dx fs)) (b : But a H H') (ne : R.a ≠ a) : Ph K w TT R t ds dt m es et fi first a H0 H' := by
  have tu := But.tups b ha
  exact ⟨p.z.butN (ButN.of b) ha ne, p.tab.keep tu (b _ _ p.tab.h1 (ne_of p.tab.h1 ha fun z => nomatch z)) (b _ _ p.tab.h2 (ne_of p.tab.h2 ha fun z => nomatch z)), SqT.tups tu p.fi, Tr.Tabs.but p.tabs ha b, ButN.trans p.b (ButN.of b)⟩
theorem Ph.ext (p : Ph K w TT R t ds dt m es et fi first a H0 H) (e : ExtN H H') (tt : Tabs TT H') : Ph K w TT R t ds dt m es et fi first a H0 H' :=
  ⟨p.z.ext e, p.tab.keep (ExtN.tups e) (e _ _ p.tab.h1 fun _ z => nomatch z) (e _ _ p.tab.h2 fun _ z => nomatch z), SqT.tups (ExtN.tups e) p.fi, tt, fun c o h n k => e _ _ (p.b c o h n k) n⟩
theorem Ph.same (p : Ph K w TT R t ds dt m es et fi first a H0 H) (s : Same H H') : Ph K w TT R t ds dt m es et fi first a H0 H' := p.ext (ExtN.of s) (p.tabs.ext s)
end
/-- the letters that come -/
structure LvOk (K : PySem.W.Frag) (H : Hp) (m : Mac) (v : V) : Prop where
  ex : ∃ lp, ∃ lv : List Sy, v = .ref lp ∧ SqT K H lp (lv.map (·.1)) ∧ lv ≠ [] ∧ (∀ s ∈ lv, SyOk K H s ∧ s.2 ∈ m.ld) ∧ (lv.map fun s => kOf s.2).Nodup
theorem LvOk.tups {H' : Hp} {v : V} (o : LvOk K H m v) (t : Tups H H') : LvOk K H' m v := by
  obtain ⟨lp, lv, h1, h2, h3, h4, h5⟩ := o.ex
  exact ⟨lp, lv, h1, SqT.tups t h2, h3, fun s hs => ⟨(h4 s hs).1.tups t, (h4 s hs).2⟩, h5⟩
/-- the states that come: a dict of both directions -/
structure SvOk (K : PySem.W.Frag) (w : World) (H : Hp) (m : Mac) (v : V) : Prop where
  ex : ∃ Dn es, v = .ref Dn ∧ DA K w H Dn es ∧ ∀ b, ∃ q, ∃ xs : List V, atK es (.text (wayS b)) = some (.ref q) ∧ SqT K H q xs ∧ xs.length ≤ (m.sd b).length
theorem SvOk.keep {H' : Hp} {v : V} (o : SvOk K w H m v) (t : Tups H H') (k : ∀ (d : Addr) (es : List Eh), Rd H d (DkO w d es) → Rd H' d (DkO w d es)) : SvOk K w H' m v := by
  obtain ⟨Dn, es, h1, h2, h3⟩ := o.ex
  exact ⟨Dn, es, h1, daKeep h2 t (k _ _ h2.at_), fun b => by
    obtain ⟨q, xs, z1, z2, z3⟩ := h3 b
    exact ⟨q, xs, z1, SqT.tups t z2, z3⟩⟩
/-- a machine made -/
structure SwO (K : PySem.W.Frag) (w : World) (C : Addr) (H : Hp) (a : Addr) (m : Mac) (first : List Sy) (be : Sy) : Prop where
  ex : ∃ dx fi ds dt v v2, H a = some (.ins C dx [("first", .ref fi), ("begin", be.1), ("steps", .ref ds), ("turns", .ref dt), ("letters", v), ("states", v2)]) ∧ SqT K H fi (first.map (·.1)) ∧ TabM K w H ds dt m ∧ LvOk K H m v ∧ SvOk K w H m v2
end
section
variable {P : Program} {w : World} {K : PySem.W.Frag} {mg : Str → Option PySem.Value} {base : Heap} {f C CR fF fS fA fB fR fY : Addr} {fd fdF fdS fdA fdB fdR fdY : FuncData} {H H' : Hp} {m : Mac} {TT : List (Addr × Str)}
def spSw (K : PySem.W.Frag) (w : World) (C : Addr) (TT : List (Addr × Str)) : Sp := fun vs H Q _ => ∃ a dx fi ds dt m be es et, ∃ first : List Sy, vs = [.ref a, .ref fi, (be : Sy).1, .ref ds, .ref dt] ∧ H a = some (.ins C dx []) ∧ SqT K H fi (first.map (·.1)) ∧ (∀ s ∈ first, SyOk K H s ∧ s.2 ∈ (m : Mac).ld) ∧
  2 ≤ first.length ∧ first.length ≤ 20000 ∧ (SyOk K H be ∧ be.2 ∈ m.sd false) ∧ MacOk K H m ∧ TabE K w H ds dt m es et ∧ ds ≠ dt ∧ Tabs TT H ∧ ∀ H', ButN a H H' → Tabs TT H' → SwO K w C H' a m first be → Q .non H'
abbrev nSw : List Str := ["self", "first", "begin", "steps", "turns", "reach", "key", "direction"]
theorem scSw : FnScope nSw ["self", "first", "begin", "steps", "turns"] (defScope (cSw 0)) := ⟨rfl, rfl, rfl, by decide +kernel, rfl, by decide +kernel, by decide +kernel⟩
theorem ok_sweeps (F : FnM K "__init__" "Sweeps.__init__" (cSw 0) f fd) (TX : Txt mg) (SF : SwF K C) (RF : ReF K CR)
    (FF : FnT K "is_first" 21 fF fdF) (gF : mg "is_first" = some (.ref fF)) (GF : FnOk P w K mg base CX0 4 fF fdF ["first"] (spFirst K)) (FS : FnT K "is_symbol" 14 fS fdS) (gS : mg "is_symbol" = some (.ref fS)) (GS : FnOk P w K mg base CX0 3 fS fdS ["value"] (spSymb K))
    (FA : FnT K "are_steps" 22 fA fdA) (gA : mg "are_steps" = some (.ref fA)) (GA : FnOk P w K mg base CX0 5 fA fdA ["steps"] (spSteps K w)) (FB : FnT K "are_turns" 24 fB fdB) (gB : mg "are_turns" = some (.ref fB)) (GB : FnOk P w K mg base CX0 5 fB fdB ["turns"] (spTurns K w))
    (FR : FnM K "__init__" "Reach.__init__" (cReach 0) fR fdR) (MR : Mk K CR fR) (GR : FnOk P w K mg base CX0 4 fR fdR ["self", "first", "begin", "steps", "turns"] (spRe K w CR)) (gR : mg "Reach" = some (.ref CR))
    (FY : FnT K "by_repr" 16 fY fdY) (gY : mg "by_repr" = some (.ref fY)) (GY : GFn P w K mg base CX0 4 fY fdY ["values"] (spBy K w TT)) : GFn P w K mg base CX0 6 f fd ["self", "first", "begin", "steps", "turns"] (spSw K w C TT) := by
  refine GFn.of F scSw (fun vs H Q E h => by obtain ⟨a, dx, fi, ds, dt, m, be, es, et, first, rfl, _⟩ := h; rfl) (fun c A outer s0 H vs Q E hc hr free h => ?_)
  obtain ⟨a, dx, fi, ds, dt, m, be, es, et, first, rfl, ha, hfi, hfs, l2, few, hbe, mac, tab, nst, tabs, q⟩ := h
  have nd := scSw.nd
  have hu := hr.units
  suffices z : ∃ t, PSs (cxOf CX0 P w K mg base nSw "Sweeps.__init__" (defScope (cSw 0)) f (.ref c) A outer s0 H E).nox (defBody (cSw 0)) t ∧ t { nx := fun _ H' => Q .non H', rt := Q } (start nSw [.ref a, .ref fi, be.1, .ref ds, .ref dt]) H by
    obtain ⟨t, h1, h2⟩ := z
    exact ⟨t, h1.nox, h2⟩
  have bF : L2.Binds K fdF ["first"] [] := FunD.bindsN FF fun _ _ _ _ _ _ us hl => match us, hl with | [_], _ => rfl
  have bS : L2.Binds K fdS ["value"] [] := FunD.bindsN FS fun _ _ _ _ _ _ us hl => match us, hl with | [_], _ => rfl
  have bA : L2.Binds K fdA ["steps"] [] := FunD.bindsN FA fun _ _ _ _ _ _ us hl => match us, hl with | [_], _ => rfl
  have bB : L2.Binds K fdB ["turns"] [] := FunD.bindsN FB fun _ _ _ _ _ _ us hl => match us, hl with | [_], _ => rfl
  have bR : L2.Binds K fdR ["self", "first", "begin", "steps", "turns"] [] := FunD.bindsN FR fun _ _ _ _ _ _ us hl => match us, hl with | [_, _, _, _, _], _ => rfl
  have bY : L2.Binds K fdY ["values"] [] := FunD.bindsN FY fun _ _ _ _ _ _ us hl => match us, hl with | [_], _ => rfl
  refine ⟨_, pss_cons (ps_if (pt_not (pt_val (pe_call GF (hr.mono (by decide)) (by rfl) gF FF.kp bF .nil pass0 (pa_cons (pv 1) pa_nil)))) Tr.pss_never pss_nil)
    (pss_cons (ps_if (pt_not (pt_val (pe_call GS (hr.mono (by decide)) (by rfl) gS FS.kp bS .nil pass0 (pa_cons (pv 2) pa_nil)))) Tr.pss_never pss_nil)
    (pss_cons (ps_if (pt_not (pt_val (pe_call GA (hr.mono (by decide)) (by rfl) gA FA.kp bA .nil pass0 (pa_cons (pv 3) pa_nil)))) Tr.pss_never pss_nil)
    (pss_cons (ps_if (pt_not (pt_val (pe_call GB (hr.mono (by decide)) (by rfl) gB FB.kp bB .nil pass0 (pa_cons (pv 4) pa_nil)))) Tr.pss_never pss_nil)
    (pss_cons (ps_asg (pe_make MR GR hr (by rfl) gR bR .nil pass0 (pa_cons (pv 1) (pa_cons (pv 2) (pa_cons (pv 3) (pa_cons (pv 4) pa_nil))))) (pg_name (i := 5) nd rfl (.inr rfl)))
    (pss_cons (ps_if (pt_truth (pe_fld (pv 5) rfl) (by intro _; rfl)) Tr.pss_never pss_nil)
    (pss_cons (ps_fld (pv 0) (pv 1) rfl) (pss_cons (ps_fld (pv 0) (pv 2) rfl)
    (pss_cons (ps_fld (pv 0) (pe_lock (pe_dcA (own := [("key", 6)]) (g := gName 6) (tk := tVar 6) (tv := tOp (rIxA K w) (tVar 3) (tVar 6)) hu (by rfl) nd (pi_keysA (pv 3)) (blkOk_by (own := [("key", 6)]) (N := nSw) (sc := defScope (cSw 0)) (by decide +kernel)) (fun _ _ _ _ _ => pg_name (i := 6) nd rfl (.inl rfl)) (fun _ _ _ _ _ => pv 6) (fun _ _ _ _ _ => pe_ix (ix_dictA hu) (pv 3) (pv 6) (fun _ _ => rfl)))) rfl)
    (pss_cons (ps_fld (pv 0) (pe_lock (pe_dcA (own := [("key", 6)]) (g := gName 6) (tk := tVar 6) (tv := tOp (rIxA K w) (tVar 4) (tVar 6)) hu (by rfl) nd (pi_keysA (pv 4)) (blkOk_by (own := [("key", 6)]) (N := nSw) (sc := defScope (cSw 0)) (by decide +kernel)) (fun _ _ _ _ _ => pg_name (i := 6) nd rfl (.inl rfl)) (fun _ _ _ _ _ => pv 6) (fun _ _ _ _ _ => pe_ix (ix_dictA hu) (pv 4) (pv 6) (fun _ _ => rfl)))) rfl)
    (pss_cons (ps_fld (pv 0) (pe_callG GY free (hr.mono (by decide)) (by rfl) gY FY.kp bY pass0 (pa_cons (pe_fld (pv 5) rfl) pa_nil)) rfl)
    (pss_one (ps_fld (pv 0) (pe_lock (pe_dcA (own := [("direction", 7)]) (g := gName 7) (tk := tVar 7) (tv := fun σ H Q => tCons (tOp (rIxA K w) (tFld K (tVar 5) "states") (tVar 7)) tNil σ H fun vs H1 => spBy K w TT vs H1 Q E0) hu (by rfl) nd (pi_keysA (pe_fld (pv 5) rfl)) (blkOk_by (own := [("direction", 7)]) (N := nSw) (sc := defScope (cSw 0)) (by decide +kernel))
      (fun _ _ _ _ _ => pg_name (i := 7) nd rfl (.inl rfl)) (fun _ _ _ _ _ => pv 7) (fun _ _ _ _ _ => pe_callG GY free (hr.mono (by decide)) (by rfl) gY FY.kp bY pass0 (pa_cons (pe_ix (ix_dictA hu) (pe_fld (pv 5) rfl) (pv 7) (fun _ _ => rfl)) pa_nil)))) rfl)))))))))))), ?_⟩
  refine ⟨_, rfl, fi, first, rfl, hfi, fun s hs => (hfs s hs).1, l2, by omega, fun H1 s1 => ⟨true, rfl, ?_⟩⟩
  have be1 := hbe.1.tups (same_tups s1)
  refine iteF ⟨_, rfl, be.1, be.2, rfl, be1.dp, be1.sy, be1.nn, be1.wt, fun H2 s2 => ⟨true, rfl, ?_⟩⟩
  have s02 := same_trans s1 s2
  have tab2 := tab.same s02
  refine iteF ⟨_, rfl, ds, es, rfl, tab2.h1, tab2.d1, tab2.se, tab2.f1, fun H3 s3 => ⟨true, rfl, ?_⟩⟩
  have s03 := same_trans s02 s3
  have tab3 := tab.same s03
  refine iteF ⟨_, rfl, dt, et, rfl, tab3.h2, tab3.d2, tab3.te, tab3.f2, fun H4 s4 => ⟨true, rfl, ?_⟩⟩
  have s04 := same_trans s03 s4
  have tab4 := tab.same s04
  clear s1 s2 s3 s4 s02 s03 tab2 tab3 be1
  -- the reach
  refine iteF ⟨_, rfl, _, rfl, _, rfl, _, rfl, fun r rx nr nrx nrr => ?_⟩
  have s5 : Same H4 (upd (upd H4 rx (.own r)) r (.ins CR rx [])) := ins_new nr nrx
  have s05 := same_trans s04 s5
  refine ⟨r, rx, fi, ds, dt, m, be, first, rfl, upd_same, SqT.tups (same_tups s05) hfi, fun s hs => ⟨(hfs s hs).1.tups (same_tups s05), (hfs s hs).2⟩, few, ⟨hbe.1.tups (same_tups s05), hbe.2⟩, mac.tups (same_tups s05), (tab.same s05).tabM, nst, fun R t H6 eR eC rs ne6 => ⟨rfl, ?_⟩⟩
  have ne6 : t.ls ≠ [] := ne6 (by intro z; rw [z] at l2; simp at l2)
  have ml6 : ∀ s ∈ t.ls, s.2 ∈ m.ld := fun s hs => (rs.lsO s hs).2
  have ssl : ∀ b, (t.ss b).length ≤ (m.sd b).length := fun b => ent_len (rs.snd b) fun s hs => (rs.ssO b s hs).2
  subst eR eC
  have s6 : Same H H6 := fun b o e => rs.out _ _ (s05 _ _ e) (ne_of_none (s04 _ _ e) nr)
  refine ⟨_, rfl, R.a, R.C, R.dx, _, .ref R.pm, rfl, rs.ins, RF.cl, RF.mi, rfl, false, .inl ⟨[], SqL.of rs.pm, rfl⟩, iteF ?_⟩
  have a6 := s6 _ _ ha
  have nRa : R.a ≠ a := Ne.symm (ne_of_none (s04 _ _ ha) nr)
  have p6 : Ph K w TT R t ds dt m es et fi first a H H6 := ⟨rs.z, tab.same s6, SqT.tups (same_tups s6) hfi, tabs.ext s6, ButN.of (But.same s6)⟩
  obtain ⟨-, -, n3, n4, -⟩ := RA.nes rs.nd
  clear rs s6 s5 s05 s04 tab4
  refine ⟨_, rfl, _, rfl, a, C, dx, [], rfl, a6, SF.cl, SF.fi, (by show 0 < 1000; decide), ?_⟩
  refine at_new fun H7 e7 => ?_
  have a7 : H7 a = some (.ins C dx [("first", .ref fi)]) := by
    rw [e7]
    exact upd_same
  have p7 := p6.but a6 (H' := H7) (by rw [e7]; exact But.upd But.refl) nRa
  clear e7 p6
  refine ⟨_, rfl, _, rfl, a, C, dx, _, rfl, a7, SF.cl, SF.be, (by show 1 < 1000; decide), ?_⟩
  refine at_new fun H8 e8 => ?_
  have a8 : H8 a = some (.ins C dx [("first", .ref fi), ("begin", be.1)]) := by
    rw [e8]
    exact upd_same
  have p8 := p7.but a7 (H' := H8) (by rw [e8]; exact But.upd But.refl) nRa
  clear e8 p7
  have f1 := tab.f1
  have f2 := tab.f2
  first
    | (change (tSeq (sFld K (tVar 0) (tLockE (tDcA K w (iKeysA w (tVar 3)) (gName 6) (tVar 6) (tOp (rIxA K w) (tVar 3) (tVar 6)) [6])) "steps") _) _ [some (.ref a), some (.ref fi), some be.1, some (.ref ds), some (.ref dt), some (.ref R.a), none, none] H8
       unfold tSeq)
    | change (sFld K (tVar 0) (tLockE (tDcA K w (iKeysA w (tVar 3)) (gName 6) (tVar 6) (tOp (rIxA K w) (tVar 3) (tVar 6)) [6])) "steps") _ [some (.ref a), some (.ref fi), some be.1, some (.ref ds), some (.ref dt), some (.ref R.a), none, none] H8
  change tLockE (tDcA K w (iKeysA w (tVar 3)) (gName 6) (tVar 6) (tOp (rIxA K w) (tVar 3) (tVar 6)) [6]) [some (.ref a), some (.ref fi), some be.1, some (.ref ds), some (.ref dt), some (.ref R.a), none, none] H8 _
  refine dc_copy (K := K) p8.tab.h1 p8.tab.d1 (by omega) (fun od R' q' => ⟨_, rfl, q'⟩) (fun x H' R' q' => ⟨_, rfl, q'⟩) (fun x H' R' mx D1 q' => ⟨_, rfl, _, rfl, ds, es, x.1, x.2.2, rfl, D1, (D1.nk x mx).1, (D1.nk x mx).2, atK_mem D1.nd mx, q'⟩) fun n1 H9 s9 nn1 at9 => ?_
  have g1 : n1 ≠ a := Ne.symm (ne_of_none a8 nn1)
  refine ⟨_, rfl, a, C, dx, _, rfl, s9 _ _ a8, SF.cl, SF.st, (by show 2 < 1000; decide), ?_⟩
  refine at_new fun H10 e10 => ?_
  have a10 : H10 a = some (.ins C dx [("first", .ref fi), ("begin", be.1), ("steps", .ref n1)]) := by
    rw [e10]
    exact upd_same
  have b10 : But a H9 H10 := by
    rw [e10]
    exact But.upd But.refl
  have p10 := (p8.same s9).but (s9 _ _ a8) b10 nRa
  have n10 := b10 _ _ at9 g1
  clear e10 p8 b10
  first
    | (change (tSeq (sFld K (tVar 0) (tLockE (tDcA K w (iKeysA w (tVar 4)) (gName 6) (tVar 6) (tOp (rIxA K w) (tVar 4) (tVar 6)) [6])) "turns") _) _ [some (.ref a), some (.ref fi), some be.1, some (.ref ds), some (.ref dt), some (.ref R.a), none, none] H10
       unfold tSeq)
    | change (sFld K (tVar 0) (tLockE (tDcA K w (iKeysA w (tVar 4)) (gName 6) (tVar 6) (tOp (rIxA K w) (tVar 4) (tVar 6)) [6])) "turns") _ [some (.ref a), some (.ref fi), some be.1, some (.ref ds), some (.ref dt), some (.ref R.a), none, none] H10
  change tLockE (tDcA K w (iKeysA w (tVar 4)) (gName 6) (tVar 6) (tOp (rIxA K w) (tVar 4) (tVar 6)) [6]) [some (.ref a), some (.ref fi), some be.1, some (.ref ds), some (.ref dt), some (.ref R.a), none, none] H10 _
  refine dc_copy (K := K) p10.tab.h2 p10.tab.d2 (by omega) (fun od R' q' => ⟨_, rfl, q'⟩) (fun x H' R' q' => ⟨_, rfl, q'⟩) (fun x H' R' mx D1 q' => ⟨_, rfl, _, rfl, dt, et, x.1, x.2.2, rfl, D1, (D1.nk x mx).1, (D1.nk x mx).2, atK_mem D1.nd mx, q'⟩) fun n2 H11 s11 nn2 at11 => ?_
  have g2 : n2 ≠ a := Ne.symm (ne_of_none a10 nn2)
  refine ⟨_, rfl, a, C, dx, _, rfl, s11 _ _ a10, SF.cl, SF.tu, (by show 3 < 1000; decide), ?_⟩
  refine at_new fun H12 e12 => ?_
  have a12 : H12 a = some (.ins C dx [("first", .ref fi), ("begin", be.1), ("steps", .ref n1), ("turns", .ref n2)]) := by
    rw [e12]
    exact upd_same
  have b12 : But a H11 H12 := by
    rw [e12]
    exact But.upd But.refl
  have p12 := (p10.same s11).but (s11 _ _ a10) b12 nRa
  have n12 := b12 _ _ (s11 _ _ n10) g1
  have m12 := b12 _ _ at11 g2
  clear e12 p10 b12
  -- the letters
  have dal : DA K w H12 R.dl (entS t.ls) := da_ent (.inl p12.z.dl) p12.z.lsO p12.z.lnd
  refine ⟨_, rfl, R.a, R.C, R.dx, _, .ref R.dl, rfl, p12.z.ins, RF.cl, RF.le, rfl, .ref R.dl, t.ls, rfl, p12.tabs, ⟨R.dl, rfl, .inr ⟨entS t.ls, dal, by simp [entS]⟩⟩, fun s hs => (p12.z.lsO s hs).sh, Nat.le_trans p12.z.lf (by decide), fun lp H13 e13 t13 hlp => ?_⟩
  have a13 := e13 _ _ a12 fun _ z => nomatch z
  refine ⟨_, rfl, a, C, dx, _, rfl, a13, SF.cl, SF.le, (by show 4 < 1000; decide), ?_⟩
  refine at_new fun H14 e14 => ?_
  have a14 : H14 a = some (.ins C dx [("first", .ref fi), ("begin", be.1), ("steps", .ref n1), ("turns", .ref n2), ("letters", .ref lp)]) := by
    rw [e14]
    exact upd_same
  have b14 : But a H13 H14 := by
    rw [e14]
    exact But.upd But.refl
  have p14 := (p12.ext e13 t13).but a13 b14 nRa
  have n14 := b14 _ _ (e13 _ _ n12 fun _ z => nomatch z) g1
  have m14 := b14 _ _ (e13 _ _ m12 fun _ z => nomatch z) g2
  have hl14 := SqT.tups (But.tups b14 a13) hlp
  clear e14 p12 b14 dal
  -- the states
  refine ⟨R.dS, _, p14.z.dS, trivial, fun od => ?_⟩
  have keepL : ∀ {b : Addr} {o : HO}, b ≠ R.dS → H14 b = some o → upd H14 R.dS (.frz od (DkO w R.dS (entB R))) b = some o := fun n e => by
    rw [upd_ne n]
    exact e
  have insL := keepL (ne_of p14.z.ins p14.z.dS fun z => nomatch z) p14.z.ins
  have dbL := fun b => keepL (Ne.symm (n4 b).2.2.1) (p14.z.db b)
  have tuL : Tups H14 (upd H14 R.dS (.frz od (DkO w R.dS (entB R)))) := Tups.upd (dk_ntup p14.z.dS)
  have tabL : Tabs TT (upd H14 R.dS (.frz od (DkO w R.dS (entB R)))) := Tabs.updK p14.tabs p14.z.dS
  have lockL : upd H14 R.dS (.frz od (DkO w R.dS (entB R))) R.dS = some (.frz od (DkO w R.dS (entB R))) := upd_same
  refine ⟨_, rfl, R.a, R.C, R.dx, _, .ref R.dS, rfl, insL, RF.cl, RF.ss, rfl, R.dS, od, _, rfl, lockL, fun Dn nD => ?_⟩
  generalize eL : upd H14 R.dS (.frz od (DkO w R.dS (entB R))) = HL at insL dbL tuL tabL lockL nD
  have nDS : Dn ≠ R.dS := Ne.symm (ne_of_none lockL nD)
  refine dcA_it (K := K) (w := w) (g := gName 7) (tk := tVar 7) (tv := fun σ H Q => tCons (tOp (rIxA K w) (tFld K (tVar 5) "states") (tVar 7)) tNil σ H fun vs H1 => spBy K w TT vs H1 Q E0) (vs := [7]) (σ := [some (.ref a), some (.ref fi), some be.1, some (.ref ds), some (.ref dt), some (.ref R.a), none, none]) (d := Dn) (H1 := HL)
    (walk_keysA (w := w) (d := R.dS) (o := od) (es := entB R)) (fun i H' => ExtN HL H' ∧ Tabs TT H' ∧ ∃ es', H' Dn = some (DkO w Dn es') ∧ es'.map (fun x => (x.1, x.2.1)) = [((.text "l" : NestedKey), V.str "l"), (.text "r", .str "r")].take i ∧ ∀ x ∈ es', ∃ b q, ∃ xs : List V, x = ((.text (wayS b) : NestedKey), V.str (wayS b), V.ref q) ∧ SqT K H' q xs ∧ xs.length ≤ (m.sd b).length) ?_ ?_ ?_ ?_
  · exact ⟨ExtN.of (same_upd nD), tabL.ext (same_upd nD), [], upd_same, rfl, (fun _ z => nomatch z)⟩
  · rintro i H' hi ⟨e1, _⟩
    exact e1 _ _ lockL fun _ z => nomatch z
  · rintro i x H1 H2 hi ⟨e1, t1, es', at', mp, sv⟩ ⟨rfl, e, he, rfl⟩
    have hi : i < 2 := hi
    obtain ⟨b, rfl, hb, nb⟩ : ∃ b, e = ((.text (wayS b) : NestedKey), V.str (wayS b), V.ref (R.db b)) ∧ [((.text "l" : NestedKey), V.str "l"), (.text "r", .str "r")][i]? = some (.text (wayS b), .str (wayS b)) ∧ ∀ x ∈ [((.text "l" : NestedKey), V.str "l"), (.text "r", .str "r")].take i, x.1 ≠ .text (wayS b) := by
      match i, hi with
      | 0, _ => exact ⟨false, (Option.some.inj he).symm, rfl, fun _ h => nomatch h⟩
      | 1, _ => exact ⟨true, (Option.some.inj he).symm, rfl, fun x hx => by
          obtain rfl := List.mem_singleton.mp hx
          show ¬ (NestedKey.text "l" : NestedKey) = NestedKey.text "r"
          decide⟩
    have tu2 := Tups.trans tuL (ExtN.tups e1)
    have sh2 : ∀ s ∈ t.ss b, ShowOk K H2 s := fun s hs => ((p14.z.ssO b s hs).tups tu2).sh
    have da2 : DA K w H2 (R.db b) (entS (t.ss b)) := da_ent (.inl (e1 _ _ (dbL b) fun _ z => nomatch z)) (fun s hs => (p14.z.ssO b s hs).tups tu2) (p14.z.snd b)
    have daS : DA K w H2 R.dS (entB R) := ⟨.inr ⟨od, (e1 _ _ lockL fun _ z => nomatch z)⟩, fun x hx => by
      simp only [entB, List.mem_cons, List.not_mem_nil, or_false] at hx
      rcases hx with rfl | rfl <;> exact ⟨nk_text, Nat.zero_le _⟩, (show ([NestedKey.text "l", NestedKey.text "r"] : List NestedKey).Nodup by decide)⟩
    refine ⟨rfl, _, rfl, _, rfl, R.a, R.C, R.dx, _, .ref R.dS, rfl, (e1 _ _ insL fun _ z => nomatch z), RF.cl, RF.ss, rfl, _, rfl, R.dS, entB R, .text (wayS b), _, rfl, daS, nk_text, Nat.zero_le _, entB_at b, ?_⟩
    refine ⟨.ref (R.db b), t.ss b, rfl, t1, ⟨R.db b, rfl, .inr ⟨entS (t.ss b), da2, by simp [entS]⟩⟩, sh2, Nat.le_trans (p14.z.sf b) (by decide), fun lp2 H3 e3 t3 hlp2 => ?_⟩
    have at3 := e3 _ _ at' fun _ z => nomatch z
    have new : atK es' (.text (wayS b)) = none := atK_none.mpr fun y hy z => nb (y.1, y.2.1) (by rw [← mp]; exact List.mem_map.mpr ⟨y, hy, rfl⟩) z
    refine ⟨es', .text (wayS b), at3, text_da (.inl at3) mp, nk_text, Nat.zero_le _, ?_, fun c o hc nt => ?_, Tabs.updK t3 at3, _, upd_same, ?_, fun y hy => ?_⟩
    · have := congrArg List.length mp
      rw [List.length_map, List.length_take] at this
      rw [sizeLine_eq]
      omega
    · rw [upd_ne (ne_of_none hc nD)]
      exact e3 _ _ (e1 _ _ hc nt) nt
    · rw [putE_new new, List.map_append, mp, List.take_add_one, hb]
      rfl
    · have tuY : Tups H3 (upd H3 Dn (DkO w Dn (putE es' (.text (wayS b)) (.str (wayS b)) (.ref lp2)))) := Tups.upd (dk_ntup at3)
      rw [putE_new new] at hy
      rcases List.mem_append.mp hy with hy | hy
      · obtain ⟨b', q', xs', z1, z2, z3⟩ := sv y hy
        exact ⟨b', q', xs', z1, SqT.tups tuY (SqT.tups (ExtN.tups e3) z2), z3⟩
      · obtain rfl := List.mem_singleton.mp hy
        exact ⟨b, lp2, _, rfl, SqT.tups tuY hlp2, by rw [List.length_map, srt_len]; exact ssl b⟩
  · rintro H' ⟨e1, t1, es', at', mp, sv⟩
    have lock := e1 _ _ lockL fun _ z => nomatch z
    refine ⟨lock, ?_⟩
    have eU : ExtN H14 (upd H' R.dS (DkO w R.dS (entB R))) := fun c o hc nt => by
      by_cases e : c = R.dS
      · subst e
        rw [p14.z.dS] at hc
        cases hc
        exact upd_same
      · rw [upd_ne e]
        refine e1 _ _ ?_ nt
        rw [← eL, upd_ne e]
        exact hc
    have p15 := p14.ext eU (Tabs.updF t1 lock)
    have a15 := eU _ _ a14 fun _ z => nomatch z
    have n15 := eU _ _ n14 fun _ z => nomatch z
    have m15 := eU _ _ m14 fun _ z => nomatch z
    have hl15 := SqT.tups (ExtN.tups eU) hl14
    have tuU : Tups H' (upd H' R.dS (DkO w R.dS (entB R))) := Tups.upd (fun xs h => by
      rcases h with h | ⟨u, h⟩
      · rw [lock] at h
        cases h
      · rw [lock] at h
        injection h with h
        injection h with _ h
        cases h)
    have sv15 : ∀ x ∈ es', ∃ b q, ∃ xs : List V, x = ((.text (wayS b) : NestedKey), V.str (wayS b), V.ref q) ∧ SqT K (upd H' R.dS (DkO w R.dS (entB R))) q xs ∧ xs.length ≤ (m.sd b).length := fun x hx => by
      obtain ⟨b, q, xs, z1, z2, z3⟩ := sv x hx
      exact ⟨b, q, xs, z1, SqT.tups tuU z2, z3⟩
    have dn15 : upd H' R.dS (DkO w R.dS (entB R)) Dn = some (DkO w Dn es') := by
      rw [upd_ne nDS]
      exact at'
    generalize upd H' R.dS (DkO w R.dS (entB R)) = H15 at p15 a15 n15 m15 hl15 sv15 dn15
    refine ⟨_, rfl, a, C, dx, _, rfl, a15, SF.cl, SF.ss, (by show 5 < 1000; decide), ?_⟩
    refine at_new fun H16 e16 => ?_
    have a16 : H16 a = some (.ins C dx [("first", .ref fi), ("begin", be.1), ("steps", .ref n1), ("turns", .ref n2), ("letters", .ref lp), ("states", .ref Dn)]) := by
      rw [e16]
      exact upd_same
    have b16 : But a H15 H16 := by
      rw [e16]
      exact But.upd But.refl
    have p16 := p15.but a15 b16 nRa
    have nDa : Dn ≠ a := ne_of dn15 a15 (fun z => nomatch z)
    have d16 := b16 _ _ dn15 nDa
    have da16 : DA K w H16 Dn es' := text_da (.inl d16) mp
    refine q H16 p16.b p16.tabs ⟨dx, fi, n1, n2, _, _, a16, p16.fi, (p16.tab.keep Tups.rfl' (b16 _ _ n15 g1) (b16 _ _ m15 g2)).tabM, ⟨⟨lp, srt t.ls, rfl, SqT.tups (But.tups b16 a15) hl15, ?_, ?_, ?_⟩⟩, ⟨⟨Dn, es', rfl, da16, fun b => ?_⟩⟩⟩
    · intro z
      have zl := srt_len t.ls
      rw [z] at zl
      exact ne6 (List.length_eq_zero_iff.mp zl.symm)
    · intro s hs
      have hs := (srt_perm t.ls).mem_iff.mp hs
      exact ⟨p16.z.lsO s hs, ml6 s hs⟩
    · refine ((srt_perm t.ls).map fun s => kOf s.2).nodup_iff.mpr ?_
      have z := p16.z.lnd
      rw [entS, List.map_map] at z
      exact z
    · have mp2 : es'.map (fun x => (x.1, x.2.1)) = [((.text "l" : NestedKey), V.str "l"), (.text "r", .str "r")] := mp
      have hm : ((.text (wayS b) : NestedKey), V.str (wayS b)) ∈ es'.map (fun x => (x.1, x.2.1)) := by
        rw [mp2]
        cases b
        · exact .head _
        · exact .tail _ (.head _)
      obtain ⟨x, hx, ex⟩ := List.mem_map.mp hm
      obtain ⟨b', q, xs, rfl, z2, z3⟩ := sv15 x hx
      have eb : b' = b := by
        injection ex with ex _
        injection ex with ex
        cases b <;> cases b' <;> first | rfl | exact absurd ex (by decide)
      subst eb
      exact ⟨q, xs, atK_mem da16.nd hx, SqT.tups (But.tups b16 a15) z2, z3⟩
end
end K38

set_option Elab.async false
set_option linter.all false
set_option maxRecDepth 100000
set_option maxHeartbeats 4000000
namespace K38
open PySem PySem.Spec PyProof.Rows L2 Pen Tr AK LamX
/-- o.f as one of several targets -/
def gFldT (K : PySem.W.Frag) (ta : TE) (f : Str) : TG := fun v σ H Q => ta σ H fun x H2 => ∃ a C dx fs, x = .ref a ∧ H2 a = some (.ins C dx fs) ∧ Cls K C ∧ NoAttr K C f ∧ fs.length < 1000 ∧ Q σ (upd H2 a (.ins C dx (putF f v fs)))
theorem pg_fldT {X : Cx} {o : PySem.Expr} {f : Str} {pos : Pos} {ta : TE} (ha : PE X o ta) : PG X (.Attribute o f pos) (gFldT X.K ta f) := by
  refine ⟨fun pins s σ H v u Q I r h => ?_⟩
  rw [assign_Attribute]
  refine wpAny_bind (wpAny_holding (thn (ha.run pins s σ H _ I h) fun ov s1 ⟨x, H1, I1, r1, a, C, dx, fs, ex, ea, c, n, l, q⟩ => ?_))
  subst ex
  obtain rfl : ov = PySem.Value.ref a := r1
  refine wpAny_bind (wpAny_standAt (wpAny_bind (wpAny_holding (setattr_ok I1 ea c n l r fun s3 I3 => ?_))))
  exact wpAny_release ⟨σ, _, I3, q⟩
/-! ### one sweep -/
def stepW (m : Mac) (b : Bool) (p : List Sy × Sy) (l : Sy) : List Sy × Sy := (p.1 ++ [(m.step b p.2.2 l.2).2], (m.step b p.2.2 l.2).1)
def walkW (m : Mac) (b : Bool) (s : Sy) (ls : List Sy) : List Sy × Sy := ls.foldl (stepW m b) ([], s)
def ordL (b : Bool) (xs : List Sy) : List Sy := if b then xs else xs.reverse
theorem ordL_map (b : Bool) (xs : List Sy) : (ordL b xs).map (·.1) = ordV b (xs.map (·.1)) := by
  cases b
  · simp [ordL, ordV]
  · rfl
theorem ordL_mem {b : Bool} {xs : List Sy} {x : Sy} : x ∈ ordL b xs ↔ x ∈ xs := by
  cases b
  · simp [ordL]
  · exact Iff.rfl
theorem ordL_len {b : Bool} {xs : List Sy} : (ordL b xs).length = xs.length := by
  cases b
  · simp [ordL]
  · rfl
theorem walkW_snoc {m : Mac} {b : Bool} {s l : Sy} {ls : List Sy} : walkW m b s (ls ++ [l]) = stepW m b (walkW m b s ls) l := by
  unfold walkW
  rw [List.foldl_append]
  rfl
theorem walkW_ok {K : PySem.W.Frag} {H : Hp} {m : Mac} (o : MacOk K H m) {b : Bool} {s : Sy} (hs : SyOk K H s ∧ s.2 ∈ m.sd b) (ls : List Sy) (h : ∀ l ∈ ls, SyOk K H l ∧ l.2 ∈ m.ld) :
    (∀ l ∈ (walkW m b s ls).1, SyOk K H l ∧ l.2 ∈ m.ld) ∧ (SyOk K H (walkW m b s ls).2 ∧ (walkW m b s ls).2.2 ∈ m.sd b) ∧ (walkW m b s ls).1.length = ls.length := by
  suffices z : ∀ (n : Nat), (∀ l ∈ (walkW m b s (ls.take n)).1, SyOk K H l ∧ l.2 ∈ m.ld) ∧ (SyOk K H (walkW m b s (ls.take n)).2 ∧ (walkW m b s (ls.take n)).2.2 ∈ m.sd b) ∧ (walkW m b s (ls.take n)).1.length = (ls.take n).length by
    have := z ls.length
    rwa [List.take_length] at this
  intro n
  induction n with
  | zero => exact ⟨fun _ h => (by simp [walkW] at h), hs, rfl⟩
  | succ n ih =>
    cases e : ls[n]? with
    | none =>
      rw [List.take_add_one, e]
      simpa using ih
    | some l =>
      rw [List.take_add_one, e]
      rw [show (some l).toList = [l] from rfl, walkW_snoc]
      obtain ⟨i1, i2, i3⟩ := ih
      have hl := h l (List.mem_of_getElem? e)
      obtain ⟨z1, z2, z3, z4⟩ := o.st b _ _ i2.2 hl.2
      refine ⟨fun x hx => ?_, ⟨z1, z2⟩, ?_⟩
      · rcases List.mem_append.mp hx with hx | hx
        · exact i1 x hx
        · obtain rfl := List.mem_singleton.mp hx
          exact ⟨z3, z4⟩
      · simp [stepW, i3]
structure WkF (K : PySem.W.Frag) (C : Addr) : Prop where
  cl : Cls K C
  sw : NoAttr K C "_sweeps"
  di : NoAttr K C "direction"
  st : NoAttr K C "state"
section
variable {P : Program} {w : World} {K : PySem.W.Frag} {mg : Str → Option PySem.Value} {base : Heap} {f C CS aO fO fT : Addr} {fd fdO fdT : FuncData} {H H' : Hp} {m : Mac} {first : List Sy} {be : Sy} {sw : Addr}
def wkO (C dx sw : Addr) (b : Bool) (s : Option Sy) : HO := .ins C dx [("_sweeps", .ref sw), ("direction", .str (wayS b)), ("state", optV s)]
theorem SwO.but (o : SwO K w CS H sw m first be) {a C dx : Addr} {fs : List (Str × V)} (ha : H a = some (.ins C dx fs)) (b : But a H H') (ne : sw ≠ a) : SwO K w CS H' sw m first be := by
  obtain ⟨dx2, fi, ds, dt, v, v2, h1, h2, h3, h4, h5⟩ := o.ex
  have tu := But.tups b ha
  exact ⟨dx2, fi, ds, dt, v, v2, b _ _ h1 ne, SqT.tups tu h2, h3.keep tu fun c es _ h => But.rdk b ha h, h4.tups tu, h5.keep tu fun c es h => But.rdk b ha h⟩
theorem SwO.same (o : SwO K w CS H sw m first be) (s : Same H H') : SwO K w CS H' sw m first be := by
  obtain ⟨dx2, fi, ds, dt, v, v2, h1, h2, h3, h4, h5⟩ := o.ex
  exact ⟨dx2, fi, ds, dt, v, v2, s _ _ h1, SqT.tups (same_tups s) h2, h3.same s, h4.tups (same_tups s), h5.keep (same_tups s) fun c es h => same_rd s h⟩
theorem nkS {q : Addr} {b : Bool} {s l : Sy} (h : SqT K H q [.str (wayS b), s.1, l.1]) (o1 : SyOk K H s) (o2 : SyOk K H l) : NK K H (kS b s.2 l.2) (.ref q) :=
  ⟨.tuple [.str (wayS b), s.2, l.2], .tup h (.cons (.str _) (.cons o1.dp (.cons o2.dp .nil))), by simp [keyD, keyDs, menu_key _ o1.mem, menu_key _ o2.mem, kS]⟩
theorem nkT {q : Addr} {b : Bool} {s : Sy} (h : SqT K H q [.str (wayS b), s.1]) (o1 : SyOk K H s) : NK K H (kT b s.2) (.ref q) :=
  ⟨.tuple [.str (wayS b), s.2], .tup h (.cons (.str _) (.cons o1.dp .nil)), by simp [keyD, keyDs, menu_key _ o1.mem, kT]⟩
theorem depS {b : Bool} {s l : Sy} (o1 : SyOk K H s) (o2 : SyOk K H l) : (kS b s.2 l.2).depth ≤ 8 := by
  have h1 := menu_deep _ o1.mem
  have h2 := menu_deep _ o2.mem
  simp only [kS, NestedKey.depth, NestedKey.depthAll]
  omega
theorem depT {b : Bool} {s : Sy} (o1 : SyOk K H s) : (kT b s.2).depth ≤ 8 := by
  have h1 := menu_deep _ o1.mem
  simp only [kT, NestedKey.depth, NestedKey.depthAll]
  omega
/-- what _turn tells -/
def ToldAt (K : PySem.W.Frag) (H : Hp) (v : V) : Option (Sy × Option Sy) → Prop
  | none => v = .non
  | some (_, x) => ∃ q, v = .ref q ∧ SqT K H q [optV x]
def nextS : Option (Sy × Option Sy) → Option Sy
  | none => none
  | some (s, _) => some s
def spTurnW (K : PySem.W.Frag) (w : World) (C CS : Addr) : Sp := fun vs H Q _ => ∃ a dx sw m first be b s s0, vs = [.ref a, (s : Sy).1] ∧ H a = some (wkO C dx sw b s0) ∧ SwO K w CS H sw m first be ∧ sw ≠ a ∧ SyOk K H s ∧ s.2 ∈ (m : Mac).sd b ∧
  ∀ v H', But a H H' → H' a = some (wkO C dx sw (!b) (nextS (m.turn b s.2))) → ToldAt K H' v (m.turn b s.2) → Q v H'
abbrev nTu : List Str := ["self", "state", "turn", "extra"]
theorem scTu : FnScope nTu ["self", "state"] (defScope (cWk 2)) := ⟨rfl, rfl, rfl, by decide +kernel, rfl, by decide +kernel, by decide +kernel⟩
theorem ok_turnW (F : FnM K "_turn" "Walker._turn" (cWk 2) f fd) (WF : WkF K C) (SF : SwF K CS) (gO : mg "OTHER_DIRECTION" = some (.ref aO)) (hO : ∀ b, KDct K w aO (wayS b) (.str (wayS (!b)))) : FnOk P w K mg base CX0 1 f fd ["self", "state"] (spTurnW K w C CS) := by
  refine F.ok scTu (fun vs H Q E h => by obtain ⟨a, dx, sw, m, first, be, b, s, s0, rfl, _⟩ := h; rfl) (fun cdv A outer s0 H vs Q E hr h => ?_)
  obtain ⟨a, dx, sw, m, first, be, b, s, sx, rfl, ha, so, nsa, hs, ms, q⟩ := h
  have nd := scTu.nd
  have hu := hr.units
  suffices z : ∃ t, PSs (cxOf CX0 P w K mg base nTu "Walker._turn" (defScope (cWk 2)) f cdv A outer s0 H E).nox (defBody (cWk 2)) t ∧ t { nx := fun _ H' => Q .non H', rt := Q } (start nTu [.ref a, s.1]) H by
    obtain ⟨t, h1, h2⟩ := z
    exact ⟨t, h1.nox, h2⟩
  refine ⟨_, pss_cons (ps_asg (pe_ix (ix_dictA hu) (pe_fld (pe_fld (pv 0) rfl) rfl) (pe_tup (pa_cons (pe_fld (pv 0) rfl) (pa_cons (pv 1) pa_nil))) (fun _ _ => rfl)) (pg_name (i := 2) nd rfl (.inl rfl)))
    (pss_cons (ps_fld (pv 0) (pe_ix ix_kdict (pe_glob (by rfl) gO (v := .ref aO) rfl) (pe_fld (pv 0) rfl) (fun _ _ => rfl)) rfl)
    (pss_cons (ps_if (pt_cmpR op_isN (pv 2) pe_non (nomark _)) (pss_cons (ps_fld (pv 0) pe_non rfl) (pss_one (ps_ret pe_non))) pss_nil)
    (pss_cons (ps_asg (pv 2) (pg_tup (by rfl) (pgs_cons (pg_fldT (pv 0)) (pgs_cons (pg_name (i := 3) nd rfl (.inl rfl)) pgs_nil))))
    (pss_one (ps_ret (pe_tup (pa_cons (pv 3) pa_nil))))))), ?_⟩
  obtain ⟨dxs, fi, ds, dt, v, v2, hsw, hfi, T, _⟩ := so.ex
  obtain ⟨es, et, D1, D2, T1, T2⟩ := T.ex
  obtain ⟨tv, at1, tat⟩ := T2 b s.2 ms
  refine ⟨_, rfl, a, C, dx, _, .ref sw, rfl, ha, WF.cl, WF.sw, rfl, sw, CS, dxs, _, .ref dt, rfl, hsw, SF.cl, SF.tu, rfl, _, rfl, a, C, dx, _, .str (wayS b), rfl, ha, WF.cl, WF.di, rfl, _, rfl, (by show 2 ≤ sizeLine; rw [sizeLine_eq]; decide), fun p np => ?_⟩
  have s1 := same_upd (o := .tup [.str (wayS b), s.1]) np
  have hp : SqT K (upd H p (.tup [.str (wayS b), s.1])) p [.str (wayS b), s.1] := SqT.of upd_same
  generalize upd H p (.tup [.str (wayS b), s.1]) = H1 at s1 hp
  have o1 := hs.tups (same_tups s1)
  refine ⟨dt, et, kT b s.2, tv, rfl, daKeep D2 (same_tups s1) (same_rd s1 D2.at_), nkT hp o1, depT o1, at1, ?_⟩
  have a1 := s1 _ _ ha
  refine ⟨_, rfl, a, C, dx, _, .str (wayS b), rfl, a1, WF.cl, WF.di, rfl, aO, _, _, rfl, rfl, hO b, _, rfl, a, C, dx, _, rfl, a1, WF.cl, WF.di, (by show 3 < 1000; decide), ?_⟩
  refine at_new fun H2 e2 => ?_
  have a2 : H2 a = some (wkO C dx sw (!b) sx) := by
    rw [e2]
    exact upd_same
  have b12 : But a H1 H2 := by
    rw [e2]
    exact But.upd But.refl
  have b2 : But a H H2 := But.trans (But.same s1) b12
  clear e2
  have tat2 := tat.tups (But.tups b2 ha)
  refine ⟨_, rfl, rfl, _, rfl, ?_⟩
  cases tn : m.turn b s.2 with
  | none =>
    rw [tn] at tat2
    have e : tv = .non := tat2
    subst e
    refine iteT ⟨_, rfl, a, C, dx, _, rfl, a2, WF.cl, WF.st, (by show 3 < 1000; decide), ?_⟩
    refine at_new fun H3 e3 => ?_
    have a3 : H3 a = some (wkO C dx sw (!b) none) := by
      rw [e3]
      exact upd_same
    exact q .non H3 (by rw [e3]; exact But.upd b2) (by rw [tn]; exact a3) (by rw [tn]; exact rfl)
  | some y =>
    obtain ⟨s2, x2⟩ := y
    rw [tn] at tat2
    obtain ⟨p2, e, hp2⟩ := tat2
    subst e
    refine iteF ⟨_, rfl, p2, _, rfl, hp2, rfl, _, _, rfl, _, rfl, a, C, dx, _, rfl, a2, WF.cl, WF.st, (by show 3 < 1000; decide), ?_⟩
    obtain ⟨H3, e3⟩ : ∃ H3, H3 = upd H2 a (.ins C dx (putF "state" s2.1 [("_sweeps", .ref sw), ("direction", .str (wayS (!b))), ("state", optV sx)])) := ⟨_, rfl⟩
    rw [← e3]
    have a3 : H3 a = some (wkO C dx sw (!b) (some s2)) := by
      rw [e3]
      exact upd_same
    have b3 : But a H H3 := by
      rw [e3]
      exact But.upd b2
    clear e3
    refine ⟨_, _, rfl, rfl, _, rfl, (by show 1 ≤ sizeLine; rw [sizeLine_eq]; decide), fun p3 np3 => ?_⟩
    have s4 := same_upd (o := .tup [optV x2]) np3
    exact q (.ref p3) _ (But.trans b3 (But.same s4)) (by rw [tn]; exact s4 _ _ a3) (by rw [tn]; exact ⟨p3, rfl, SqT.of upd_same⟩)
def sweepM (m : Mac) (b : Bool) (s : Sy) (row : List Sy) : List Sy × Sy := (ordL b (walkW m b s (ordL b row)).1, (walkW m b s (ordL b row)).2)
def spSweep (K : PySem.W.Frag) (w : World) (C CS : Addr) : Sp := fun vs H Q _ => ∃ a dx sw m first be b s wd row, vs = [.ref a, .ref wd] ∧ H a = some (wkO C dx sw b (some s)) ∧ SwO K w CS H sw m first be ∧ sw ≠ a ∧ MacOk K H m ∧ SyOk K H s ∧ s.2 ∈ (m : Mac).sd b ∧
  SqT K H wd ((row : List Sy).map (·.1)) ∧ (∀ l ∈ row, SyOk K H l ∧ l.2 ∈ m.ld) ∧ row.length ≤ 1000 ∧
  ∀ p pr v H', But a H H' → H' a = some (wkO C dx sw (!b) (nextS (m.turn b (sweepM m b s row).2.2))) → SqT K H' p [.ref pr, v] → SqT K H' pr ((sweepM m b s row).1.map (·.1)) → ToldAt K H' v (m.turn b (sweepM m b s row).2.2) → Q (.ref p) H'
abbrev nSp : List Str := ["self", "word", "state", "written", "letter", "above", "row"]
theorem scSp : FnScope nSp ["self", "word"] (defScope (cWk 1)) := ⟨rfl, rfl, rfl, by decide +kernel, rfl, by decide +kernel, by decide +kernel⟩
theorem ok_sweep (F : FnM K "sweep" "Walker.sweep" (cWk 1) f fd) (WF : WkF K C) (SF : SwF K CS) (FO : FnT K "in_order" 4 fO fdO) (gI : mg "in_order" = some (.ref fO)) (GO : FnOk P w K mg base CX0 1 fO fdO ["direction", "columns"] (spOrd K))
    (MT : Meth K C "_turn" fT) (FT : FnM K "_turn" "Walker._turn" (cWk 2) fT fdT) (GT : FnOk P w K mg base CX0 1 fT fdT ["self", "state"] (spTurnW K w C CS)) : FnOk P w K mg base CX0 2 f fd ["self", "word"] (spSweep K w C CS) := by
  refine F.ok scSp (fun vs H Q E h => by obtain ⟨a, dx, sw, m, first, be, b, s, wd, row, rfl, _⟩ := h; rfl) (fun cdv A outer s0 H vs Q E hr h => ?_)
  obtain ⟨a, dx, sw, m, first, be, b, s, wd, row, rfl, ha, so, nsa, mac, hs, ms, hwd, hrow, few, q⟩ := h
  have nd := scSp.nd
  have hu := hr.units
  suffices z : ∃ t, PSs (cxOf CX0 P w K mg base nSp "Walker.sweep" (defScope (cWk 1)) f cdv A outer s0 H E).nox (defBody (cWk 1)) t ∧ t { nx := fun _ H' => Q .non H', rt := Q } (start nSp [.ref a, .ref wd]) H by
    obtain ⟨t, h1, h2⟩ := z
    exact ⟨t, h1.nox, h2⟩
  have bO : L2.Binds K fdO ["direction", "columns"] [] := FunD.bindsN FO fun _ _ _ _ _ _ us hl => match us, hl with | [_, _], _ => rfl
  have bT : L2.Binds K fdT ["self", "state"] [] := FunD.bindsN FT fun _ _ _ _ _ _ us hl => match us, hl with | [_, _], _ => rfl
  refine ⟨_, pss_cons (ps_asg (pe_fld (pv 0) rfl) (pg_name (i := 2) nd rfl (.inl rfl)))
    (pss_cons (ps_asg (pe_lst pa_nil) (pg_name (i := 3) nd rfl (.inl rfl)))
    (pss_cons (ps_for PassesOwn.never rfl (pi_tup (pe_call GO hr (by rfl) gI FO.kp bO .nil pass0 (pa_cons (pe_fld (pv 0) rfl) (pa_cons (pv 1) pa_nil)))) (pg_name (i := 4) nd rfl (.inl rfl))
      (pss_cons (ps_asg (pe_ix (ix_dictA hu) (pe_fld (pe_fld (pv 0) rfl) rfl) (pe_tup (pa_cons (pe_fld (pv 0) rfl) (pa_cons (pv 2) (pa_cons (pv 4) pa_nil)))) (fun _ _ => rfl)) (pg_tup (by rfl) (pgs_cons (pg_name (i := 2) nd rfl (.inl rfl)) (pgs_cons (pg_name (i := 5) nd rfl (.inl rfl)) pgs_nil))))
      (pss_one (ps_expr (pe_bm PySem.F.plainAttrs_list PySem.F.slot_list_append PySem.F.type_list_append mt_append (pv 3) (pa_cons (pv 5) pa_nil))))))
    (pss_cons (ps_asg (pe_call GO hr (by rfl) gI FO.kp bO .nil pass0 (pa_cons (pe_fld (pv 0) rfl) (pa_cons (pv 3) pa_nil))) (pg_name (i := 6) nd rfl (.inl rfl)))
    (pss_one (ps_ret (pe_tup (pa_cons (pv 6) (pa_cons (pe_meth (pv 0) WF.cl MT GT hr bT .nil pass0 (pa_cons (pv 2) pa_nil)) pa_nil)))))))), ?_⟩
  refine ⟨_, rfl, a, C, dx, _, s.1, rfl, ha, WF.cl, WF.st, rfl, (by show 0 ≤ sizeLine; exact Nat.zero_le _), fun D nD => ?_⟩
  have s1 := same_upd (o := .lst []) nD
  have hD1 : upd H D (.lst []) D = some (.lst []) := upd_same
  generalize upd H D (.lst []) = H1 at s1 hD1
  refine ⟨_, rfl, a, C, dx, _, .str (wayS b), rfl, s1 _ _ ha, WF.cl, WF.di, rfl, _, rfl, b, wd, _, rfl, .inr (SqT.tups (same_tups s1) hwd), fun p H2 s2 hp => ⟨p, rfl, ⟨_, hp⟩, ?_⟩⟩
  have hD2 := s2 _ _ hD1
  have s02 := same_trans s1 s2
  have hordL : ∀ l ∈ ordL b row, SyOk K H l ∧ l.2 ∈ m.ld := fun l hl => hrow l (ordL_mem.mp hl)
  have nDH : H D = none := nD
  refine for_it (walk_tup (K := K) (a := p) (xs := ordV b (row.map (·.1)))) (fun j σ H' => (∃ o4 o5, σ = [some (.ref a), some (.ref wd), some (walkW m b s ((ordL b row).take j)).2.1, some (.ref D), o4, o5, none]) ∧ Same H H' ∧ Tups H2 H' ∧ H' D = some (.lst ((walkW m b s ((ordL b row).take j)).1.map (·.1)))) ?_ ?_ ?_ ?_
  · exact ⟨⟨none, none, rfl⟩, s02, Tups.rfl', hD2⟩
  · rintro j σ H' hj ⟨_, _, tu, _⟩
    exact SqT.tups tu hp
  · rintro j y σ H5 H4 hj ⟨⟨o4, o5, rfl⟩, s4, tu4, hD4⟩ ⟨rfl, hx⟩
    rw [← ordL_map, List.getElem?_map] at hx
    obtain ⟨l, hl, rfl⟩ := Option.map_eq_some_iff.mp hx
    have hj : j < row.length := by
      have := (List.getElem?_eq_some_iff.mp hl).1
      rwa [ordL_len] at this
    obtain ⟨w1, w2, w3⟩ := walkW_ok mac ⟨hs, ms⟩ ((ordL b row).take j) fun x hx => hordL x (List.mem_of_mem_take hx)
    have wn : walkW m b s ((ordL b row).take (j + 1)) = stepW m b (walkW m b s ((ordL b row).take j)) l := by
      rw [List.take_add_one, hl, show (some l).toList = [l] from rfl, walkW_snoc]
    generalize walkW m b s ((ordL b row).take j) = W at w1 w2 w3 wn hD4
    have ml := hordL l (List.mem_of_getElem? hl)
    have so4 := so.same s4
    obtain ⟨dxs, fi, ds, dt, v, v2, hsw, hfi, T, _⟩ := so4.ex
    obtain ⟨es, et, D1, D2, T1, T2⟩ := T.ex
    obtain ⟨q3, at1, hq3⟩ := T1 b W.2.2 l.2 w2.2 ml.2
    have ha4 := s4 _ _ ha
    refine ⟨_, rfl, a, C, dx, _, .ref sw, rfl, ha4, WF.cl, WF.sw, rfl, sw, CS, dxs, _, .ref ds, rfl, hsw, SF.cl, SF.st, rfl, _, rfl, a, C, dx, _, .str (wayS b), rfl, ha4, WF.cl, WF.di, rfl, _, rfl, _, rfl, (by show 3 ≤ sizeLine; rw [sizeLine_eq]; decide), fun pk npk => ?_⟩
    have s6 := same_upd (o := .tup [.str (wayS b), W.2.1, l.1]) npk
    have hpk : SqT K (upd H4 pk (.tup [.str (wayS b), W.2.1, l.1])) pk [.str (wayS b), W.2.1, l.1] := SqT.of upd_same
    generalize upd H4 pk (.tup [.str (wayS b), W.2.1, l.1]) = H6 at s6 hpk
    have s46 := same_trans s4 s6
    have oW := w2.1.tups (same_tups s46)
    have oL := ml.1.tups (same_tups s46)
    have hD6 := s6 _ _ hD4
    refine ⟨ds, es, kS b W.2.2 l.2, .ref q3, rfl, daKeep D1 (same_tups s6) (same_rd s6 D1.at_), nkS hpk oW oL, depS oW oL, at1, q3, _, rfl, SqT.tups (same_tups s6) hq3, rfl, _, _, rfl, _, _, rfl, rfl, ?_⟩
    refine ⟨_, rfl, .inl ⟨rfl, _, SqL.of hD6⟩, _, rfl, D, _, _, rfl, rfl, hD6, ?_, ?_⟩
    · rw [List.length_map, w3, List.length_take, sizeLine_eq]
      omega
    · rw [wn]
      refine ⟨⟨_, _, rfl⟩, fun c o e => ?_, Tups.trans tu4 (Tups.trans (same_tups s6) (Tups.upd (lst_ntup hD6))), ?_⟩
      · rw [upd_ne (ne_of_none e nDH)]
        exact s46 _ _ e
      · rw [upd_same]
        simp [stepW]
  · rintro σ H4 ⟨⟨o4, o5, rfl⟩, s4, tu4, hD4⟩
    have full : (ordL b row).take (ordV b (row.map (·.1))).length = ordL b row := by
      rw [← ordL_map, List.length_map, List.take_length]
    rw [full] at hD4 ⊢
    obtain ⟨w1, w2, w3⟩ := walkW_ok mac ⟨hs, ms⟩ (ordL b row) hordL
    have ha4 := s4 _ _ ha
    refine ⟨_, rfl, a, C, dx, _, .str (wayS b), rfl, ha4, WF.cl, WF.di, rfl, _, rfl, b, D, _, rfl, .inl (SqL.of hD4), fun pr H6 s6 hpr => ?_⟩
    have s46 := same_trans s4 s6
    rw [← ordL_map] at hpr
    refine ⟨_, rfl, _, rfl, a, dx, _, rfl, s46 _ _ ha, rfl, _, rfl, ?_⟩
    refine ⟨a, dx, sw, m, first, be, b, (walkW m b s (ordL b row)).2, some s, rfl, s46 _ _ ha, so.same s46, nsa, w2.1.tups (same_tups s46), w2.2, fun v H7 b7 a7 t7 => ?_⟩
    refine ⟨(by show 2 ≤ sizeLine; rw [sizeLine_eq]; decide), fun p8 np8 => ?_⟩
    have s8 := same_upd (o := .tup [.ref pr, v]) np8
    have tu67 : Tups H6 H7 := But.tups b7 (s46 _ _ ha)
    refine q p8 pr v _ (But.trans (But.same s46) (But.trans b7 (But.same s8))) (s8 _ _ a7) (SqT.of upd_same) (SqT.tups (Tups.trans tu67 (same_tups s8)) hpr) ?_
    show ToldAt K _ v (m.turn b (walkW m b s (ordL b row)).2.2)
    cases tn : m.turn b (walkW m b s (ordL b row)).2.2 with
    | none =>
      rw [tn] at t7
      exact t7
    | some y =>
      rw [tn] at t7
      obtain ⟨q9, e9, h9⟩ := t7
      exact ⟨q9, e9, SqT.tups (same_tups s8) h9⟩
end
end K38

set_option Elab.async false
set_option linter.all false
set_option maxRecDepth 100000
set_option maxHeartbeats 4000000
namespace K38
open PySem PySem.Spec PyProof.Rows L2 Pen Tr AK LamX
section
variable {P : Program} {w : World} {K : PySem.W.Frag} {mg : Str → Option PySem.Value} {base : Heap} {f C CS CW CB CT fI fS fW : Addr} {fd fdI fdS fdW : FuncData} {H H' : Hp} {m : Mac} {first : List Sy} {be : Sy} {sw : Addr}
/-! ### the two errors -/
theorem sc_BadNumber : FnScope ["self", "what", "number"] ["self", "what", "number"] (defScope (inClass (top 7) 0)) := ⟨rfl, rfl, rfl, by decide +kernel, rfl, by decide +kernel, by decide +kernel⟩
theorem ok_BadNumber (F : FnM K "__init__" "BadNumber.__init__" (inClass (top 7) 0) f fd) (T : Xc K C) (no : ∀ y ∈ (["what", "number"] : List Str), PySem.W.findIn K (.ref C) y = some none) : FnOk P w K mg base CX0 1 f fd ["self", "what", "number"] (spI C ["what", "number"]) := by
  refine F.ok sc_BadNumber (fun vs H Q E h => spI_len h) (fun cdv A outer s H vs Q E hr h => ?_)
  obtain ⟨a, ws, rfl, hl, ha, k⟩ := h
  obtain ⟨v0, v1, rfl⟩ : ∃ v0 v1, ws = [v0, v1] := by
    match ws, hl with
    | [v0, v1], _ => exact ⟨v0, v1, rfl⟩
  suffices z : ∃ t, PSs (cxOf CX0 P w K mg base ["self", "what", "number"] "BadNumber.__init__" (defScope (inClass (top 7) 0)) f cdv A outer s H E).nox (defBody (inClass (top 7) 0)) t ∧ t { nx := fun _ H' => Q .non H', rt := Q } (start ["self", "what", "number"] [.ref a, v0, v1]) H by
    obtain ⟨t, h1, h2⟩ := z
    exact ⟨t, h1.nox, h2⟩
  refine ⟨_, pss_cons (ps_ost (pv 0) (pv 1)) (pss_one (ps_ost (pv 0) (pv 2))), ?_⟩
  refine ⟨_, rfl, _, rfl, a, C, rfl, T.o, no _ (by simp), .inl ⟨ha, fun d hd hne => ?_⟩⟩
  have X1 := xo_first (C := C) (f := "what") (v := v0) hd hne
  have B1 := but_first (a := a) (C := C) (f := "what") (v := v0) hd
  have e0 := X1
  obtain ⟨_, _, _⟩ := e0
  refine ⟨_, rfl, _, rfl, a, C, rfl, T.o, no _ (by simp), .inr ⟨d, _, (by exact upd_same), (by rw [upd_ne hne, upd_same]), (by show 1 ≤ 900; decide), ?_⟩⟩
  refine k _ d hd (by rw [upd_ne hne.symm]; exact upd_same) (by exact upd_same) (fun b o e nb => ?_)
  rw [upd_ne (ne_of_none e hd)]
  exact B1 b o e nb
theorem sc_TooMany : FnScope ["self", "what", "many", "limit"] ["self", "what", "many", "limit"] (defScope (inClass (top 10) 0)) := ⟨rfl, rfl, rfl, by decide +kernel, rfl, by decide +kernel, by decide +kernel⟩
theorem ok_TooMany (F : FnM K "__init__" "TooMany.__init__" (inClass (top 10) 0) f fd) (T : Xc K C) (no : ∀ y ∈ (["what", "many", "limit"] : List Str), PySem.W.findIn K (.ref C) y = some none) : FnOk P w K mg base CX0 1 f fd ["self", "what", "many", "limit"] (spI C ["what", "many", "limit"]) := by
  refine F.ok sc_TooMany (fun vs H Q E h => spI_len h) (fun cdv A outer s H vs Q E hr h => ?_)
  obtain ⟨a, ws, rfl, hl, ha, k⟩ := h
  obtain ⟨v0, v1, v2, rfl⟩ : ∃ v0 v1 v2, ws = [v0, v1, v2] := by
    match ws, hl with
    | [v0, v1, v2], _ => exact ⟨v0, v1, v2, rfl⟩
  suffices z : ∃ t, PSs (cxOf CX0 P w K mg base ["self", "what", "many", "limit"] "TooMany.__init__" (defScope (inClass (top 10) 0)) f cdv A outer s H E).nox (defBody (inClass (top 10) 0)) t ∧ t { nx := fun _ H' => Q .non H', rt := Q } (start ["self", "what", "many", "limit"] [.ref a, v0, v1, v2]) H by
    obtain ⟨t, h1, h2⟩ := z
    exact ⟨t, h1.nox, h2⟩
  refine ⟨_, pss_cons (ps_ost (pv 0) (pv 1)) (pss_cons (ps_ost (pv 0) (pv 2)) (pss_one (ps_ost (pv 0) (pv 3)))), ?_⟩
  refine ⟨_, rfl, _, rfl, a, C, rfl, T.o, no _ (by simp), .inl ⟨ha, fun d hd hne => ?_⟩⟩
  have X1 := xo_first (C := C) (f := "what") (v := v0) hd hne
  have B1 := but_first (a := a) (C := C) (f := "what") (v := v0) hd
  have e0 := X1
  obtain ⟨_, _, _⟩ := e0
  refine ⟨_, rfl, _, rfl, a, C, rfl, T.o, no _ (by simp), .inr ⟨d, _, (by exact upd_same), (by rw [upd_ne hne, upd_same]), (by show 1 ≤ 900; decide), ?_⟩⟩
  refine ⟨_, rfl, _, rfl, a, C, rfl, T.o, no _ (by simp), .inr ⟨d, _, (by rw [upd_ne hne.symm]; exact upd_same), (by exact upd_same), (by show 2 ≤ 900; decide), ?_⟩⟩
  refine k _ d hd (by rw [upd_ne hne.symm, upd_ne hne.symm]; exact upd_same) (by exact upd_same) (fun b o e nb => ?_)
  rw [upd_ne (ne_of_none e hd), upd_ne (ne_of_none e hd)]
  exact B1 b o e nb
/-! ### the walker -/
def spWk (K : PySem.W.Frag) (w : World) (C CS : Addr) : Sp := fun vs H Q _ => ∃ a dx sw m first be, vs = [.ref a, .ref sw] ∧ H a = some (.ins C dx []) ∧ SwO K w CS H sw m first be ∧ sw ≠ a ∧ ∀ H', But a H H' → H' a = some (wkO C dx sw false (some be)) → Q .non H'
theorem scWk : FnScope ["self", "sweeps"] ["self", "sweeps"] (defScope (cWk 0)) := ⟨rfl, rfl, rfl, by decide +kernel, rfl, by decide +kernel, by decide +kernel⟩
theorem ok_walker (F : FnM K "__init__" "Walker.__init__" (cWk 0) f fd) (WF : WkF K C) (SF : SwF K CS) : FnOk P w K mg base CX0 1 f fd ["self", "sweeps"] (spWk K w C CS) := by
  refine F.ok scWk (fun vs H Q E h => by obtain ⟨a, dx, sw, m, first, be, rfl, _⟩ := h; rfl) (fun cdv A outer s0 H vs Q E hr h => ?_)
  obtain ⟨a, dx, sw, m, first, be, rfl, ha, so, nsa, q⟩ := h
  suffices z : ∃ t, PSs (cxOf CX0 P w K mg base ["self", "sweeps"] "Walker.__init__" (defScope (cWk 0)) f cdv A outer s0 H E).nox (defBody (cWk 0)) t ∧ t { nx := fun _ H' => Q .non H', rt := Q } (start ["self", "sweeps"] [.ref a, .ref sw]) H by
    obtain ⟨t, h1, h2⟩ := z
    exact ⟨t, h1.nox, h2⟩
  refine ⟨_, pss_cons (ps_fld (pv 0) (pv 1) rfl) (pss_cons (ps_fld (pv 0) pe_str rfl) (pss_one (ps_fld (pv 0) (pe_fld (pv 1) rfl) rfl))), ?_⟩
  obtain ⟨dxs, fi, ds, dt, v, v2, hsw, hfi, T, _⟩ := so.ex
  refine ⟨_, rfl, _, rfl, a, C, dx, _, rfl, ha, WF.cl, WF.sw, (by show 0 < 1000; decide), ?_⟩
  refine ⟨_, rfl, a, C, dx, _, rfl, upd_same, WF.cl, WF.di, (by show 1 < 1000; decide), ?_⟩
  refine ⟨_, rfl, sw, CS, dxs, _, be.1, rfl, (by rw [upd_ne nsa, upd_ne nsa]; exact hsw), SF.cl, SF.be, rfl, _, rfl, a, C, dx, _, rfl, upd_same, WF.cl, WF.st, (by show 2 < 1000; decide), ?_⟩
  exact q _ (But.upd (But.upd (But.upd But.refl))) upd_same
/-! ### the rows -/
def extR : Option (Sy × Option Sy) → List Sy
  | some (_, some l) => [l]
  | _ => []
abbrev RunS := Bool × Option Sy × List (List Sy)
def lastR (r : List (List Sy)) : List Sy := r.getLast?.getD []
def rsStep (m : Mac) (x : RunS) : RunS := match x.2.1 with
  | none => x
  | some s => (!x.1, nextS (m.turn x.1 (sweepM m x.1 s (lastR x.2.2)).2.2), x.2.2 ++ [(sweepM m x.1 s (lastR x.2.2)).1 ++ extR (m.turn x.1 (sweepM m x.1 s (lastR x.2.2)).2.2)])
def rsAt (m : Mac) (first : List Sy) (be : Sy) : Nat → RunS
  | 0 => (false, some be, [first])
  | k + 1 => rsStep m (rsAt m first be k)
theorem rs_end {k : Nat} (h : (rsAt m first be k).2.1 = none) : ∀ n, k ≤ n → rsAt m first be n = rsAt m first be k := fun n hn => by
  induction n with
  | zero =>
    rw [show k = 0 by omega]
  | succ n ih =>
    by_cases e : k = n + 1
    · rw [e]
    · have := ih (by omega)
      show rsStep m (rsAt m first be n) = _
      rw [this]
      unfold rsStep
      rw [h]
/-- what is known of a run under way -/
structure RunOk (K : PySem.W.Frag) (H : Hp) (m : Mac) (x : RunS) (k : Nat) : Prop where
  st : ∀ s, x.2.1 = some s → SyOk K H s ∧ s.2 ∈ m.sd x.1
  rows : ∀ r ∈ x.2.2, ∀ l ∈ r, SyOk K H l ∧ l.2 ∈ m.ld
  ne : x.2.2 ≠ []
  len : ∀ r ∈ x.2.2, r.length ≤ 100 + k
theorem sweepM_ok (o : MacOk K H m) {b : Bool} {s : Sy} (hs : SyOk K H s ∧ s.2 ∈ m.sd b) {row : List Sy} (h : ∀ l ∈ row, SyOk K H l ∧ l.2 ∈ m.ld) :
    (∀ l ∈ (sweepM m b s row).1, SyOk K H l ∧ l.2 ∈ m.ld) ∧ (SyOk K H (sweepM m b s row).2 ∧ (sweepM m b s row).2.2 ∈ m.sd b) ∧ (sweepM m b s row).1.length = row.length := by
  obtain ⟨w1, w2, w3⟩ := walkW_ok o hs (ordL b row) fun l hl => h l (ordL_mem.mp hl)
  refine ⟨fun l hl => w1 l (ordL_mem.mp hl), w2, ?_⟩
  show (ordL b _).length = _
  rw [ordL_len, w3, ordL_len]
theorem lastR_mem {r : List (List Sy)} (h : r ≠ []) : lastR r ∈ r := by
  unfold lastR
  rw [List.getLast?_eq_some_getLast h]
  exact List.getLast_mem h
theorem rsStep_ok (o : MacOk K H m) {x : RunS} {k : Nat} (r : RunOk K H m x k) : RunOk K H m (rsStep m x) (k + 1) := by
  obtain ⟨b, sx, rows⟩ := x
  cases sx with
  | none => exact ⟨r.st, r.rows, r.ne, fun y hy => Nat.le_trans (r.len y hy) (by omega)⟩
  | some s =>
    have hl := lastR_mem r.ne
    obtain ⟨w1, w2, w3⟩ := sweepM_ok o (r.st s rfl) (r.rows _ hl)
    have hx : ∀ l ∈ extR (m.turn b (sweepM m b s (lastR rows)).2.2), SyOk K H l ∧ l.2 ∈ m.ld := fun l h => by
      cases tn : m.turn b (sweepM m b s (lastR rows)).2.2 with
      | none =>
        rw [tn] at h
        exact nomatch h
      | some y =>
        rw [tn] at h
        obtain ⟨s2, x2⟩ := y
        cases x2 with
        | none => exact nomatch h
        | some l2 =>
          obtain rfl := List.mem_singleton.mp h
          obtain ⟨_, _, h3⟩ := o.tu b _ s2 (some l) w2.2 tn
          exact (h3 l rfl).2
    have hxl : (extR (m.turn b (sweepM m b s (lastR rows)).2.2)).length ≤ 1 := by
      unfold extR
      split <;> simp
    refine ⟨fun s2 e => ?_, fun y hy l hl2 => ?_, by simp [rsStep], fun y hy => ?_⟩
    · have e : nextS (m.turn b (sweepM m b s (lastR rows)).2.2) = some s2 := e
      cases tn : m.turn b (sweepM m b s (lastR rows)).2.2 with
      | none =>
        rw [tn] at e
        cases e
      | some y =>
        rw [tn] at e
        obtain ⟨s3, x2⟩ := y
        cases e
        obtain ⟨h1, h2, _⟩ := o.tu b _ _ x2 w2.2 tn
        exact ⟨h1, h2⟩
    · rcases List.mem_append.mp hy with hy | hy
      · exact r.rows y hy l hl2
      · obtain rfl := List.mem_singleton.mp hy
        exact (List.mem_append.mp hl2).elim (w1 l) (hx l)
    · rcases List.mem_append.mp hy with hy | hy
      · exact Nat.le_trans (r.len y hy) (by omega)
      · obtain rfl := List.mem_singleton.mp hy
        have h1 : (lastR rows).length ≤ 100 + k := r.len _ hl
        have w3 : (sweepM m b s (lastR rows)).1.length = (lastR rows).length := w3
        show ((sweepM m b s (lastR rows)).1 ++ extR (m.turn b (sweepM m b s (lastR rows)).2.2)).length ≤ _
        rw [List.length_append, w3]
        omega
theorem rsAt_ok (o : MacOk K H m) (hf : ∀ l ∈ first, SyOk K H l ∧ l.2 ∈ m.ld) (lf : first.length ≤ 100) (hb : SyOk K H be ∧ be.2 ∈ m.sd false) : ∀ k, RunOk K H m (rsAt m first be k) k
  | 0 => ⟨fun s e => by cases e; exact hb, fun r hr l hl => by
      obtain rfl := List.mem_singleton.mp hr
      exact hf l hl, by simp [rsAt], fun r hr => by
      obtain rfl := List.mem_singleton.mp hr
      omega⟩
  | k + 1 => rsStep_ok o (rsAt_ok o hf lf hb k)
theorem rs_len : ∀ {k : Nat} {s : Sy}, (rsAt m first be k).2.1 = some s → (rsAt m first be (k + 1)).2.2.length = (rsAt m first be k).2.2.length + 1 := fun {k s} h => by
  show (rsStep m (rsAt m first be k)).2.2.length = _
  unfold rsStep
  rw [h]
  simp
/-- rows, each a tuple -/
def RowsV (K : PySem.W.Frag) (H : Hp) (rows : List (List Sy)) (xs : List V) : Prop := Paired (fun (r : List Sy) (v : V) => ∃ q, v = .ref q ∧ SqT K H q (r.map (·.1))) rows xs
theorem RowsV.tups {rows : List (List Sy)} {xs : List V} (h : RowsV K H rows xs) (t : Tups H H') : RowsV K H' rows xs := Paired.mono (fun a b ⟨q, e, z⟩ => ⟨q, e, SqT.tups t z⟩) h
theorem RowsV.last {rows : List (List Sy)} {xs : List V} (h : RowsV K H rows xs) (ne : rows ≠ []) : ∃ ys q, xs = ys ++ [.ref q] ∧ SqT K H q ((lastR rows).map (·.1)) := by
  induction h with
  | nil => exact absurd rfl ne
  | @cons r v l1 l2 h1 h2 ih =>
    by_cases e : l1 = []
    · subst e
      cases h2
      obtain ⟨q, rfl, hq⟩ := h1
      exact ⟨[], q, rfl, hq⟩
    · obtain ⟨ys, q, rfl, hq⟩ := ih e
      refine ⟨v :: ys, q, rfl, ?_⟩
      have : lastR (r :: l1) = lastR l1 := by
        unfold lastR
        rw [List.getLast?_cons, List.getLast?_eq_some_getLast e]
        rfl
      rw [this]
      exact hq
def spRun (K : PySem.W.Frag) (w : World) (CS CB CT : Addr) : Sp := fun vs H Q E => (∃ sw m first be, ∃ n : Nat, vs = [.ref sw, .int n] ∧ 1 ≤ n ∧ n ≤ 900 ∧ SwO K w CS H sw m first be ∧ MacOk K H m ∧ (∀ l ∈ (first : List Sy), SyOk K H l ∧ l.2 ∈ (m : Mac).ld) ∧ first.length ≤ 100 ∧ (SyOk K H be ∧ be.2 ∈ m.sd false) ∧
    ((rsAt m first be (n - 1)).2.1 = none → ∀ p H' xs, Same H H' → SqT K H' p xs → RowsV K H' (rsAt m first be (n - 1)).2.2 xs → Q (.ref p) H') ∧
    ((rsAt m first be (n - 1)).2.1 ≠ none → ∀ dd H', Same H H' → H' dd = some (.xd [("limit", .int n), ("many", .int (n + 1)), ("what", .str "rows")]) → E (.ref CT) (some dd) H')) ∨
  (∃ sw v d, vs = [.ref sw, v] ∧ Dp K H v d ∧ (isIntD d = false ∨ ∃ i : Int, d = .int i ∧ i < 1) ∧ ∀ dd H', Same H H' → H' dd = some (.xd [("number", v), ("what", .str "most")]) → E (.ref CB) (some dd) H')
abbrev nRun : List Str := ["sweeps", "most", "walker", "rows", "written", "told"]
theorem scRun : FnScope nRun ["sweeps", "most"] (defScope (top 29)) := ⟨rfl, rfl, rfl, by decide +kernel, rfl, by decide +kernel, by decide +kernel⟩
theorem ok_run (F : FnT K "run" 29 f fd) (TX : Txt mg) (WF : WkF K CW) (SF : SwF K CS) (FI : FnT K "is_integer" 12 fI fdI) (gI : mg "is_integer" = some (.ref fI)) (EB : Er P w K mg base "BadNumber" CB ["what", "number"]) (ET : Er P w K mg base "TooMany" CT ["what", "many", "limit"])
    (FW : FnM K "__init__" "Walker.__init__" (cWk 0) fW fdW) (MW : Mk K CW fW) (gW : mg "Walker" = some (.ref CW)) (MS : Meth K CW "sweep" fS) (FS : FnM K "sweep" "Walker.sweep" (cWk 1) fS fdS) (GS : FnOk P w K mg base CX0 2 fS fdS ["self", "word"] (spSweep K w CW CS)) : FnOk P w K mg base (L2N.CX P w) 3 f fd ["sweeps", "most"] (spRun K w CS CB CT) := by
  refine F.ok scRun (fun vs H Q E h => by obtain ⟨sw, m, first, be, n, rfl, _⟩ | ⟨sw, v, d, rfl, _⟩ := h <;> rfl) (fun cdv A outer s0 H vs Q E hr h => ?_)
  obtain ⟨a1, b1, evs⟩ : ∃ a1 b1, vs = [a1, b1] := by
    obtain ⟨sw, m, first, be, n, rfl, _⟩ | ⟨sw, v, d, rfl, _⟩ := h <;> exact ⟨_, _, rfl⟩
  subst evs
  have nd := scRun.nd
  have hu := hr.units
  have GI := ok_int (P := P) (w := w) (mg := mg) (base := base) FI TX
  have GW := ok_walker (P := P) (w := w) (mg := mg) (base := base) FW WF SF
  have bI : L2.Binds K fdI ["value"] [] := FunD.bindsN FI fun _ _ _ _ _ _ us hl => match us, hl with | [_], _ => rfl
  have bW : L2.Binds K fdW ["self", "sweeps"] [] := FunD.bindsN FW fun _ _ _ _ _ _ us hl => match us, hl with | [_, _], _ => rfl
  have bS : L2.Binds K fdS ["self", "word"] [] := FunD.bindsN FS fun _ _ _ _ _ _ us hl => match us, hl with | [_, _], _ => rfl
  refine ⟨_, pss_cons (ps_if (PW.pt (pw_or (pt_not (pt_val (pe_call GI (hr.mono (by decide)) (by rfl) gI FI.kp bI .nil pass0 (pa_cons (pv 1) pa_nil)))) (pw_or1 (pt_cmpR op_lt (pv 1) pe_int (nomark _)))))
      (pss_one (L2N.ps_raise rfl (L2N.takes_of rfl rfl rfl rfl) (Hs.pmk_erN EB hr (by rfl) (pa_cons pe_str (pa_cons (pv 1) pa_nil))))) pss_nil)
    (pss_cons (ps_asg (pe_make MW GW (hr.mono (by decide)) (by rfl) gW bW .nil pass0 (pa_cons (pv 0) pa_nil)) (pg_name (i := 2) nd rfl (.inl rfl)))
    (pss_cons (ps_asg (pe_lst (pa_cons (pe_fld (pv 0) rfl) pa_nil)) (pg_name (i := 3) nd rfl (.inl rfl)))
    (pss_cons (ps_while (passes_of rfl) (pt_cmpR op_notN (pe_fld (pv 2) rfl) pe_non (nomark _))
      (pss_cons (ps_if (pt_cmpR op_eq (pe_callB call_len_seq (by rfl) TX.len PySem.boot_len (pa_cons (pv 3) pa_nil)) (pv 1) (nomark _))
        (pss_one (L2N.ps_raise rfl (L2N.takes_of rfl rfl rfl rfl) (Hs.pmk_erN ET hr (by rfl) (pa_cons pe_str (pa_cons (pe_op op_add (pv 1) pe_int) (pa_cons (pv 1) pa_nil)))))) pss_nil)
      (pss_cons (ps_asg (pe_meth (pv 2) WF.cl MS GS hr bS .nil pass0 (pa_cons (pe_ix ix_list (pv 3) (pe_un un_neg pe_int) (fun _ _ => rfl)) pa_nil)) (pg_tup (by rfl) (pgs_cons (pg_name (i := 4) nd rfl (.inl rfl)) (pgs_cons (pg_name (i := 5) nd rfl (.inl rfl)) pgs_nil))))
      (pss_one (ps_expr (pe_bm PySem.F.plainAttrs_list PySem.F.slot_list_append PySem.F.type_list_append mt_append (pv 3) (pa_cons
        (pe_ifExp (PW.pt (pw_or (pt_cmpR op_isN (pv 5) pe_non (nomark _)) (pw_or1 (pt_cmpR op_isN (pe_ix ix_tup (pv 5) pe_int (fun _ _ => rfl)) pe_non (nomark _))))) (pv 4) (pe_op op_catA (pv 4) (pv 5))) pa_nil)))))))
    (pss_one (ps_ret (pe_callTy call_tupR (by rfl) TX.tuple (by decide +kernel) (pa_cons (pv 3) pa_nil))))))), ?_⟩
  rcases h with ⟨sw, m, first, be, n, e, n1, n9, so, mac, hf, lf, hbe, q1, q2⟩ | ⟨sw, v, d, e, hv, bad, q⟩
  · obtain ⟨rfl, rfl⟩ : a1 = .ref sw ∧ b1 = .int n := by
      cases e
      exact ⟨rfl, rfl⟩
    refine ⟨_, rfl, .int n, .int n, rfl, .int _, isIntD (.int n), rfl, iteF ⟨_, rfl, n, 1, rfl, rfl, _, rfl, ?_⟩⟩
    rw [decide_eq_false (show ¬ (n : Int) < 1 by omega)]
    refine iteF ⟨_, rfl, fun wk dxw nwk ndxw nne => ?_⟩
    obtain ⟨dxs, fi, ds, dt, v, v2, hsw, hfi, T, _⟩ := so.ex
    have s1 : Same H (upd (upd H dxw (.own wk)) wk (.ins CW dxw [])) := ins_new nwk ndxw
    have nsw : sw ≠ wk := ne_of_none hsw nwk
    refine ⟨wk, dxw, sw, m, first, be, rfl, upd_same, so.same s1, nsw, fun H2 b2 a2 => ⟨rfl, ?_⟩⟩
    have s2 : Same H H2 := fun b o eb => b2 _ _ (s1 _ _ eb) (ne_of_none eb nwk)
    refine ⟨_, rfl, sw, CS, dxs, _, .ref fi, rfl, s2 _ _ hsw, SF.cl, SF.fi, rfl, (by show 1 ≤ sizeLine; rw [sizeLine_eq]; decide), fun D nD => ?_⟩
    have s3 := same_trans s2 (same_upd (o := .lst [.ref fi]) nD)
    have nDH : H D = none := by
      cases e : H D with
      | none => rfl
      | some o =>
        rw [s2 _ _ e] at nD
        cases nD
    have a3 : upd H2 D (.lst [.ref fi]) wk = some (wkO CW dxw sw false (some be)) := by
      rw [upd_ne (ne_of_none a2 nD)]
      exact a2
    refine ⟨fun c σ H' => ∃ k, c = n - k ∧ k + 1 ≤ n ∧ (∃ o4 o5, σ = [some (.ref sw), some (.int n), some (.ref wk), some (.ref D), o4, o5]) ∧ Same H H' ∧ H' wk = some (wkO CW dxw sw (rsAt m first be k).1 (rsAt m first be k).2.1) ∧ (∃ xs, H' D = some (.lst xs) ∧ RowsV K H' (rsAt m first be k).2.2 xs) ∧ (rsAt m first be k).2.2.length = k + 1,
      ⟨_, 0, rfl, by omega, ⟨none, none, rfl⟩, s3, a3, ⟨_, upd_same, .cons ⟨fi, rfl, SqT.tups (same_tups s3) hfi⟩ .nil⟩, rfl⟩, ?_⟩
    rintro c σ H' ⟨k, rfl, kn, ⟨o4, o5, rfl⟩, s4, a4, ⟨xs, hD, hR⟩, lk⟩
    have ok := rsAt_ok mac hf lf hbe k
    have nxt : rsAt m first be (k + 1) = rsStep m (rsAt m first be k) := rfl
    have ended : (rsAt m first be k).2.1 = none → rsAt m first be (n - 1) = rsAt m first be k := fun z => rs_end z (n - 1) (by omega)
    have atend : k + 1 = n → rsAt m first be (n - 1) = rsAt m first be k := fun z => by rw [show n - 1 = k by omega]
    generalize rsAt m first be k = X at ok nxt ended atend a4 hR lk
    obtain ⟨b, sx, rows⟩ := X
    have xl : xs.length = k + 1 := by rw [← lk]; exact (Paired.length hR).symm
    refine ⟨_, rfl, wk, CW, dxw, _, optV sx, rfl, a4, WF.cl, WF.st, rfl, rfl, _, rfl, ?_⟩
    cases sx with
    | none =>
      refine iteF ⟨_, rfl, D, xs, rfl, .inl (SqL.of hD), fun p H6 s6 hp => ?_⟩
      have e := ended rfl
      exact q1 (by rw [e]) p H6 xs (same_trans s4 s6) hp (by rw [e]; exact hR.tups (same_tups s6))
    | some s =>
      obtain ⟨os, ms⟩ := ok.st s rfl
      have nn : (!decide (optV (some s) = V.non)) = true := by
        show (!decide (s.1 = V.non)) = true
        rw [decide_eq_false os.nn]
        rfl
      rw [nn]
      refine iteT ⟨fun σ' H' => ∃ m', m' < n - k ∧ ∃ k, m' = n - k ∧ k + 1 ≤ n ∧ (∃ o4 o5, σ' = [some (.ref sw), some (.int n), some (.ref wk), some (.ref D), o4, o5]) ∧ Same H H' ∧ H' wk = some (wkO CW dxw sw (rsAt m first be k).1 (rsAt m first be k).2.1) ∧ (∃ xs, H' D = some (.lst xs) ∧ RowsV K H' (rsAt m first be k).2.2 xs) ∧ (rsAt m first be k).2.2.length = k + 1, fun σ' H' h => h, ?_⟩
      refine ⟨_, rfl, D, xs, rfl, .inl (SqL.of hD), _, rfl, rfl, _, rfl, ?_⟩
      by_cases last : k + 1 = n
      · rw [decide_eq_true (show V.int xs.length = V.int n by rw [xl, last])]
        refine iteT ⟨_, rfl, n, 1, rfl, rfl, _, rfl, raise_sp rfl (by decide) fun dd hd H6 s6 e6 => ?_⟩
        exact q2 (by rw [atend last]; exact fun z => nomatch z) dd H6 (same_trans s4 s6) e6
      · rw [decide_eq_false (show ¬ V.int xs.length = V.int n by rw [xl]; intro z; injection z with z; omega)]
        refine iteF ?_
        obtain ⟨ys, r1, rfl, hr1⟩ := hR.last ok.ne
        have hl := lastR_mem ok.ne
        refine ⟨_, rfl, wk, dxw, _, rfl, a4, rfl, _, rfl, 1, rfl, D, _, _, .ref r1, rfl, rfl, SqL.of hD, atI_last _ _, ?_⟩
        refine ⟨wk, dxw, sw, m, first, be, b, s, r1, lastR rows, rfl, a4, so.same s4, nsw, mac.tups (same_tups s4), os.tups (same_tups s4), ms, hr1, fun l hl2 => ⟨(ok.rows _ hl l hl2).1.tups (same_tups s4), (ok.rows _ hl l hl2).2⟩, Nat.le_trans (ok.len _ hl) (by omega), fun p pr v H6 b6 a6 hp hpr hv => ?_⟩
        refine ⟨p, _, rfl, hp, rfl, _, _, rfl, _, _, rfl, rfl, ?_⟩
        have nDw : D ≠ wk := ne_of hD a4 fun z => nomatch z
        have hD6 := b6 _ _ hD nDw
        have tu6 := But.tups b6 a4
        have hwkH : H wk = none := nwk
        have s6 : Same H H6 := fun c o e => b6 _ _ (s4 _ _ e) (ne_of_none e hwkH)
        refine ⟨_, rfl, .inl ⟨rfl, _, SqL.of hD6⟩, ?_⟩
        -- what is left once the new row is there
        have fin : ∀ qq H7, Same H6 H7 → SqT K H7 qq (((sweepM m b s (lastR rows)).1 ++ extR (m.turn b (sweepM m b s (lastR rows)).2.2)).map (·.1)) → ∃ m', m' < n - k ∧ ∃ k, m' = n - k ∧ k + 1 ≤ n ∧ (∃ p4 p5, [some (.ref sw), some (.int n), some (.ref wk), some (.ref D), some (.ref pr), some v] = [some (.ref sw), some (.int n), some (.ref wk), some (.ref D), p4, p5]) ∧ Same H (upd H7 D (.lst ((ys ++ [.ref r1]) ++ [.ref qq]))) ∧
            (upd H7 D (.lst ((ys ++ [.ref r1]) ++ [.ref qq]))) wk = some (wkO CW dxw sw (rsAt m first be k).1 (rsAt m first be k).2.1) ∧ (∃ xs, (upd H7 D (.lst ((ys ++ [.ref r1]) ++ [.ref qq]))) D = some (.lst xs) ∧ RowsV K (upd H7 D (.lst ((ys ++ [.ref r1]) ++ [.ref qq]))) (rsAt m first be k).2.2 xs) ∧ (rsAt m first be k).2.2.length = k + 1 := by
          intro qq H7 s7 hqq
          have hD7 := s7 _ _ hD6
          have tu7 : Tups H7 (upd H7 D (.lst ((ys ++ [.ref r1]) ++ [.ref qq]))) := Tups.upd (lst_ntup hD7)
          have st : rsStep m (b, some s, rows) = (!b, nextS (m.turn b (sweepM m b s (lastR rows)).2.2), rows ++ [(sweepM m b s (lastR rows)).1 ++ extR (m.turn b (sweepM m b s (lastR rows)).2.2)]) := rfl
          refine ⟨n - (k + 1), by omega, k + 1, rfl, by omega, ⟨_, _, rfl⟩, fun c o e => ?_, ?_, ?_, ?_⟩
          · rw [upd_ne (ne_of_none e nDH)]
            exact s7 _ _ (s6 _ _ e)
          · rw [nxt, st, upd_ne (Ne.symm nDw)]
            exact s7 _ _ a6
          · refine ⟨_, upd_same, ?_⟩
            rw [nxt, st]
            exact paired_app (hR.tups (Tups.trans tu6 (Tups.trans (same_tups s7) tu7))) (.cons ⟨qq, rfl, SqT.tups tu7 hqq⟩ .nil)
          · rw [nxt, st]
            have lk : rows.length = k + 1 := lk
            rw [List.length_append, lk]
            rfl
        have len6 : (ys ++ [V.ref r1]).length < sizeLine := by
          rw [xl, sizeLine_eq]
          omega
        refine ⟨_, rfl, rfl, _, rfl, ?_⟩
        cases tn : m.turn b (sweepM m b s (lastR rows)).2.2 with
        | none =>
          rw [tn] at hv fin
          have e : v = .non := hv
          subst e
          refine iteT (iteT ⟨_, rfl, D, _, .ref pr, rfl, rfl, hD6, len6, fin pr H6 same_refl ?_⟩)
          rw [show extR none = [] from rfl, List.append_nil]
          exact hpr
        | some y =>
          obtain ⟨s2, x2⟩ := y
          rw [tn] at hv fin
          obtain ⟨q2, rfl, hq2⟩ := hv
          refine iteF ⟨_, rfl, q2, _, 0, _, rfl, rfl, hq2, rfl, rfl, _, rfl, ?_⟩
          cases x2 with
          | none =>
            refine iteT ⟨_, rfl, D, _, .ref pr, rfl, rfl, hD6, len6, fin pr H6 same_refl ?_⟩
            rw [show extR (some (s2, none)) = [] from rfl, List.append_nil]
            exact hpr
          | some l =>
            obtain ⟨w1, w2, w3⟩ := sweepM_ok mac ⟨os, ms⟩ (ok.rows _ hl)
            obtain ⟨_, _, h3⟩ := mac.tu b _ s2 (some l) w2.2 tn
            have nl : decide (optV (some l) = V.non) = false := decide_eq_false (h3 l rfl).2.1.nn
            rw [nl]
            refine iteF ?_
            have e9 : extR (some (s2, some l)) = [l] := rfl
            rw [e9] at fin
            have lo : (sweepM m b s (lastR rows)).1.length ≤ 100 + k := by
              rw [w3]
              exact ok.len _ hl
            refine ⟨_, rfl, _, rfl, pr, q2, _, _, rfl, rfl, hpr, hq2, ?_, fun z => ?_, fun _ z => (nomatch z), fun _ _ p7 np7 => ?_⟩
            · rw [List.length_map, sizeLine_eq, List.length_singleton]
              omega
            · refine ⟨D, _, .ref q2, rfl, rfl, hD6, len6, fin q2 H6 same_refl ?_⟩
              rw [List.map_append, z]
              exact hq2
            · have s7 := same_upd (o := .tup ((sweepM m b s (lastR rows)).1.map (·.1) ++ [optV (some l)])) np7
              refine ⟨D, _, .ref p7, rfl, rfl, s7 _ _ hD6, len6, fin p7 _ s7 ?_⟩
              rw [List.map_append]
              exact SqT.of upd_same
  · obtain ⟨rfl, rfl⟩ : a1 = .ref sw ∧ b1 = v := by
      cases e
      exact ⟨rfl, rfl⟩
    refine ⟨_, rfl, b1, d, rfl, hv, isIntD d, rfl, ?_⟩
    cases hi : isIntD d with
    | false =>
      refine iteT (iteT ⟨_, rfl, raise_sp rfl (by decide) fun dd hd H2 s2 e2 => ?_⟩)
      exact q dd H2 s2 e2
    | true =>
      obtain ⟨i, rfl, lt⟩ : ∃ i : Int, d = .int i ∧ i < 1 := by
        rcases bad with bad | bad
        · rw [hi] at bad
          cases bad
        · exact bad
      cases hv
      refine iteF ⟨_, rfl, i, 1, rfl, rfl, _, rfl, ?_⟩
      rw [decide_eq_true lt]
      refine iteT ⟨_, rfl, raise_sp rfl (by decide) fun dd hd H2 s2 e2 => ?_⟩
      exact q dd H2 s2 e2
end
end K38

set_option Elab.async false
set_option linter.all false
set_option maxRecDepth 100000
set_option maxHeartbeats 4000000
namespace K38
open PySem PySem.Spec PyProof.Rows L2 Pen Tr AK LamX
def xSy : Sy := (.str "x", xD)
def xRow (n : Nat) : List Sy := List.replicate n xSy
def syD : PyData → Sy
  | .str s => (.str s, .str s)
  | _ => xSy
section
variable {K : PySem.W.Frag} {w : World} {H H' : Hp}
theorem xOk : SyOk K H xSy := ⟨.str _, x_menu⟩
theorem StepE.nk {x : Eh} (h : StepE K H x) : NK K H x.1 x.2.1 ∧ x.1.depth ≤ 8 := by
  obtain ⟨q, p, b, s, l, s2, l2, rfl, h1, h2, h3, h4, h5, h6⟩ := h
  exact ⟨nkS h1 h3 h4, depS h3 h4⟩
theorem TurnE.nk {x : Eh} (h : TurnE K H x) : NK K H x.1 x.2.1 ∧ x.1.depth ≤ 8 := by
  obtain ⟨q, b, s, v, y, rfl, h1, h2, h3, h4⟩ := h
  exact ⟨nkT h1 h2, depT h2⟩
theorem putE_all {Q : Eh → Prop} {es : List Eh} {k : NestedKey} {u v : V} (old : ∀ x ∈ es, Q x) (repl : ∀ x ∈ es, x.1 = k → Q (x.1, x.2.1, v)) (new : Q (k, u, v)) : ∀ x ∈ putE es k u v, Q x := fun x hx => by
  cases e : atK es k with
  | none =>
    rw [putE_new e] at hx
    rcases List.mem_append.mp hx with hx | hx
    · exact old x hx
    · obtain rfl := List.mem_singleton.mp hx
      exact new
  | some y =>
    rw [putE_old e] at hx
    obtain ⟨z, hz, rfl⟩ := List.mem_map.mp hx
    by_cases c : z.1 = k
    · rw [if_pos c]
      exact repl z hz c
    · rw [if_neg c]
      exact old z hz
theorem kS_way {b b' : Bool} {d e d' e' : PyData} (h : kS b d e = kS b' d' e') : b = b' := by
  unfold kS at h
  injection h with h
  injection h with h _
  injection h with h
  cases b <;> cases b' <;> first | rfl | exact absurd h (by decide)
theorem kT_way {b b' : Bool} {d d' : PyData} (h : kT b d = kT b' d') : b = b' := by
  unfold kT at h
  injection h with h
  injection h with h _
  injection h with h
  cases b <;> cases b' <;> first | rfl | exact absurd h (by decide)
end
def isOf (ls : List Nat) : List Int := ls.map fun n => ((n : Nat) : Int)
theorem isOf_at {ls : List Nat} {j : Nat} : (isOf ls).getD j 0 = ((ls.getD j 0 : Nat) : Int) := by
  unfold isOf
  rw [List.getD_eq_getElem?_getD, List.getD_eq_getElem?_getD, List.getElem?_map]
  cases ls[j]? <;> rfl
theorem isOf_len {ls : List Nat} : (isOf ls).length = ls.length := List.length_map ..
theorem flat_rep {α : Type} (a : α) : ∀ n, (List.replicate n [a]).flatten = List.replicate n a
  | 0 => rfl
  | n + 1 => by
    rw [List.replicate_succ, List.flatten_cons, flat_rep a n, List.replicate_succ]
    rfl
theorem xRow_v {n : Nat} : (xRow n).map (·.1) = List.replicate n (V.str "x") := by
  unfold xRow
  rw [List.map_replicate]
  rfl
theorem at_of' {xs : List V} {z : Int} {j : Nat} {v : V} (e : z = (j : Int)) (h : xs[j]? = some v) : atI xs z = some v := by
  rw [e]
  exact atI_nat h
theorem dps_at {K : PySem.W.Frag} {H : Hp} : ∀ {xs : List V} {ds : List PyData} {i : Nat} {v : V}, DpAll K H xs ds → xs[i]? = some v → ∃ d, ds[i]? = some d ∧ Dp K H v d
  | _, _, i, v, .nil, e => by simp at e
  | _, _, 0, v, .cons h1 _, e => by
    cases (show some _ = some v from e)
    exact ⟨_, rfl, h1⟩
  | _, _, i + 1, v, .cons _ h2, e => by
    obtain ⟨d, hd, h⟩ := dps_at h2 (i := i) (by simpa using e)
    exact ⟨d, by simpa using hd, h⟩
theorem int_at {is : List Int} {j : Nat} (h : j < is.length) : (is.map V.int)[j]? = some (.int (is.getD j 0)) := by
  rw [List.getElem?_map, List.getD_eq_getElem?_getD, List.getElem?_eq_getElem h]
  rfl
section
variable {X : Cx} {CX : CXT} {k : Nat} {f C : Addr} {fd : FuncData} {ps : List Str} {sp : Sp} {E : L2.St → XK} {x : Str} {p pos : Pos} {e : PySem.Expr} {es : List PySem.Expr} {t : TA}
theorem run_fnGW {pins : List (Addr × Obj)} {σ : L2.St} {H : Hp} {s : Shared} {Q : VK} {us : List PySem.Value} {vs : List V} (F : GFn X.prog X.w X.K X.mg X.base CX k f fd ps sp) (hG : X.A.guards = some []) (hr : Room k X.A) (hb : L2.Binds X.K fd ps []) (hx : PassesAt CX X σ (E σ))
    (I : L2.Inv X pins σ H s) (r : Vals vs us) (h : sp vs H Q (E σ)) : wpAny (model X.prog X.w) X.A (call (.ref f) us) (EP X pins σ Q) X.xe s := by
  have hl : (us ++ []).length = ps.length := by
    rw [List.append_nil, ← r.length]
    exact F.len _ _ _ _ h
  have b := hb s us I.kIn hl
  rw [List.append_nil] at b
  refine wpAny_call (codeAny_mono (F.run X.A X.stack s H ⟨us, []⟩ us vs Q (E σ) hr hG I.env0 b r h) fun r s' hq => ?_)
  cases r with
  | error e => exact hx pins H s e s' I hq
  | ok fl =>
    cases fl with
    | ret u => exact I.after hq
    | next => exact False.elim hq
    | brk => exact False.elim hq
    | cont => exact False.elim hq
theorem pe_callGW (F : GFn X.prog X.w X.K X.mg X.base CX k f fd ps sp) (hG : X.A.guards = some []) (hr : Room k X.A) (hg : Gl X x) (hm : X.mg x = some (.ref f)) (hk : PySem.W.keepIn X.K (.ref f) = true) (hb : L2.Binds X.K fd ps []) (hx : ∀ σ, PassesAt CX X σ (E σ))
    (ha : PA X (e :: es) t) (hdb : (x == ("__debug__" : Str)) = false := by decide) (he : starEach (e :: es) X.env = (false, eval e X.env) :: starEach es X.env := by rfl) (hpl : (backTo pos (starEach es X.env)).any (·.1) = false := by rfl) :
    PE X (.Call (.Name x p) (e :: es) [] pos) (tCallS sp E t) := by
  refine ⟨fun pins s σ H Q I h => ?_⟩
  refine wpAny_Call_Name_kw (ld_glob I hg hm ?_ hdb)
  refine PySem.W.callWith_K (h₀ := X.base) I.ok.mod.kin hk (thn (ha.run pos pins s σ H _ I h) fun us s1 ⟨vs, H1, I1, r, q⟩ => ⟨I1.kIn, ?_⟩) he hpl
  exact run_fnGW F hG hr hb (hx σ) I1 r q
end
section
variable {P : Program} {w : World} {K : PySem.W.Frag} {mg : Str → Option PySem.Value} {base : Heap} {f fR CS CB CT : Addr} {fd fdR : FuncData} {H H' : Hp}
theorem rs_cnt {m : Mac} {first : List Sy} {be : Sy} : ∀ k, (rsAt m first be k).2.2.length ≤ k + 1
  | 0 => Nat.le_refl _
  | k + 1 => by
    have ih := rs_cnt (m := m) (first := first) (be := be) k
    cases e : (rsAt m first be k).2.1 with
    | none =>
      rw [rs_end e (k + 1) (by omega)]
      omega
    | some s =>
      rw [rs_len e]
      omega
abbrev nLn : List Str := ["sweeps", "most", "row"]
theorem scLn : FnScope nLn ["sweeps", "most"] (defScope (top 34)) := ⟨rfl, rfl, rfl, by decide +kernel, rfl, by decide +kernel, by decide +kernel⟩
theorem pair_at {α β : Type} {F : α → β → Prop} : ∀ {l₁ : List α} {l₂ : List β} {j : Nat} {x : β}, Paired F l₁ l₂ → l₂[j]? = some x → ∃ y, l₁[j]? = some y ∧ F y x
  | _, _, _, _, .nil, h => by simp at h
  | _, _, 0, _, .cons h1 _, h => by
    obtain rfl := Option.some.inj h
    exact ⟨_, rfl, h1⟩
  | _, _, j + 1, _, .cons _ h2, h => by
    obtain ⟨y, h3, h4⟩ := pair_at (j := j) h2 (by simpa using h)
    exact ⟨y, by simpa using h3, h4⟩
def rLn (K : PySem.W.Frag) : List V → Hp → VK → Prop := fun xs H Q => ∃ p ys, xs = [.ref p] ∧ (SqL K H p ys ∨ SqT K H p ys) ∧ Q (.int ys.length) H
theorem passE0 {X : Cx} : Passes (L2.CX X.prog X.w) X E0 := fun _ _ _ _ _ _ _ h => by
  obtain ⟨a, B, H', cls, d, h⟩ := h
  exact h.2.2.2.2.2.2.2.elim
end
section
variable {K : PySem.W.Frag} {w : World} {H H' : Hp} {TT : List (Addr × Str)} {m : Mac} {first : List Sy} {be : Sy} {CS sw : Addr}
theorem pen_ne {p l b : Addr} {n : Nat} {xs : List V} (P : PenAt H p l n) (h : H b = some (.lst xs)) : b ≠ p := by
  obtain ⟨kvs, hp⟩ := P.is
  exact ne_of h hp fun z => nomatch z
theorem pen_new {p l b : Addr} {n : Nat} (P : PenAt H p l n) (h : H b = none) : b ≠ p := by
  obtain ⟨kvs, hp⟩ := P.is
  exact Ne.symm (ne_of_none hp h)
theorem pen_newL {p l b : Addr} {n : Nat} (P : PenAt H p l n) (h : H b = none) : b ≠ l := by
  obtain ⟨kvs, hp⟩ := P.lis
  exact Ne.symm (ne_of_none hp h)
theorem Tabs.updL {x : Addr} {xs : List V} {o : HO} (t : Tabs TT H) (h : H x = some (.lst xs)) : Tabs TT (L2.upd H x o) := fun y hy => by
  obtain ⟨ps, h1, h2, h3⟩ := t y hy
  refine ⟨ps, by rw [upd_ne (ne_of h1 h fun z => nomatch z)]; exact h1, h2, fun pos cv hc => ?_⟩
  obtain ⟨c, e1, e2⟩ := h3 pos cv hc
  exact ⟨c, e1, by rw [upd_ne (ne_of e2 h fun z => nomatch z)]; exact e2⟩
theorem SwO.pen {p l : Addr} {n : Nat} (o : SwO K w CS H sw m first be) (PA : PenAt H p l n) (b : But p H H') : SwO K w CS H' sw m first be := by
  obtain ⟨dx, fi, ds, dt, v, v2, h1, h2, h3, h4, h5⟩ := o.ex
  have tu := pen_tups PA b
  obtain ⟨kvs, hp⟩ := PA.is
  exact ⟨dx, fi, ds, dt, v, v2, b _ _ h1 (ne_of h1 hp fun z => nomatch z), SqT.tups tu h2, h3.keep tu fun c es _ h => by
    rcases h with h | ⟨u, h⟩
    · exact .inl (b _ _ h (ne_of h hp fun z => nomatch z))
    · exact .inr ⟨u, b _ _ h (ne_of h hp fun z => nomatch z)⟩, h4.tups tu, h5.keep tu fun c es h => by
    rcases h with h | ⟨u, h⟩
    · exact .inl (b _ _ h (ne_of h hp fun z => nomatch z))
    · exact .inr ⟨u, b _ _ h (ne_of h hp fun z => nomatch z)⟩⟩
theorem sql_pen {p l a : Addr} {n : Nat} {xs : List V} (PA : PenAt H p l n) (b : But p H H') (h : SqL K H a xs) : SqL K H' a xs := by
  obtain ⟨kvs, hp⟩ := PA.is
  rcases h with (h | ⟨o, h⟩) | h
  · exact .inl (.inl (b _ _ h (ne_of h hp fun z => nomatch z)))
  · exact .inl (.inr ⟨o, b _ _ h (ne_of h hp fun z => nomatch z)⟩)
  · exact .inr h
mutual
theorem dp_pen {p l : Addr} {n : Nat} (PA : PenAt H p l n) (b : But p H H') : ∀ (d : PyData) (v : V), Dp K H v d → Dp K H' v d
  | .none, _, h => by cases h; exact .non
  | .bool c, _, h => by cases h; exact .bl c
  | .int i, _, h => by cases h; exact .int i
  | .str x, _, h => by cases h; exact .str x
  | .list ds, _, h => by
    cases h with
    | lst hs ha => exact .lst (sql_pen PA b hs) (dps_pen PA b ds _ ha)
  | .tuple ds, _, h => by
    cases h with
    | tup hs ha => exact .tup (SqT.tups (pen_tups PA b) hs) (dps_pen PA b ds _ ha)
  | .dict _, _, h => by cases h
theorem dps_pen {p l : Addr} {n : Nat} (PA : PenAt H p l n) (b : But p H H') : ∀ (ds : List PyData) (vs : List V), DpAll K H vs ds → DpAll K H' vs ds
  | [], _, h => by cases h; exact .nil
  | d :: ds, _, h => by
    cases h with
    | cons h1 h2 => exact .cons (dp_pen PA b d _ h1) (dps_pen PA b ds _ h2)
end
theorem ixN_nat {n j : Nat} (h : j < n) : ixN n (j : Int) = some j := by
  unfold ixN
  rw [if_pos (Int.natCast_nonneg j), if_pos (by omega)]
  rfl
end
end K38

set_option Elab.async false
set_option linter.all false
set_option maxRecDepth 100000
set_option maxHeartbeats 4000000
namespace K38
open PySem PySem.Spec PyProof.Rows L2 Pen Tr AK LamX
section
variable {P : Program} {w : World} {K : PySem.W.Frag} {mg : Str → Option PySem.Value} {base : Heap} {f fR CS CB CT : Addr} {fd fdR : FuncData} {H H' : Hp} {m : Mac} {first : List Sy} {be : Sy}
/-- lengths_of, also where it raises -/
def lensV (rows : List (List Sy)) : List V := rows.map fun r => V.int (r.length : Nat)
def spLx (K : PySem.W.Frag) (w : World) (CS CB CT : Addr) : Sp := fun vs H Q E => (∃ sw m first be, ∃ n : Nat, vs = [.ref sw, .int n] ∧ 1 ≤ n ∧ n ≤ 900 ∧ SwO K w CS H sw m first be ∧ MacOk K H m ∧ (∀ l ∈ (first : List Sy), SyOk K H l ∧ l.2 ∈ (m : Mac).ld) ∧ first.length ≤ 100 ∧ (SyOk K H be ∧ be.2 ∈ m.sd false) ∧
    ((rsAt m first be (n - 1)).2.1 = none → ∀ p H', Same H H' → SqT K H' p (lensV (rsAt m first be (n - 1)).2.2) → Q (.ref p) H') ∧
    ((rsAt m first be (n - 1)).2.1 ≠ none → ∀ dd H', Same H H' → H' dd = some (.xd [("limit", .int n), ("many", .int (n + 1)), ("what", .str "rows")]) → E (.ref CT) (some dd) H')) ∨
  (∃ sw v d, vs = [.ref sw, v] ∧ Dp K H v d ∧ (isIntD d = false ∨ ∃ i : Int, d = .int i ∧ i < 1) ∧ ∀ dd H', Same H H' → H' dd = some (.xd [("number", v), ("what", .str "most")]) → E (.ref CB) (some dd) H')
theorem ok_lx (F : FnT K "lengths_of" 34 f fd) (TX : Txt mg) (FR : FnT K "run" 29 fR fdR) (gR : mg "run" = some (.ref fR)) (GR : FnOk P w K mg base (L2N.CX P w) 3 fR fdR ["sweeps", "most"] (spRun K w CS CB CT)) : FnOk P w K mg base (L2N.CX P w) 4 f fd ["sweeps", "most"] (spLx K w CS CB CT) := by
  refine F.ok scLn (fun vs H Q E h => by obtain ⟨a, _, _, _, n, rfl, _⟩ | ⟨sw, v, d, rfl, _⟩ := h <;> rfl) (fun cdv A outer s H vs Q E hr h => ?_)
  obtain ⟨a1, b1, evs⟩ : ∃ a1 b1, vs = [a1, b1] := by
    obtain ⟨sw, m, first, be, n, rfl, _⟩ | ⟨sw, v, d, rfl, _⟩ := h <;> exact ⟨_, _, rfl⟩
  subst evs
  have nd := scLn.nd
  have bR : L2.Binds K fdR ["sweeps", "most"] [] := FunD.bindsN FR fun _ _ _ _ _ _ us hl => match us, hl with | [_, _], _ => rfl
  refine ⟨_, pss_one (ps_ret (pe_callTy call_tupR (by rfl) TX.tuple (by decide +kernel) (pa_cons (pe_lc (own := [("row", 2)]) (g := gName 2) (tt := tYes) (te := tCB (rLn K) (tCons (tVar 2) tNil)) (by rfl) nd
    (pi_tup (pe_callS GR hr (by rfl) gR FR.kp bR (fun σ => L2N.passAt (L2N.takes_of rfl rfl rfl rfl) σ) (pa_cons (pv 0) (pa_cons (pv 1) pa_nil)))) (blkOk_by (own := [("row", 2)]) (N := nLn) (sc := defScope (top 34)) (by decide +kernel))
    (fun _ _ _ _ _ => pg_name (i := 2) nd rfl (Or.inl rfl)) (fun _ _ _ _ _ => pts_nil) (fun _ _ _ _ _ => pe_callB call_len_seq (by rfl) TX.len PySem.boot_len (pa_cons (pv 2) pa_nil))) pa_nil))), ?_⟩
  rcases h with ⟨sw, m, first, be, n, e, n1, n9, so, mac, hf, lf, hbe, q1, q2⟩ | ⟨sw, v, d, e, hv, bad, q⟩
  · obtain ⟨rfl, rfl⟩ : a1 = .ref sw ∧ b1 = .int n := by
      cases e
      exact ⟨rfl, rfl⟩
    refine ⟨_, rfl, _, rfl, .inl ⟨sw, m, first, be, n, rfl, n1, n9, so, mac, hf, lf, hbe, fun en p H1 xs s1 hp hR => ?_, fun ne dd H' s hd => q2 ne dd H' s hd⟩⟩
    have q := q1 en
    refine ⟨p, rfl, ⟨_, hp⟩, fun D nD => ?_⟩
    refine lc_tup (K := K) (a := p) (xs := xs) (fun i H' => Same H1 H' ∧ H' D = some (.lst (((rsAt m first be (n - 1)).2.2.take i).map fun r => V.int (r.length : Nat)))) ⟨same_upd nD, upd_same⟩ (fun i H' _ q => SqT.tups (same_tups q.1) hp) ?_ ?_
    · rintro i x H' hx ⟨s2, hacc⟩
      obtain ⟨r, hr2, q0, rfl, hq0⟩ := pair_at hR hx
      refine ⟨rfl, ?_⟩
      refine yes_if ?_
      refine ⟨_, rfl, q0, _, rfl, .inr (SqT.tups (same_tups s2) hq0), ?_⟩
      have hi : i < (rsAt m first be (n - 1)).2.2.length := (List.getElem?_eq_some_iff.mp hr2).1
      have lr := rs_cnt (m := m) (first := first) (be := be) (n - 1)
      refine ⟨_, hacc, ?_, ?_, ?_⟩
      · rw [List.length_map, List.length_take, sizeLine_eq]
        omega
      · intro b ob eb
        rw [upd_ne (ne_of_none eb nD)]
        exact s2 _ _ eb
      · rw [upd_same, List.take_add_one, hr2, List.map_append]
        simp
    · rintro H' ⟨s2, hacc⟩
      have e : xs.length = (rsAt m first be (n - 1)).2.2.length := (Paired.length hR).symm
      rw [e, List.take_length] at hacc
      exact ⟨D, _, rfl, .inl (SqL.of hacc), fun l H3 s3 hl => q l H3 (same_trans s1 (same_trans s2 s3)) hl⟩
  · obtain ⟨rfl, rfl⟩ : a1 = .ref sw ∧ b1 = v := by
      cases e
      exact ⟨rfl, rfl⟩
    exact ⟨_, rfl, _, rfl, .inr ⟨sw, b1, d, rfl, hv, bad, q⟩⟩
end
end K38

set_option Elab.async false
set_option linter.all false
set_option maxRecDepth 100000
set_option maxHeartbeats 4000000
namespace K38
open PySem PySem.Spec PyProof.Rows L2 Pen Tr AK LamX
/-! ### the machine that adds 1 -/
def d0 : PyData := .str "0"
def d1 : PyData := .str "1"
def dB : PyData := .str "back"
def dK : PyData := .str "keep"
def dA : PyData := .str "add"
def dE : PyData := .str "end"
def s0 : Sy := (.str "0", d0)
def s1 : Sy := (.str "1", d1)
def sB : Sy := (.str "back", dB)
def sK : Sy := (.str "keep", dK)
def sA : Sy := (.str "add", dA)
def sE : Sy := (.str "end", dE)
def isT (d : PyData) (s : Str) : Bool := match d with
  | .str z => decide (z = s)
  | _ => false
def stepA (d e : PyData) : Sy × Sy := if isT d "add" = true then (if isT e "0" = true then (sK, s1) else if isT e "1" = true then (sA, s0) else (syD d, syD e)) else (syD d, syD e)
def turnA (grown : Option Sy) (turn : Option (Sy × Option Sy)) (d : PyData) : Option (Sy × Option Sy) := if isT d "back" = true then some (sA, none) else if isT d "keep" = true then some (sB, grown) else if isT d "add" = true then turn else none
abbrev ld2 : List PyData := [d0, d1]
def addM (grown : Option Sy) (turn : Option (Sy × Option Sy)) : Mac where
  ld := ld2
  sd := fun b => if b then [dK, dA] else [dB, dE]
  step := fun _ d e => stepA d e
  turn := fun _ d => turnA grown turn d
def endM : Mac where
  ld := ld2
  sd := fun b => if b then [] else [dE]
  step := fun _ d e => (syD d, syD e)
  turn := fun _ _ => none
structure GT (g : Option Sy) (t : Option (Sy × Option Sy)) : Prop where
  g : g = none
  t : t = none ∨ t = some (sE, none)
theorem st_B0 : stepA dB d0 = (sB, s0) := by kernel_rfl
theorem st_B1 : stepA dB d1 = (sB, s1) := by kernel_rfl
theorem st_Bx : stepA dB xD = (sB, xSy) := by kernel_rfl
theorem st_K0 : stepA dK d0 = (sK, s0) := by kernel_rfl
theorem st_K1 : stepA dK d1 = (sK, s1) := by kernel_rfl
theorem st_Kx : stepA dK xD = (sK, xSy) := by kernel_rfl
theorem st_E0 : stepA dE d0 = (sE, s0) := by kernel_rfl
theorem st_E1 : stepA dE d1 = (sE, s1) := by kernel_rfl
theorem st_Ex : stepA dE xD = (sE, xSy) := by kernel_rfl
theorem st_A0 : stepA dA d0 = (sK, s1) := by kernel_rfl
theorem st_A1 : stepA dA d1 = (sA, s0) := by kernel_rfl
theorem st_Ax : stepA dA xD = (sA, xSy) := by kernel_rfl
theorem is_BB : isT dB "back" = true := by kernel_rfl
theorem is_KB : isT dK "back" = false := by kernel_rfl
theorem is_AB : isT dA "back" = false := by kernel_rfl
theorem is_EB : isT dE "back" = false := by kernel_rfl
theorem is_KK : isT dK "keep" = true := by kernel_rfl
theorem is_AK : isT dA "keep" = false := by kernel_rfl
theorem is_EK : isT dE "keep" = false := by kernel_rfl
theorem is_AA : isT dA "add" = true := by kernel_rfl
theorem is_EA : isT dE "add" = false := by kernel_rfl
theorem m0 : d0 ∈ menuD := menu_t (.tail _ (.head _))
theorem m1 : d1 ∈ menuD := menu_t (.tail _ (.tail _ (.head _)))
theorem mB : dB ∈ menuD := menu_t (.tail _ (.tail _ (.tail _ (.head _))))
theorem mK : dK ∈ menuD := menu_t (.tail _ (.tail _ (.tail _ (.tail _ (.head _)))))
theorem mA : dA ∈ menuD := menu_t (.tail _ (.tail _ (.tail _ (.tail _ (.tail _ (.head _))))))
theorem mE : dE ∈ menuD := menu_t (.tail _ (.tail _ (.tail _ (.tail _ (.tail _ (.tail _ (.head _)))))))
section
variable {K : PySem.W.Frag} {w : World} {H H' : Hp} {g : Option Sy} {t : Option (Sy × Option Sy)} {b : Bool}
theorem o0 : SyOk K H s0 := ⟨.str _, m0⟩
theorem o1 : SyOk K H s1 := ⟨.str _, m1⟩
theorem oB : SyOk K H sB := ⟨.str _, mB⟩
theorem oK : SyOk K H sK := ⟨.str _, mK⟩
theorem oA : SyOk K H sA := ⟨.str _, mA⟩
theorem oE : SyOk K H sE := ⟨.str _, mE⟩
theorem l0 : d0 ∈ ld2 := .head _
theorem l1 : d1 ∈ ld2 := .tail _ (.head _)
theorem tn_B : (addM g t).turn b dB = some (sA, none) := by
  show turnA g t dB = _
  unfold turnA
  rw [if_pos is_BB]
theorem tn_K : (addM g t).turn b dK = some (sB, g) := by
  show turnA g t dK = _
  unfold turnA
  rw [if_neg (by rw [is_KB]; exact Bool.false_ne_true), if_pos is_KK]
theorem tn_A : (addM g t).turn b dA = t := by
  show turnA g t dA = _
  unfold turnA
  rw [if_neg (by rw [is_AB]; exact Bool.false_ne_true), if_neg (by rw [is_AK]; exact Bool.false_ne_true), if_pos is_AA]
theorem tn_E : (addM g t).turn b dE = none := by
  show turnA g t dE = _
  unfold turnA
  rw [if_neg (by rw [is_EB]; exact Bool.false_ne_true), if_neg (by rw [is_EK]; exact Bool.false_ne_true), if_neg (by rw [is_EA]; exact Bool.false_ne_true)]
theorem sd_l {d : PyData} (h : d ∈ (addM g t).sd false) : d = dB ∨ d = dE := by
  have h : d ∈ [dB, dE] := h
  simpa using h
theorem sd_r {d : PyData} (h : d ∈ (addM g t).sd true) : d = dK ∨ d = dA := by
  have h : d ∈ [dK, dA] := h
  simpa using h
theorem ld_2 {d : PyData} (h : d ∈ ld2) : d = d0 ∨ d = d1 := by
  simpa using h
theorem addM_ok (G : GT g t) : MacOk K H (addM g t) where
  lm := fun d hd => by
    rcases ld_2 hd with rfl | rfl
    · exact m0
    · exact m1
  sm := fun b d hd => by
    cases b with
    | false =>
      rcases sd_l hd with rfl | rfl
      · exact mB
      · exact mE
    | true =>
      rcases sd_r hd with rfl | rfl
      · exact mK
      · exact mA
  lf := (show 2 ≤ 3 by decide)
  sf := fun b => by
    cases b
    · exact (show 2 ≤ 80 by decide)
    · exact (show 2 ≤ 80 by decide)
  st := fun b d e hd he => by
    show SyOk K H (stepA d e).1 ∧ (stepA d e).1.2 ∈ (addM g t).sd b ∧ SyOk K H (stepA d e).2 ∧ (stepA d e).2.2 ∈ ld2
    cases b with
    | false =>
      rcases sd_l hd with rfl | rfl
      · rcases ld_2 he with rfl | rfl
        · rw [st_B0]; exact ⟨oB, hd, o0, l0⟩
        · rw [st_B1]; exact ⟨oB, hd, o1, l1⟩
      · rcases ld_2 he with rfl | rfl
        · rw [st_E0]; exact ⟨oE, hd, o0, l0⟩
        · rw [st_E1]; exact ⟨oE, hd, o1, l1⟩
    | true =>
      have kk : dK ∈ (addM g t).sd true := List.Mem.head _
      rcases sd_r hd with rfl | rfl
      · rcases ld_2 he with rfl | rfl
        · rw [st_K0]; exact ⟨oK, hd, o0, l0⟩
        · rw [st_K1]; exact ⟨oK, hd, o1, l1⟩
      · rcases ld_2 he with rfl | rfl
        · rw [st_A0]; exact ⟨oK, kk, o1, l1⟩
        · rw [st_A1]; exact ⟨oA, hd, o0, l0⟩
  tu := fun b d s x hd ht => by
    cases b with
    | false =>
      rcases sd_l hd with rfl | rfl
      · rw [tn_B] at ht
        cases ht
        exact ⟨oA, .tail _ (.head _), fun l hl => nomatch hl⟩
      · rw [tn_E] at ht
        cases ht
    | true =>
      rcases sd_r hd with rfl | rfl
      · rw [tn_K] at ht
        cases ht
        refine ⟨oB, .head _, fun l hl => ?_⟩
        rw [G.g] at hl
        cases hl
      · rw [tn_A] at ht
        rcases G.t with z | z
        · rw [z] at ht
          cases ht
        · rw [z] at ht
          cases ht
          exact ⟨oE, .tail _ (.head _), fun l hl => nomatch hl⟩
theorem endM_sd {b : Bool} {d : PyData} (h : d ∈ endM.sd b) : b = false ∧ d = dE := by
  cases b with
  | false =>
    have h : d ∈ [dE] := h
    exact ⟨rfl, by simpa using h⟩
  | true => exact nomatch (show d ∈ ([] : List PyData) from h)
theorem endM_ok : MacOk K H endM where
  lm := (addM_ok (K := K) (H := H) (g := none) (t := none) ⟨rfl, .inl rfl⟩).lm
  sm := fun b d hd => by
    obtain ⟨_, rfl⟩ := endM_sd hd
    exact mE
  lf := (show 2 ≤ 3 by decide)
  sf := fun b => by
    cases b
    · exact (show 1 ≤ 80 by decide)
    · exact (show 0 ≤ 80 by decide)
  st := fun b d e hd he => by
    obtain ⟨rfl, rfl⟩ := endM_sd hd
    refine ⟨oE, .head _, ?_, ?_⟩
    · rcases ld_2 he with rfl | rfl
      · exact o0
      · exact o1
    · rcases ld_2 he with rfl | rfl
      · exact l0
      · exact l1
  tu := fun b d s x hd ht => nomatch ht
end
/-! ### it ends -/
def bS (b : Bool) : Sy := if b then s1 else s0
def dgR (ds : List Bool) (p : Nat) : List Sy := ds.map bS ++ xRow p
def inc : List Bool → List Bool × Bool
  | [] => ([], true)
  | false :: r => (true :: r, false)
  | true :: r => (false :: (inc r).1, (inc r).2)
def left : List Bool → Nat
  | [] => 0
  | d :: r => 2 * left r + if d then 0 else 1
theorem left_lt : ∀ ds : List Bool, left ds < 2 ^ ds.length
  | [] => Nat.one_pos
  | d :: r => by
    have ih := left_lt r
    have e : left (d :: r) = 2 * left r + if d then 0 else 1 := rfl
    rw [e, List.length_cons, Nat.pow_succ]
    cases d <;> simp <;> omega
theorem inc_left : ∀ ds : List Bool, (inc ds).2 = false → left (inc ds).1 + 1 = left ds
  | [], h => nomatch h
  | false :: r, _ => by
    show 2 * left r + 0 + 1 = 2 * left r + 1
    omega
  | true :: r, h => by
    have ih := inc_left r h
    show 2 * left (inc r).1 + 1 + 1 = 2 * left r + 0
    omega
section
variable {g : Option Sy} {t : Option (Sy × Option Sy)} {b : Bool} {m : Mac}
theorem hand {s : Sy} : ∀ {row acc : List Sy}, (∀ l ∈ row, m.step b s.2 l.2 = (s, l)) → row.foldl (stepW m b) (acc, s) = (acc ++ row, s)
  | [], acc, _ => by rw [List.append_nil]; rfl
  | l :: r, acc, h => by
    have e : stepW m b (acc, s) l = (acc ++ [l], s) := by
      unfold stepW
      rw [show m.step b (acc, s).2.2 l.2 = (s, l) from h l (List.mem_cons_self ..)]
    rw [List.foldl_cons, e, hand fun x hx => h x (List.mem_cons_of_mem _ hx), List.append_assoc]
    rfl
theorem sweep_id {s : Sy} {row : List Sy} (h : ∀ l ∈ row, m.step b s.2 l.2 = (s, l)) : sweepM m b s row = (row, s) := by
  have e : walkW m b s (ordL b row) = (ordL b row, s) := by
    unfold walkW
    rw [hand fun l hl => h l (ordL_mem.mp hl)]
    rfl
  unfold sweepM
  rw [e]
  cases b
  · simp [ordL]
  · rfl
theorem dg_mem {ds : List Bool} {p : Nat} {l : Sy} (h : l ∈ dgR ds p) : l = s0 ∨ l = s1 ∨ l = xSy := by
  rcases List.mem_append.mp h with h | h
  · obtain ⟨c, _, rfl⟩ := List.mem_map.mp h
    cases c
    · exact .inl rfl
    · exact .inr (.inl rfl)
  · exact .inr (.inr (List.mem_replicate.mp h).2)
theorem keep_B {ds : List Bool} {p : Nat} : ∀ l ∈ dgR ds p, (addM g t).step b sB.2 l.2 = (sB, l) := fun l hl => by
  rcases dg_mem hl with rfl | rfl | rfl
  · exact st_B0
  · exact st_B1
  · exact st_Bx
theorem keep_E {ds : List Bool} {p : Nat} : ∀ l ∈ dgR ds p, (addM g t).step b sE.2 l.2 = (sE, l) := fun l hl => by
  rcases dg_mem hl with rfl | rfl | rfl
  · exact st_E0
  · exact st_E1
  · exact st_Ex
theorem keep_K {ds : List Bool} {p : Nat} : ∀ l ∈ dgR ds p, (addM g t).step b sK.2 l.2 = (sK, l) := fun l hl => by
  rcases dg_mem hl with rfl | rfl | rfl
  · exact st_K0
  · exact st_K1
  · exact st_Kx
theorem add_walk {p : Nat} : ∀ (ds : List Bool) (acc : List Sy), (dgR ds p).foldl (stepW (addM g t) b) (acc, sA) = (acc ++ dgR (inc ds).1 p, if (inc ds).2 then sA else sK)
  | [], acc => by
    have h : ∀ l ∈ xRow p, (addM g t).step b sA.2 l.2 = (sA, l) := fun l hl => by
      obtain ⟨_, rfl⟩ := List.mem_replicate.mp hl
      exact st_Ax
    exact hand h
  | false :: r, acc => by
    have e : stepW (addM g t) b (acc, sA) (bS false) = (acc ++ [s1], sK) := by
      unfold stepW
      rw [show (addM g t).step b (acc, sA).2.2 (bS false).2 = (sK, s1) from st_A0]
    show (dgR r p).foldl (stepW (addM g t) b) (stepW (addM g t) b (acc, sA) (bS false)) = _
    rw [e, hand keep_K, List.append_assoc]
    rfl
  | true :: r, acc => by
    have e : stepW (addM g t) b (acc, sA) (bS true) = (acc ++ [s0], sA) := by
      unfold stepW
      rw [show (addM g t).step b (acc, sA).2.2 (bS true).2 = (sA, s0) from st_A1]
    show (dgR r p).foldl (stepW (addM g t) b) (stepW (addM g t) b (acc, sA) (bS true)) = _
    rw [e, add_walk r, List.append_assoc]
    rfl
theorem add_sweep {ds : List Bool} {p : Nat} : sweepM (addM g t) true sA (dgR ds p) = (dgR (inc ds).1 p, if (inc ds).2 then sA else sK) := by
  unfold sweepM walkW
  rw [show ordL true (dgR ds p) = dgR ds p from rfl, add_walk ds []]
  rfl
theorem last_app {rows : List (List Sy)} {r : List Sy} : lastR (rows ++ [r]) = r := by
  unfold lastR
  rw [List.getLast?_append]
  rfl
theorem dg_more {ds : List Bool} {p : Nat} : dgR ds p ++ [xSy] = dgR ds (p + 1) := by
  unfold dgR
  rw [List.append_assoc, show xRow (p + 1) = xRow p ++ [xSy] from List.replicate_succ']
end
end K38

set_option Elab.async false
set_option linter.all false
set_option maxRecDepth 100000
set_option maxHeartbeats 4000000
namespace K38
open PySem PySem.Spec PyProof.Rows L2 Pen Tr AK LamX
/-! ### the digits of a number, and the rows of stairs -/
def bitsN : Nat → Nat → List Bool
  | 0, _ => []
  | l + 1, v => decide (v % 2 = 1) :: bitsN l (v / 2)
theorem bits_len : ∀ {l v : Nat}, (bitsN l v).length = l
  | 0, _ => rfl
  | l + 1, v => by
    show (bitsN l (v / 2)).length + 1 = l + 1
    rw [bits_len]
theorem inc_bits : ∀ {l v : Nat}, v < 2 ^ l → inc (bitsN l v) = (bitsN l (v + 1), decide (v + 1 = 2 ^ l))
  | 0, v, h => by
    have h : v < 1 := h
    have e : v = 0 := by omega
    subst e
    rfl
  | l + 1, v, h => by
    have hp : 2 ^ (l + 1) = 2 * 2 ^ l := by rw [Nat.pow_succ, Nat.mul_comm]
    rw [hp] at h ⊢
    rcases Nat.mod_two_eq_zero_or_one v with e | e
    · have b1 : bitsN (l + 1) v = false :: bitsN l (v / 2) := by
        show decide (v % 2 = 1) :: _ = _
        rw [e]
        rfl
      have b2 : bitsN (l + 1) (v + 1) = true :: bitsN l (v / 2) := by
        show decide ((v + 1) % 2 = 1) :: bitsN l ((v + 1) / 2) = _
        rw [show (v + 1) % 2 = 1 by omega, show (v + 1) / 2 = v / 2 by omega]
        rfl
      rw [b1, b2, decide_eq_false (by omega)]
      rfl
    · have b1 : bitsN (l + 1) v = true :: bitsN l (v / 2) := by
        show decide (v % 2 = 1) :: _ = _
        rw [e]
        rfl
      have b2 : bitsN (l + 1) (v + 1) = false :: bitsN l (v / 2 + 1) := by
        show decide ((v + 1) % 2 = 1) :: bitsN l ((v + 1) / 2) = _
        rw [show (v + 1) % 2 = 0 by omega, show (v + 1) / 2 = v / 2 + 1 by omega]
        rfl
      have ih := inc_bits (l := l) (v := v / 2) (by omega)
      rw [b1, b2]
      show (false :: (inc (bitsN l (v / 2))).1, (inc (bitsN l (v / 2))).2) = _
      rw [ih]
      congr 1
      by_cases c : v / 2 + 1 = 2 ^ l
      · rw [decide_eq_true c, decide_eq_true (by omega)]
      · rw [decide_eq_false c, decide_eq_false (by omega)]
theorem bits_map : ∀ (l v : Nat), bitsN l v = (List.range l).map fun j => decide (v / 2 ^ j % 2 = 1)
  | 0, _ => rfl
  | l + 1, v => by
    rw [List.range_succ_eq_map, List.map_cons, List.map_map]
    show decide (v % 2 = 1) :: bitsN l (v / 2) = _
    rw [bits_map l (v / 2)]
    congr 1
    · rw [Nat.pow_zero, Nat.div_one]
    · refine List.map_congr_left fun j _ => ?_
      show decide (v / 2 / 2 ^ j % 2 = 1) = decide (v / 2 ^ (j + 1) % 2 = 1)
      rw [Nat.div_div_eq_div_mul, Nat.pow_succ, Nat.mul_comm]
end K38

set_option Elab.async false
set_option linter.all false
set_option maxRecDepth 100000
set_option maxHeartbeats 4000000
namespace K38
open PySem PySem.Spec PyProof.Rows L2 Pen Tr AK LamX
/-! ### how many digits, and which -/
def dN (many : Int) : Nat := if 2 < Builtin.Int.intBits (many - 1) then Builtin.Int.intBits (many - 1) else 2
theorem bits_lt (m : Nat) : m < 2 ^ Builtin.Int.intBits (m : Int) := by
  unfold Builtin.Int.intBits
  by_cases h : m = 0
  · subst h
    decide
  · rw [if_neg (by simpa using h)]
    exact Nat.lt_log2_self
theorem dN_hi {n b : Nat} (h1 : 1 ≤ n) (h : n ≤ 2 ^ b) (hb : 2 ≤ b) : 2 ≤ dN n ∧ dN n ≤ b ∧ n ≤ 2 ^ dN n := by
  have e : (n : Int) - 1 = ((n - 1 : Nat) : Int) := by omega
  have lt := bits_lt (n - 1)
  have le : Builtin.Int.intBits ((n - 1 : Nat) : Int) ≤ b := PyProof.Rows.intBits_le (by
    show n - 1 < 2 ^ b
    omega)
  unfold dN
  rw [e]
  by_cases c : 2 < Builtin.Int.intBits ((n - 1 : Nat) : Int)
  · rw [if_pos c]
    exact ⟨by omega, le, by omega⟩
  · rw [if_neg c]
    have : 2 ^ Builtin.Int.intBits ((n - 1 : Nat) : Int) ≤ 2 ^ 2 := Nat.pow_le_pow_right (by decide) (by omega)
    exact ⟨by decide, hb, by omega⟩
section
variable {P : Program} {w : World} {K : PySem.W.Frag} {mg : Str → Option PySem.Value} {base : Heap} {f fI fN aD CB : Addr} {fd fdI fdN : FuncData} {H H' : Hp}
theorem scDn : FnScope ["many"] ["many"] (defScope (top 36)) := ⟨rfl, rfl, rfl, by decide +kernel, rfl, by decide +kernel, by decide +kernel⟩
def spDn : Sp := fun vs H Q _ => ∃ z : Int, vs = [.int z] ∧ Q (.int (dN z : Nat)) H
theorem ok_dn (F : FnT K "digits_needed" 36 f fd) (TX : Txt mg) : FnOk P w K mg base CX0 1 f fd ["many"] spDn := by
  refine F.ok scDn (fun vs H Q E h => by obtain ⟨z, rfl, _⟩ := h; rfl) (fun cdv A outer s H vs Q E hr h => ?_)
  obtain ⟨z, rfl, q⟩ := h
  suffices y : ∃ t, PSs (cxOf CX0 P w K mg base ["many"] "digits_needed" (defScope (top 36)) f cdv A outer s H E).nox (defBody (top 36)) t ∧ t { nx := fun _ H' => Q .non H', rt := Q } (start ["many"] [.int z]) H by
    obtain ⟨t, h1, h2⟩ := y
    exact ⟨t, h1.nox, h2⟩
  refine ⟨_, pss_one (ps_ret (pe_callB (call_max2 rfl) (by rfl) TX.max (by decide +kernel) (pa_cons pe_int (pa_cons (pe_bits (pe_op op_sub (pv 0) pe_int)) pa_nil)))), ?_⟩
  refine ⟨_, rfl, z, 1, rfl, rfl, z - 1, rfl, 2, (Builtin.Int.intBits (z - 1) : Nat), rfl, ?_⟩
  have e : (if ((Builtin.Int.intBits (z - 1) : Nat) : Int) > 2 then ((Builtin.Int.intBits (z - 1) : Nat) : Int) else 2) = ((dN z : Nat) : Int) := by
    unfold dN
    by_cases c : 2 < Builtin.Int.intBits (z - 1)
    · rw [if_pos c, if_pos (by omega)]
    · rw [if_neg c, if_neg (by omega)]
      rfl
  rw [e]
  exact q
abbrev nDr : List Str := ["many", "length", "number", "column"]
theorem scDr : FnScope nDr ["many"] (defScope (top 37)) := ⟨rfl, rfl, rfl, by decide +kernel, rfl, by decide +kernel, by decide +kernel⟩
def spDr (K : PySem.W.Frag) : Sp := fun vs H Q _ => ∃ n : Nat, vs = [.int n] ∧ 1 ≤ n ∧ n ≤ 524288 ∧ ∀ p H', Same H H' → SqT K H' p (((bitsN (dN n) (2 ^ dN n - n)).map bS).map (·.1)) → Q (.ref p) H'
theorem ok_dr (F : FnT K "digits_that_run_over" 37 f fd) (TX : Txt mg) (FN : FnT K "digits_needed" 36 fN fdN) (gN : mg "digits_needed" = some (.ref fN)) (gD : mg "DIGITS" = some (.ref aD)) (hD : ∀ H, SqT K H aD [.str "0", .str "1"]) : FnOk P w K mg base CX0 2 f fd ["many"] (spDr K) := by
  refine F.ok scDr (fun vs H Q E h => by obtain ⟨z, rfl, _⟩ := h; rfl) (fun cdv A outer s H vs Q E hr h => ?_)
  obtain ⟨n, rfl, n1, n42, q⟩ := h
  have nd := scDr.nd
  suffices y : ∃ t, PSs (cxOf CX0 P w K mg base nDr "digits_that_run_over" (defScope (top 37)) f cdv A outer s H E).nox (defBody (top 37)) t ∧ t { nx := fun _ H' => Q .non H', rt := Q } (start nDr [.int n]) H by
    obtain ⟨t, h1, h2⟩ := y
    exact ⟨t, h1.nox, h2⟩
  have GN := ok_dn (P := P) (w := w) (mg := mg) (base := base) FN TX
  have bN : L2.Binds K fdN ["many"] [] := FunD.bindsN FN fun _ _ _ _ _ _ us hl => match us, hl with | [_], _ => rfl
  refine ⟨_, pss_cons (ps_asg (pe_call GN hr (by rfl) gN FN.kp bN .nil pass0 (pa_cons (pv 0) pa_nil)) (pg_name (i := 1) nd rfl (.inl rfl)))
    (pss_cons (ps_asg (pe_op op_sub (pe_op op_oneShl pe_int (pv 1)) (pv 0)) (pg_name (i := 2) nd rfl (.inr rfl)))
    (pss_one (ps_ret (pe_callTy call_tupR (by rfl) TX.tuple (by decide +kernel) (pa_cons (pe_lc (own := [("column", 3)]) (g := gName 3) (tt := tYes) (te := tOp (rIxT K) (tC (.ref aD)) _) (by rfl) nd
      (pi_range1 (by rfl) TX.range (pa_cons (pv 1) pa_nil)) (blkOk_by (own := [("column", 3)]) (N := nDr) (sc := defScope (top 37)) (by decide +kernel))
      (fun _ _ _ _ _ => pg_name (i := 3) nd rfl (Or.inl rfl)) (fun _ _ _ _ _ => pts_nil) (fun _ _ _ _ _ => pe_ix ix_tup (pe_glob (by rfl) gD rfl) (pe_op op_andM (pe_op op_shrN (pv 2) (pv 3)) pe_int) (fun _ _ => rfl))) pa_nil))))), ?_⟩
  obtain ⟨k2, k6, k9⟩ := dN_hi (b := 19) n1 n42 (by decide)
  refine ⟨_, rfl, n, rfl, _, rfl, dN n, rfl, rfl, by omega, _, rfl, 2 ^ dN n, n, rfl, rfl, ?_⟩
  obtain ⟨z, hz⟩ : ∃ z : Nat, z = 2 ^ dN n - n := ⟨_, rfl⟩
  have hz2 : (2 : Int) ^ dN n - (n : Int) = (z : Int) := by
    have e : (2 : Int) ^ dN n = ((2 ^ dN n : Nat) : Int) := by rw [Int.natCast_pow]; rfl
    rw [e]
    omega
  refine ⟨_, rfl, ((dN n : Nat) : Int), rfl, by omega, by omega, fun D nD => ?_⟩
  refine lc_range (lo := 0) (n := ((dN n : Nat) : Int).toNat) (fun j H' => Same H H' ∧ H' D = some (.lst ((((List.range j).map fun i => decide (z / 2 ^ i % 2 = 1)).map bS).map (·.1)))) ⟨same_upd nD, upd_same⟩ ?_ ?_
  · rintro j H2 hj ⟨s2, hacc⟩
    refine ⟨rfl, ?_⟩
    refine yes_if ?_
    have e2 : ((z : Int) / 2 ^ j) % 2 ^ 1 = ((z / 2 ^ j % 2 : Nat) : Int) := by
      have e : (2 : Int) ^ j = ((2 ^ j : Nat) : Int) := by rw [Int.natCast_pow]; rfl
      rw [e]
      show ((z : Int) / ((2 ^ j : Nat) : Int)) % 2 = _
      rw [Int.natCast_emod, Int.natCast_ediv]
      rfl
    refine ⟨_, rfl, _, rfl, z, j, congrArg V.int hz2, (by rw [Int.zero_add]), (z : Int) / 2 ^ j, 1, rfl, rfl, aD, _, ((z : Int) / 2 ^ j) % 2 ^ 1, (bS (decide (z / 2 ^ j % 2 = 1))).1, rfl, rfl, hD _, ?_, ?_⟩
    · rw [e2]
      rcases Nat.mod_two_eq_zero_or_one (z / 2 ^ j) with h | h
      · rw [h]
        rfl
      · rw [h]
        rfl
    · refine ⟨_, hacc, ?_, ?_, ?_⟩
      · rw [List.length_map, List.length_map, List.length_map, List.length_range, sizeLine_eq]
        omega
      · intro b ob eb
        rw [upd_ne (ne_of_none eb nD)]
        exact s2 _ _ eb
      · rw [upd_same, List.range_succ, List.map_append, List.map_append, List.map_append]
        rfl
  · rintro H2 ⟨s2, hacc⟩
    refine ⟨D, _, rfl, .inl (SqL.of hacc), fun l H3 s3 hl => q l H3 (same_trans s2 s3) ?_⟩
    rw [bits_map, ← hz]
    exact hl
theorem scCw : FnScope ["what", "number", "low", "high"] ["what", "number", "low", "high"] (defScope (top 35)) := ⟨rfl, rfl, rfl, by decide +kernel, rfl, by decide +kernel, by decide +kernel⟩
def spCw : Sp := fun vs H Q _ => ∃ (z : Str) (n lo hi : Int), vs = [.str z, .int n, .int lo, .int hi] ∧ lo ≤ n ∧ n ≤ hi ∧ Q .non H
theorem ok_cw (F : FnT K "check_within" 35 f fd) (TX : Txt mg) (FI : FnT K "is_integer" 12 fI fdI) (gI : mg "is_integer" = some (.ref fI)) (EB : Er P w K mg base "BadNumber" CB ["what", "number"]) : FnOk P w K mg base (L2.CX P w) 3 f fd ["what", "number", "low", "high"] spCw := by
  refine F.ok scCw (fun vs H Q E h => by obtain ⟨z, n, lo, hi, rfl, _⟩ := h; rfl) (fun cdv A outer s H vs Q E hr h => ?_)
  obtain ⟨z, n, lo, hi, rfl, h1, h2, q⟩ := h
  have GI := ok_int (P := P) (w := w) (mg := mg) (base := base) FI TX
  have bI : L2.Binds K fdI ["value"] [] := FunD.bindsN FI fun _ _ _ _ _ _ us hl => match us, hl with | [_], _ => rfl
  refine ⟨_, pss_one (ps_if (PW.pt (pw_or (pt_not (pt_val (pe_call GI (hr.mono (by decide)) (by rfl) gI FI.kp bI .nil pass0 (pa_cons (pv 1) pa_nil)))) (pw_or1 (pt_not (pt_chain op_le op_le (pv 2) (pv 1) (pv 3))))))
      (pss_one (ps_raise rfl (takes_of rfl rfl rfl rfl) (pmk_er EB hr (by rfl) (pa_cons (pv 0) (pa_cons (pv 1) pa_nil))))) pss_nil), ?_⟩
  refine ⟨_, rfl, .int n, .int n, rfl, .int _, isIntD (.int n), rfl, iteF ⟨_, rfl, _, rfl, lo, n, rfl, rfl, decide (lo ≤ n), rfl, ?_⟩⟩
  rw [decide_eq_true h1]
  refine iteT ⟨_, rfl, n, hi, rfl, rfl, decide (n ≤ hi), rfl, ?_⟩
  rw [decide_eq_true h2]
  exact iteF q
end
end K38

set_option Elab.async false
set_option linter.all false
set_option maxRecDepth 100000
set_option maxHeartbeats 4000000
namespace K38
open PySem PySem.Spec PyProof.Rows L2 Pen Tr AK LamX
/-! ### tables of texts, entry by entry -/
abbrev Ent := Bool × Str × Str × Str × Str
def tS (z : Str) : Sy := (.str z, .str z)
def Ent.key (e : Ent) : NestedKey := kS e.1 (.str e.2.1) (.str e.2.2.1)
def Ent.ok (e : Ent) : Prop := PyData.str e.2.1 ∈ menuD ∧ PyData.str e.2.2.1 ∈ menuD ∧ PyData.str e.2.2.2.1 ∈ menuD ∧ PyData.str e.2.2.2.2 ∈ menuD
structure StT (K : PySem.W.Frag) (w : World) (d : Addr) (done : List Ent) (es : List Eh) (H : Hp) : Prop where
  h : H d = some (DkO w d es)
  se : ∀ x ∈ es, StepE K H x
  nd : (es.map (·.1)).Nodup
  len : es.length ≤ done.length
  look : ∀ y ∈ done, ∃ q, atK es (Ent.key y) = some (.ref q) ∧ SqT K H q [.str y.2.2.2.1, .str y.2.2.2.2]
abbrev Tnt := Bool × Str × Option (Sy × Option Sy)
def Tnt.key (e : Tnt) : NestedKey := kT e.1 (.str e.2.1)
structure TuT (K : PySem.W.Frag) (w : World) (d : Addr) (done : List Tnt) (et : List Eh) (H : Hp) : Prop where
  h : H d = some (DkO w d et)
  te : ∀ x ∈ et, TurnE K H x
  nd : (et.map (·.1)).Nodup
  len : et.length ≤ done.length
  look : ∀ y ∈ done, ∃ v, atK et (Tnt.key y) = some v ∧ TurnAt K H v y.2.2
section
variable {K : PySem.W.Frag} {w : World} {H H' : Hp} {d : Addr} {done : List Ent} {tdone : List Tnt} {es et : List Eh}
theorem tS_ok {z : Str} (h : PyData.str z ∈ menuD) : SyOk K H (tS z) := ⟨.str _, h⟩
theorem StT.da (g : StT K w d done es H) : DA K w H d es := ⟨.inl g.h, fun x hx => (g.se x hx).nk, g.nd⟩
theorem TuT.da (g : TuT K w d tdone et H) : DA K w H d et := ⟨.inl g.h, fun x hx => (g.te x hx).nk, g.nd⟩
theorem StT.keep (g : StT K w d done es H) (tu : Tups H H') (h : H' d = some (DkO w d es)) : StT K w d done es H' :=
  ⟨h, fun x hx => (g.se x hx).tups tu, g.nd, g.len, fun y hy => (g.look y hy).imp fun q z => ⟨z.1, SqT.tups tu z.2⟩⟩
theorem TuT.keep (g : TuT K w d tdone et H) (tu : Tups H H') (h : H' d = some (DkO w d et)) : TuT K w d tdone et H' :=
  ⟨h, fun x hx => (g.te x hx).tups tu, g.nd, g.len, fun y hy => (g.look y hy).imp fun q z => ⟨z.1, z.2.tups tu⟩⟩
theorem StT.same (g : StT K w d done es H) (s : Same H H') : StT K w d done es H' := g.keep (same_tups s) (s _ _ g.h)
theorem TuT.same (g : TuT K w d tdone et H) (s : Same H H') : TuT K w d tdone et H' := g.keep (same_tups s) (s _ _ g.h)
theorem StT.nil (h : H d = some (DkO w d [])) : StT K w d [] [] H := ⟨h, (fun _ z => nomatch z), List.nodup_nil, Nat.zero_le _, (fun _ z => nomatch z)⟩
theorem TuT.nil (h : H d = some (DkO w d [])) : TuT K w d [] [] H := ⟨h, (fun _ z => nomatch z), List.nodup_nil, Nat.zero_le _, (fun _ z => nomatch z)⟩
theorem StT.put (g : StT K w d done es H) {y : Ent} (ok : Ent.ok y) (fresh : Ent.key y ∉ done.map Ent.key) {q r : Addr} (h1 : SqT K H q [.str (wayS y.1), .str y.2.1, .str y.2.2.1]) (h2 : SqT K H r [.str y.2.2.2.1, .str y.2.2.2.2]) :
    StT K w d (done ++ [y]) (putE es (Ent.key y) (.ref q) (.ref r)) (upd H d (DkO w d (putE es (Ent.key y) (.ref q) (.ref r)))) := by
  have tu : Tups H (upd H d (DkO w d (putE es (Ent.key y) (.ref q) (.ref r)))) := Tups.upd (dk_ntup g.h)
  obtain ⟨k1, k2, k3, k4⟩ := ok
  refine ⟨upd_same, fun x hx => ?_, putE_nd g.nd, ?_, fun z hz => ?_⟩
  · refine StepE.tups (putE_all (Q := StepE K H) g.se (fun y' hy e => ?_) ⟨q, r, y.1, tS y.2.1, tS y.2.2.1, tS y.2.2.2.1, tS y.2.2.2.2, rfl, h1, h2, tS_ok k1, tS_ok k2, tS_ok k3, tS_ok k4⟩ x hx) tu
    obtain ⟨q', r', b', s', le', s2', l2', rfl, y1, y2, y3, y4, _⟩ := g.se y' hy
    obtain rfl := kS_way e
    exact ⟨q', r, _, s', le', tS y.2.2.2.1, tS y.2.2.2.2, rfl, y1, h2, y3, y4, tS_ok k3, tS_ok k4⟩
  · rw [List.length_append]
    exact Nat.le_trans (putE_len _ _ _ _) (Nat.succ_le_succ g.len)
  · rw [atK_put]
    rcases List.mem_append.mp hz with hz | hz
    · rw [if_neg (fun e => fresh (List.mem_map.mpr ⟨z, hz, e⟩))]
      obtain ⟨q0, z1, z2⟩ := g.look z hz
      exact ⟨q0, z1, SqT.tups tu z2⟩
    · obtain rfl := List.mem_singleton.mp hz
      rw [if_pos rfl]
      exact ⟨r, rfl, SqT.tups tu h2⟩
theorem TuT.put (g : TuT K w d tdone et H) {y : Tnt} (ok : PyData.str y.2.1 ∈ menuD) (fresh : Tnt.key y ∉ tdone.map Tnt.key) (good : ∀ s2 x, y.2.2 = some (s2, x) → SyOk K H s2 ∧ ∀ l, x = some l → y.1 = true ∧ SyOk K H l) {q : Addr} {v : V} (h1 : SqT K H q [.str (wayS y.1), .str y.2.1]) (h2 : TurnAt K H v y.2.2) :
    TuT K w d (tdone ++ [y]) (putE et (Tnt.key y) (.ref q) v) (upd H d (DkO w d (putE et (Tnt.key y) (.ref q) v))) := by
  have tu : Tups H (upd H d (DkO w d (putE et (Tnt.key y) (.ref q) v))) := Tups.upd (dk_ntup g.h)
  refine ⟨upd_same, fun x hx => ?_, putE_nd g.nd, ?_, fun z hz => ?_⟩
  · refine TurnE.tups (putE_all (Q := TurnE K H) g.te (fun y' hy e => ?_) ⟨q, y.1, tS y.2.1, v, y.2.2, rfl, h1, tS_ok ok, h2, good⟩ x hx) tu
    obtain ⟨q', b', s', v', t', rfl, y1, y2, y3, y4⟩ := g.te y' hy
    obtain rfl := kT_way e
    exact ⟨q', _, s', v, y.2.2, rfl, y1, y2, h2, good⟩
  · rw [List.length_append]
    exact Nat.le_trans (putE_len _ _ _ _) (Nat.succ_le_succ g.len)
  · rw [atK_put]
    rcases List.mem_append.mp hz with hz | hz
    · rw [if_neg (fun e => fresh (List.mem_map.mpr ⟨z, hz, e⟩))]
      obtain ⟨q0, z1, z2⟩ := g.look z hz
      exact ⟨q0, z1, z2.tups tu⟩
    · obtain rfl := List.mem_singleton.mp hz
      rw [if_pos rfl]
      exact ⟨v, rfl, h2.tups tu⟩
end
/-! ### the steps that hand all letters on -/
def lets : List Str := ["0", "1", "x"]
abbrev Node := Bool × Str
def handE (ns : List Node) (i j : Nat) : List Ent := (ns.take i).flatMap (fun n => lets.map fun c => (n.1, n.2, c, n.2, c)) ++ ((ns.drop i).take 1).flatMap fun n => (lets.take j).map fun c => (n.1, n.2, c, n.2, c)
def allE (ns : List Node) : List Ent := ns.flatMap fun n => lets.map fun c => (n.1, n.2, c, n.2, c)
theorem allE_len : ∀ {ns : List Node}, (allE ns).length = 3 * ns.length
  | [] => rfl
  | n :: ns => by
    have ih := allE_len (ns := ns)
    have e : allE (n :: ns) = (lets.map fun c => (n.1, n.2, c, n.2, c)) ++ allE ns := List.flatMap_cons ..
    rw [e, List.length_append, ih, List.length_cons]
    show 3 + 3 * ns.length = _
    omega
theorem handE_row {ns : List Node} {i : Nat} (h : i < ns.length) : handE ns i 3 = handE ns (i + 1) 0 := by
  have e : (ns.drop i).take 1 = [ns[i]] := by
    rw [List.drop_eq_getElem_cons h]
    rfl
  have e2 : ns.take (i + 1) = ns.take i ++ [ns[i]] := by
    rw [List.take_add_one, List.getElem?_eq_getElem h]
    rfl
  unfold handE
  rw [e, e2, List.flatMap_append]
  simp [lets]
theorem handE_all {ns : List Node} : handE ns ns.length 0 = allE ns := by
  unfold handE allE
  simp
theorem handE_put {ns : List Node} {i j : Nat} {n : Node} {c : Str} (hn : ns[i]? = some n) (hc : lets[j]? = some c) : handE ns i (j + 1) = handE ns i j ++ [(n.1, n.2, c, n.2, c)] := by
  obtain ⟨h, e0⟩ := List.getElem?_eq_some_iff.mp hn
  have e : (ns.drop i).take 1 = [n] := by
    rw [List.drop_eq_getElem_cons h, e0]
    rfl
  unfold handE
  rw [e, List.take_add_one, hc]
  simp
theorem handE_pre {ns : List Node} {i j : Nat} {n : Node} {c : Str} (hn : ns[i]? = some n) (hc : lets[j]? = some c) : ∃ r, allE ns = handE ns i j ++ (n.1, n.2, c, n.2, c) :: r := by
  obtain ⟨h, e0⟩ := List.getElem?_eq_some_iff.mp hn
  obtain ⟨h2, e2⟩ := List.getElem?_eq_some_iff.mp hc
  have e : (ns.drop i).take 1 = [n] := by
    rw [List.drop_eq_getElem_cons h, e0]
    rfl
  refine ⟨(lets.drop (j + 1)).map (fun c => (n.1, n.2, c, n.2, c)) ++ (ns.drop (i + 1)).flatMap (fun n => lets.map fun c => (n.1, n.2, c, n.2, c)), ?_⟩
  unfold handE allE
  rw [e]
  have s1 : ns = ns.take i ++ n :: ns.drop (i + 1) := by
    rw [← e0, ← List.drop_eq_getElem_cons h, List.take_append_drop]
  have s2 : lets = lets.take j ++ c :: lets.drop (j + 1) := by
    rw [← e2, ← List.drop_eq_getElem_cons h2, List.take_append_drop]
  have s3 : lets.map (fun c => (n.1, n.2, c, n.2, c)) = (lets.take j).map (fun c => (n.1, n.2, c, n.2, c)) ++ (n.1, n.2, c, n.2, c) :: (lets.drop (j + 1)).map (fun c => (n.1, n.2, c, n.2, c)) := by
    have z := congrArg (List.map fun c => (n.1, n.2, c, n.2, c)) s2
    rw [List.map_append, List.map_cons] at z
    exact z
  have s4 : ns.flatMap (fun n => lets.map fun c => (n.1, n.2, c, n.2, c)) = (ns.take i ++ n :: ns.drop (i + 1)).flatMap (fun n => lets.map fun c => (n.1, n.2, c, n.2, c)) := by rw [← s1]
  rw [s4, List.flatMap_append, List.flatMap_cons, s3]
  simp
theorem fresh_of {ns : List Node} (nd : ((allE ns).map Ent.key).Nodup) {i j : Nat} {n : Node} {c : Str} (hn : ns[i]? = some n) (hc : lets[j]? = some c) : Ent.key (n.1, n.2, c, n.2, c) ∉ (handE ns i j).map Ent.key := by
  obtain ⟨r, e⟩ := handE_pre hn hc
  rw [e, List.map_append, List.map_cons] at nd
  have z := (List.nodup_append.mp nd).2.2
  intro h
  exact z _ h _ (List.mem_cons_self ..) rfl
section
variable {P : Program} {w : World} {K : PySem.W.Frag} {mg : Str → Option PySem.Value} {base : Heap} {f aL : Addr} {fd : FuncData} {H H' : Hp}
abbrev nHs : List Str := ["nodes", "direction", "state", "letter"]
theorem scHs : FnScope nHs ["nodes"] (defScope (top 38)) := ⟨rfl, rfl, rfl, by decide +kernel, rfl, by decide +kernel, by decide +kernel⟩
def NodesV (K : PySem.W.Frag) (H : Hp) (ns : List Node) (xs : List V) : Prop := Paired (fun (n : Node) (v : V) => ∃ q, v = .ref q ∧ SqT K H q [.str (wayS n.1), .str n.2]) ns xs
def spHs (K : PySem.W.Frag) (w : World) : Sp := fun vs H Q _ => ∃ a xs, ∃ ns : List Node, vs = [.ref a] ∧ H a = some (.lst xs) ∧ NodesV K H ns xs ∧ ns.length ≤ 100 ∧ (∀ n ∈ ns, PyData.str n.2 ∈ menuD) ∧ ((allE ns).map Ent.key).Nodup ∧ ∀ d es H', H d = none → Same H H' → StT K w d (allE ns) es H' → Q (.ref d) H'
theorem let_ok : ∀ c ∈ lets, PyData.str c ∈ menuD := fun c hc => by
  simp only [lets, List.mem_cons, List.not_mem_nil, or_false] at hc
  rcases hc with rfl | rfl | rfl
  · exact m0
  · exact m1
  · exact x_menu
theorem ok_hs (F : FnT K "handing_steps" 38 f fd) (gL : mg "LETTERS" = some (.ref aL)) (hL : ∀ H, SqT K H aL [.str "0", .str "1", .str "x"]) : FnOk P w K mg base CX0 1 f fd ["nodes"] (spHs K w) := by
  refine F.ok scHs (fun vs H Q E h => by obtain ⟨a, xs, ns, rfl, _⟩ := h; rfl) (fun cdv A outer s H vs Q E hr h => ?_)
  obtain ⟨a, xs, ns, rfl, ha, hN, few, ok, kn, q⟩ := h
  have nd := scHs.nd
  have hu := hr.units
  suffices y : ∃ t, PSs (cxOf CX0 P w K mg base nHs "handing_steps" (defScope (top 38)) f cdv A outer s H E).nox (defBody (top 38)) t ∧ t { nx := fun _ H' => Q .non H', rt := Q } (start nHs [.ref a]) H by
    obtain ⟨t, h1, h2⟩ := y
    exact ⟨t, h1.nox, h2⟩
  refine ⟨_, pss_one (ps_ret (pe_dcA2 (own := [("direction", 1), ("state", 2), ("letter", 3)]) (us := [3]) (wi := iList K (tVar 0)) (g := gTup K 2 (gCons (gName 1) (gCons (gName 2) gNil))) (wj := iTup K (tC (.ref aL))) (gj := gName 3) (tk := tTup (tCons (tVar 1) (tCons (tVar 2) (tCons (tVar 3) tNil)))) (tv := tTup (tCons (tVar 2) (tCons (tVar 3) tNil))) hu (by rfl) nd (pi_list (pv 0)) (blkOk_by (own := [("direction", 1), ("state", 2), ("letter", 3)]) (N := nHs) (sc := defScope (top 38)) (by decide +kernel)) (by decide)
    (fun _ _ _ _ _ => pg_tup (by rfl) (pgs_cons (pg_name (i := 1) nd rfl (.inl rfl)) (pgs_cons (pg_name (i := 2) nd rfl (.inl rfl)) pgs_nil))) (fun _ _ _ _ _ => pi_tup (pe_glob (by rfl) gL rfl)) (fun _ _ _ _ _ => pg_name (i := 3) nd rfl (.inl rfl))
    (fun _ _ _ _ _ => pe_tup (pa_cons (pv 1) (pa_cons (pv 2) (pa_cons (pv 3) pa_nil)))) (fun _ _ _ _ _ => pe_tup (pa_cons (pv 2) (pa_cons (pv 3) pa_nil))))), ?_⟩
  refine ⟨_, rfl, a, rfl, ⟨_, SqL.of ha⟩, fun d nd0 => ?_⟩
  have ln : xs.length = ns.length := (Paired.length hN).symm
  refine dc2_out (walk_list (K := K) (a := a) (xs := xs)) (fun i H' => Same H H' ∧ ∃ es, StT K w d (handE ns i 0) es H') ⟨same_upd nd0, [], ?_⟩ (fun i H' _ p => SqL.of (p.1 _ _ ha)) ?_ ?_
  · rw [show handE ns 0 0 = [] by simp [handE]]
    exact StT.nil upd_same
  · rintro i x H1 H2 hi ⟨s1, es, g⟩ ⟨rfl, hx⟩
    obtain ⟨n, hn, q0, rfl, hq0⟩ := pair_at hN hx
    refine ⟨q0, _, rfl, SqT.tups (same_tups s1) hq0, rfl, _, _, rfl, _, _, rfl, rfl, rfl, aL, rfl, ⟨_, hL _⟩, ?_⟩
    refine dc2_in (walk_tup (K := K) (a := aL) (xs := [.str "0", .str "1", .str "x"])) (fun j H' => Same H H' ∧ ∃ es, StT K w d (handE ns i j) es H') ⟨s1, es, g⟩ (fun _ H' _ _ => hL _) ?_ ?_
    · rintro j y H2 H3 hj ⟨s2, es2, g2⟩ ⟨rfl, hy⟩
      have hy : (lets.map V.str)[j]? = some y := hy
      rw [List.getElem?_map] at hy
      obtain ⟨c, hc, rfl⟩ := Option.map_eq_some_iff.mp hy
      have mn := ok n (List.mem_of_getElem? hn)
      have mc := let_ok c (List.mem_of_getElem? hc)
      refine ⟨rfl, _, rfl, _, rfl, _, rfl, (by show 3 ≤ sizeLine; rw [sizeLine_eq]; decide), fun p1 np1 => ⟨_, rfl, _, rfl, (by show 2 ≤ sizeLine; rw [sizeLine_eq]; decide), fun p2 np2 => ?_⟩⟩
      have u1 := same_upd (o := .tup [.str (wayS n.1), .str n.2, .str c]) np1
      have u2 := same_upd (o := .tup [.str n.2, .str c]) np2
      have g3 := g2.same (same_trans u1 u2)
      have hq1 : SqT K (upd (upd H3 p1 (.tup [.str (wayS n.1), .str n.2, .str c])) p2 (.tup [.str n.2, .str c])) p1 [.str (wayS n.1), .str n.2, .str c] := SqT.tups (same_tups u2) (SqT.of upd_same)
      have hq2 : SqT K (upd (upd H3 p1 (.tup [.str (wayS n.1), .str n.2, .str c])) p2 (.tup [.str n.2, .str c])) p2 [.str n.2, .str c] := SqT.of upd_same
      have len := g3.len
      have lh : (handE ns i j).length ≤ 1000 := by
        obtain ⟨r, e⟩ := handE_pre hn hc
        have z : (allE ns).length ≤ 3 * ns.length := Nat.le_of_eq allE_len
        rw [e, List.length_append] at z
        omega
      refine ⟨es2, Ent.key (n.1, n.2, c, n.2, c), g3.h, g3.da, nkS (s := tS n.2) (l := tS c) hq1 (tS_ok mn) (tS_ok mc), depS (s := tS n.2) (l := tS c) (tS_ok (K := K) (H := H) mn) (tS_ok (K := K) (H := H) mc), by rw [sizeLine_eq]; omega, ?_, ?_⟩
      · intro b o eb
        rw [upd_ne (ne_of_none eb nd0)]
        exact same_trans u1 u2 _ _ (s2 _ _ eb)
      · rw [handE_put hn hc]
        exact ⟨_, g3.put (y := (n.1, n.2, c, n.2, c)) ⟨mn, mc, mn, mc⟩ (fresh_of kn hn hc) hq1 hq2⟩
    · rintro H2 ⟨s2, es2, g2⟩
      refine ⟨s2, es2, ?_⟩
      rw [← handE_row (by omega)]
      exact g2
  · rintro H2 ⟨s2, es2, g2⟩
    rw [ln, handE_all] at g2
    exact q d es2 H2 nd0 s2 g2
end
end K38

set_option Elab.async false
set_option linter.all false
set_option maxRecDepth 100000
set_option maxHeartbeats 4000000
namespace K38
open PySem PySem.Spec PyProof.Rows L2 Pen Tr AK LamX
/-! ### adding_machine -/
def ns3 : List Node := [(false, "back"), (true, "keep"), (false, "end")]
def y1 : Ent := (true, "add", "0", "keep", "1")
def y2 : Ent := (true, "add", "1", "add", "0")
def y3 : Ent := (true, "add", "x", "add", "x")
def doneA : List Ent := ((allE ns3 ++ [y1]) ++ [y2]) ++ [y3]
theorem ns3_nd : ((allE ns3).map Ent.key).Nodup := by decide +kernel
theorem y1_new : Ent.key y1 ∉ (allE ns3).map Ent.key := by decide +kernel
theorem y2_new : Ent.key y2 ∉ (allE ns3 ++ [y1]).map Ent.key := by decide +kernel
theorem y3_new : Ent.key y3 ∉ ((allE ns3 ++ [y1]) ++ [y2]).map Ent.key := by decide +kernel
def doneT (g : Option Sy) (t : Option (Sy × Option Sy)) : List Tnt := [(false, "back", some (sA, none)), (true, "keep", some (sB, g)), (true, "add", t), (false, "end", none)]
section
variable {K : PySem.W.Frag} {w : World} {H H' : Hp} {d p : Addr} {done : List Ent} {tdone : List Tnt} {es et : List Eh} {g : Option Sy} {t : Option (Sy × Option Sy)}
theorem look_A {b : Bool} {d e : PyData} (hd : d ∈ (addM g t).sd b) (he : e ∈ ld2) : ∃ y ∈ doneA, Ent.key y = kS b d e ∧ V.str y.2.2.2.1 = (stepA d e).1.1 ∧ V.str y.2.2.2.2 = (stepA d e).2.1 := by
  cases b with
  | false =>
    rcases sd_l hd with rfl | rfl
    · rcases ld_2 he with rfl | rfl
      · exact ⟨(false, "back", "0", "back", "0"), by decide +kernel, rfl, by rw [st_B0]; rfl, by rw [st_B0]; rfl⟩
      · exact ⟨(false, "back", "1", "back", "1"), by decide +kernel, rfl, by rw [st_B1]; rfl, by rw [st_B1]; rfl⟩
    · rcases ld_2 he with rfl | rfl
      · exact ⟨(false, "end", "0", "end", "0"), by decide +kernel, rfl, by rw [st_E0]; rfl, by rw [st_E0]; rfl⟩
      · exact ⟨(false, "end", "1", "end", "1"), by decide +kernel, rfl, by rw [st_E1]; rfl, by rw [st_E1]; rfl⟩
  | true =>
    rcases sd_r hd with rfl | rfl
    · rcases ld_2 he with rfl | rfl
      · exact ⟨(true, "keep", "0", "keep", "0"), by decide +kernel, rfl, by rw [st_K0]; rfl, by rw [st_K0]; rfl⟩
      · exact ⟨(true, "keep", "1", "keep", "1"), by decide +kernel, rfl, by rw [st_K1]; rfl, by rw [st_K1]; rfl⟩
    · rcases ld_2 he with rfl | rfl
      · exact ⟨y1, by decide +kernel, rfl, by rw [st_A0]; rfl, by rw [st_A0]; rfl⟩
      · exact ⟨y2, by decide +kernel, rfl, by rw [st_A1]; rfl, by rw [st_A1]; rfl⟩
theorem tabA (gs : StT K w d doneA es H) (gt : TuT K w p (doneT g t) et H) : TabE K w H d p (addM g t) es et where
  h1 := gs.h
  h2 := gt.h
  d1 := gs.da
  d2 := gt.da
  s := fun b dd e hd he => by
    obtain ⟨y, hy, e1, e2, e3⟩ := look_A hd he
    obtain ⟨q, z1, z2⟩ := gs.look y hy
    rw [e1] at z1
    rw [e2, e3] at z2
    exact ⟨q, z1, z2⟩
  t := fun b dd hd => by
    cases b with
    | false =>
      rcases sd_l hd with rfl | rfl
      · rw [tn_B]
        exact gt.look (false, "back", some (sA, none)) (.head _)
      · rw [tn_E]
        exact gt.look (false, "end", none) (.tail _ (.tail _ (.tail _ (.head _))))
    | true =>
      rcases sd_r hd with rfl | rfl
      · rw [tn_K]
        exact gt.look (true, "keep", some (sB, g)) (.tail _ (.head _))
      · rw [tn_A]
        exact gt.look (true, "add", t) (.tail _ (.tail _ (.head _)))
  se := gs.se
  te := gt.te
  f1 := Nat.le_trans gs.len (by decide +kernel)
  f2 := Nat.le_trans gt.len (show 4 ≤ 900000 by decide)
theorem sq_new {G : Hp} {k : Addr} {xs : List V} (_n : G k = none) : SqT K (upd G k (.tup xs)) k xs := SqT.of upd_same
/-- a step is stored -/
theorem put_st {σ : L2.St} {R : L2.St → Hp → Prop} {i : Nat} (hσ : σ[i]? = some (some (.ref d))) (gs : StT K w d done es H) {y : Ent} (ok : Ent.ok y) (fresh : Ent.key y ∉ done.map Ent.key) (few : done.length ≤ 1000)
    (k : ∀ es' H', (∀ b o, H b = some o → b ≠ d → H' b = some o) → Tups H H' → StT K w d (done ++ [y]) es' H' → R σ H') :
    tTup (tCons (tC (.str y.2.2.2.1)) (tCons (tC (.str y.2.2.2.2)) tNil)) σ H fun v H1 => gSub (tVar i) (tTup (tCons (tC (.str (wayS y.1))) (tCons (tC (.str y.2.1)) (tCons (tC (.str y.2.2.1)) tNil)))) (rSetA K w) v σ H1 R := by
  refine ⟨(by show 2 ≤ sizeLine; rw [sizeLine_eq]; decide), fun r nr => ⟨_, hσ, (by show 3 ≤ sizeLine; rw [sizeLine_eq]; decide), fun q nq => ?_⟩⟩
  have u1 := same_upd (o := .tup [.str y.2.2.2.1, .str y.2.2.2.2]) nr
  have u2 := same_upd (o := .tup [.str (wayS y.1), .str y.2.1, .str y.2.2.1]) nq
  have g2 := gs.same (same_trans u1 u2)
  have hq : SqT K (upd (upd H r (.tup [.str y.2.2.2.1, .str y.2.2.2.2])) q (.tup [.str (wayS y.1), .str y.2.1, .str y.2.2.1])) q [.str (wayS y.1), .str y.2.1, .str y.2.2.1] := SqT.of upd_same
  have hr : SqT K (upd (upd H r (.tup [.str y.2.2.2.1, .str y.2.2.2.2])) q (.tup [.str (wayS y.1), .str y.2.1, .str y.2.2.1])) r [.str y.2.2.2.1, .str y.2.2.2.2] := SqT.tups (same_tups u2) (SqT.of upd_same)
  have len := g2.len
  refine ⟨d, es, Ent.key y, rfl, g2.h, g2.da, nkS (s := tS y.2.1) (l := tS y.2.2.1) hq (tS_ok ok.1) (tS_ok ok.2.1), depS (s := tS y.2.1) (l := tS y.2.2.1) (tS_ok (K := K) (H := H) ok.1) (tS_ok (K := K) (H := H) ok.2.1), by rw [sizeLine_eq]; omega, ?_⟩
  have g3 := g2.put ok fresh hq hr
  refine k _ _ (fun b o e nb => ?_) ?_ g3
  · rw [upd_ne nb]
    exact same_trans u1 u2 _ _ e
  · exact Tups.trans (same_tups (same_trans u1 u2)) (Tups.upd (dk_ntup g2.h))
/-- a turn is stored -/
theorem put_tu (gt : TuT K w p tdone et H) {y : Tnt} (ok : PyData.str y.2.1 ∈ menuD) (fresh : Tnt.key y ∉ tdone.map Tnt.key) (good : ∀ s2 x, y.2.2 = some (s2, x) → SyOk K H s2 ∧ ∀ l, x = some l → y.1 = true ∧ SyOk K H l) (few : tdone.length ≤ 1000) {q : Addr} {v : V} {r : List (V × V)} {Qp : Hp → Prop} (h1 : SqT K H q [.str (wayS y.1), .str y.2.1]) (h2 : TurnAt K H v y.2.2)
    (k : ∀ et' H', (∀ b o, H b = some o → b ≠ p → H' b = some o) → Tups H H' → TuT K w p (tdone ++ [y]) et' H' → tPutA K w p et' r H' Qp) : tPutA K w p et ((.ref q, v) :: r) H Qp := by
  have len := gt.len
  refine ⟨Tnt.key y, gt.da, nkT (s := tS y.2.1) h1 (tS_ok ok), depT (s := tS y.2.1) (tS_ok (K := K) (H := H) ok), by rw [sizeLine_eq]; omega, ?_⟩
  exact k _ _ (fun b o e nb => by rw [upd_ne nb]; exact e) (Tups.upd (dk_ntup gt.h)) (gt.put ok fresh good h1 h2)
end
section
variable {P : Program} {w : World} {K : PySem.W.Frag} {mg : Str → Option PySem.Value} {base : Heap} {f fH fS CS : Addr} {fd fdH fdS : FuncData} {H H' : Hp} {TT : List (Addr × Str)}
abbrev nAm : List Str := ["first", "grown", "turn", "steps", "turns"]
theorem scAm : FnScope nAm ["first", "grown", "turn"] (defScope (top 39)) := ⟨rfl, rfl, rfl, by decide +kernel, rfl, by decide +kernel, by decide +kernel⟩
def spAm (K : PySem.W.Frag) (w : World) (CS : Addr) (TT : List (Addr × Str)) : Sp := fun vs H Q _ => ∃ fi tv g t, ∃ ds : List Bool, vs = [.ref fi, optV g, tv] ∧ SqT K H fi ((dgR ds 0).map (·.1)) ∧ 2 ≤ (dgR ds 0).length ∧ (dgR ds 0).length ≤ 20000 ∧ TurnAt K H tv t ∧ GT g t ∧ Tabs TT H ∧
  ∀ sw H', ExtN H H' → Tabs TT H' → SwO K w CS H' sw (addM g t) (dgR ds 0) sB → Q (.ref sw) H'
theorem dg_ok {ds : List Bool} : ∀ s ∈ dgR ds 0, SyOk K H s ∧ s.2 ∈ ld2 := fun s hs => by
  unfold dgR at hs
  rw [show xRow 0 = [] from rfl, List.append_nil] at hs
  obtain ⟨c, _, rfl⟩ := List.mem_map.mp hs
  cases c
  · exact ⟨o0, l0⟩
  · exact ⟨o1, l1⟩
theorem ok_am (F : FnT K "adding_machine" 39 f fd) (FH : FnT K "handing_steps" 38 fH fdH) (gH : mg "handing_steps" = some (.ref fH)) (GH : FnOk P w K mg base CX0 1 fH fdH ["nodes"] (spHs K w))
    (FS : FnM K "__init__" "Sweeps.__init__" (cSw 0) fS fdS) (MS : Mk K CS fS) (gS : mg "Sweeps" = some (.ref CS)) (GS : GFn P w K mg base CX0 6 fS fdS ["self", "first", "begin", "steps", "turns"] (spSw K w CS TT)) : GFn P w K mg base CX0 8 f fd ["first", "grown", "turn"] (spAm K w CS TT) := by
  refine GFn.of F scAm (fun vs H Q E h => by obtain ⟨fi, tv, g, t, ds, rfl, _⟩ := h; rfl) (fun c A outer s0 H vs Q E hc hr free h => ?_)
  obtain ⟨fi, tv, g, t, ds, rfl, hfi, two, few, htv, G, tabs, q⟩ := h
  have nd := scAm.nd
  have hu := hr.units
  suffices z : ∃ t, PSs (cxOf CX0 P w K mg base nAm "adding_machine" (defScope (top 39)) f (.ref c) A outer s0 H E).nox (defBody (top 39)) t ∧ t { nx := fun _ H' => Q .non H', rt := Q } (start nAm [.ref fi, optV g, tv]) H by
    obtain ⟨t, h1, h2⟩ := z
    exact ⟨t, h1.nox, h2⟩
  have bH : L2.Binds K fdH ["nodes"] [] := FunD.bindsN FH fun _ _ _ _ _ _ us hl => match us, hl with | [_], _ => rfl
  have bS : L2.Binds K fdS ["self", "first", "begin", "steps", "turns"] [] := FunD.bindsN FS fun _ _ _ _ _ _ us hl => match us, hl with | [_, _, _, _, _], _ => rfl
  refine ⟨_, pss_cons (ps_asg (pe_call GH (hr.mono (by decide)) (by rfl) gH FH.kp bH .nil pass0 (pa_cons (pe_lst (pa_cons (pe_tup (pa_cons pe_str (pa_cons pe_str pa_nil))) (pa_cons (pe_tup (pa_cons pe_str (pa_cons pe_str pa_nil))) (pa_cons (pe_tup (pa_cons pe_str (pa_cons pe_str pa_nil))) pa_nil)))) pa_nil)) (pg_name (i := 3) nd rfl (.inl rfl)))
    (pss_cons (ps_asg (pe_tup (pa_cons pe_str (pa_cons pe_str pa_nil))) (pg_sub (pv 3) (pe_tup (pa_cons pe_str (pa_cons pe_str (pa_cons pe_str pa_nil)))) (set_dictA hu)))
    (pss_cons (ps_asg (pe_tup (pa_cons pe_str (pa_cons pe_str pa_nil))) (pg_sub (pv 3) (pe_tup (pa_cons pe_str (pa_cons pe_str (pa_cons pe_str pa_nil)))) (set_dictA hu)))
    (pss_cons (ps_asg (pe_tup (pa_cons pe_str (pa_cons pe_str pa_nil))) (pg_sub (pv 3) (pe_tup (pa_cons pe_str (pa_cons pe_str (pa_cons pe_str pa_nil)))) (set_dictA hu)))
    (pss_cons (ps_asg (pe_dispA hu (pps_cons (pe_tup (pa_cons pe_str (pa_cons pe_str pa_nil))) (pe_tup (pa_cons pe_str (pa_cons pe_non pa_nil))) (pps_cons (pe_tup (pa_cons pe_str (pa_cons pe_str pa_nil))) (pe_tup (pa_cons pe_str (pa_cons (pv 1) pa_nil))) (pps_cons (pe_tup (pa_cons pe_str (pa_cons pe_str pa_nil))) (pv 2) (pps_cons (pe_tup (pa_cons pe_str (pa_cons pe_str pa_nil))) pe_non pps_nil))))) (pg_name (i := 4) nd rfl (.inl rfl)))
    (pss_one (ps_ret (pe_makeG MS GS free (hr.mono (by decide)) (by rfl) gS bS pass0 (pa_cons (pv 0) (pa_cons pe_str (pa_cons (pv 3) (pa_cons (pv 4) pa_nil))))))))))), ?_⟩
  refine ⟨(by show 2 ≤ sizeLine; rw [sizeLine_eq]; decide), fun a1 na1 => ⟨(by show 2 ≤ sizeLine; rw [sizeLine_eq]; decide), fun a2 na2 => ⟨(by show 2 ≤ sizeLine; rw [sizeLine_eq]; decide), fun a3 na3 => ⟨(by show 3 ≤ sizeLine; rw [sizeLine_eq]; decide), fun L nL => ?_⟩⟩⟩⟩
  have u1 := same_upd (o := .tup [.str "l", .str "back"]) na1
  have u2 := same_upd (o := .tup [.str "r", .str "keep"]) na2
  have u3 := same_upd (o := .tup [.str "l", .str "end"]) na3
  have u4 := same_upd (o := .lst [.ref a1, .ref a2, .ref a3]) nL
  refine ⟨L, [.ref a1, .ref a2, .ref a3], ns3, rfl, upd_same, ?_, (by decide), ?_, ns3_nd, fun d es H1 nd1 s1 gs => ?_⟩
  · exact .cons ⟨a1, rfl, SqT.tups (same_tups (same_trans u2 (same_trans u3 u4))) (SqT.of upd_same)⟩ (.cons ⟨a2, rfl, SqT.tups (same_tups (same_trans u3 u4)) (SqT.of upd_same)⟩ (.cons ⟨a3, rfl, SqT.tups (same_tups u4) (SqT.of upd_same)⟩ .nil))
  · intro n hn
    simp only [ns3, List.mem_cons, List.not_mem_nil, or_false] at hn
    rcases hn with rfl | rfl | rfl
    · exact mB
    · exact mK
    · exact mE
  have sH := same_trans u1 (same_trans u2 (same_trans u3 u4))
  have nd0 : H d = none := by
    cases z : H d with
    | none => rfl
    | some o =>
      rw [sH _ _ z] at nd1
      cases nd1
  have sH1 := same_trans sH s1
  clear u1 u2 u3 u4 na1 na2 na3 nL nd1 s1 sH
  refine put_st (y := y1) rfl gs ⟨mA, m0, mK, m1⟩ y1_new (by decide +kernel) fun es2 H2 b2 t2 gs => ?_
  have sH2 : Same H H2 := fun b o e => b2 _ _ (sH1 _ _ e) (ne_of_none e nd0)
  clear b2 t2 sH1
  refine put_st (y := y2) rfl gs ⟨mA, m1, mA, m0⟩ y2_new (by decide +kernel) fun es3 H3 b3 t3 gs => ?_
  have sH3 : Same H H3 := fun b o e => b3 _ _ (sH2 _ _ e) (ne_of_none e nd0)
  clear b3 t3 sH2
  refine put_st (y := y3) rfl gs ⟨mA, x_menu, mA, x_menu⟩ y3_new (by decide +kernel) fun es4 H4 b4 t4 gs => ?_
  have sH4 : Same H H4 := fun b o e => b4 _ _ (sH3 _ _ e) (ne_of_none e nd0)
  clear b4 t4 sH3
  have sz2 : ∀ (a b : V), [a, b].length ≤ sizeLine := fun a b => by show 2 ≤ sizeLine; rw [sizeLine_eq]; decide
  refine fun D nD => ⟨sz2 _ _, fun k1 nk1 => ⟨sz2 _ _, fun v1 nv1 => ⟨sz2 _ _, fun k2 nk2 => ⟨_, rfl, sz2 _ _, fun v2 nv2 => ⟨sz2 _ _, fun k3 nk3 => ⟨_, rfl, sz2 _ _, fun k4 nk4 => ?_⟩⟩⟩⟩⟩⟩
  have w0 := same_upd (o := DkO w D []) nD
  have w1 := same_upd (o := .tup [.str "l", .str "back"]) nk1
  have w2 := same_upd (o := .tup [.str "add", .non]) nv1
  have w3 := same_upd (o := .tup [.str "r", .str "keep"]) nk2
  have w4 := same_upd (o := .tup [.str "back", optV g]) nv2
  have w5 := same_upd (o := .tup [.str "r", .str "add"]) nk3
  have w6 := same_upd (o := .tup [.str "l", .str "end"]) nk4
  have c5 := same_trans w5 w6
  have c4 := same_trans w4 c5
  have c3 := same_trans w3 c4
  have c2 := same_trans w2 c3
  have c1 := same_trans w1 c2
  have c0 := same_trans w0 c1
  have hk1 : SqT K _ k1 [.str "l", .str "back"] := SqT.tups (same_tups c2) (SqT.of upd_same)
  have hv1 : SqT K _ v1 [.str "add", .non] := SqT.tups (same_tups c3) (SqT.of upd_same)
  have hk2 : SqT K _ k2 [.str "r", .str "keep"] := SqT.tups (same_tups c4) (SqT.of upd_same)
  have hv2 : SqT K _ v2 [.str "back", optV g] := SqT.tups (same_tups c5) (SqT.of upd_same)
  have hk3 : SqT K _ k3 [.str "r", .str "add"] := SqT.tups (same_tups w6) (SqT.of upd_same)
  have hk4 := sq_new (K := K) (xs := [.str "l", .str "end"]) nk4
  have gt0 : TuT K w D [] [] _ := (TuT.nil upd_same).same c1
  have gsD := gs.same c0
  have sHf := same_trans sH4 c0
  have nDd : d ≠ D := ne_of_none gs.h nD
  have nDH : ∀ b o, H b = some o → b ≠ D := fun b o e => ne_of_none (sH4 _ _ e) nD
  have htv0 := htv.tups (same_tups sHf)
  refine ⟨gt0.h, ?_⟩
  clear w0 w1 w2 w3 w4 w5 w6 c5 c4 c3 c2 c1 c0 nk1 nv1 nk2 nv2 nk3 nk4 nD sH4 gs
  refine put_tu (y := (false, "back", some (sA, none))) gt0 mB (fun z => nomatch z) (fun s2 x e => by cases e; exact ⟨oA, fun l z => nomatch z⟩) (by decide) hk1 ⟨v1, rfl, hv1⟩ fun et1 G1 b1 t1 g1 => ?_
  refine put_tu (y := (true, "keep", some (sB, g))) g1 mK (show kT true (.str "keep") ∉ [kT false (.str "back")] by decide +kernel) (fun s2 x e => by
    cases e
    refine ⟨oB, fun l z => ?_⟩
    rw [G.g] at z
    cases z) (by decide) (SqT.tups t1 hk2) ⟨v2, rfl, SqT.tups t1 hv2⟩ fun et2 G2 b2 t2 g2 => ?_
  refine put_tu (y := (true, "add", t)) g2 mA (show kT true (.str "add") ∉ [kT false (.str "back"), kT true (.str "keep")] by decide +kernel) (fun s2 x e => by
    rcases G.t with z1 | z1
    · rw [show (true, "add", t).2.2 = t from rfl, z1] at e
      cases e
    · rw [show (true, "add", t).2.2 = t from rfl, z1] at e
      cases e
      exact ⟨oE, fun l z => nomatch z⟩) (show 2 ≤ 1000 by decide) (SqT.tups t2 (SqT.tups t1 hk3)) ((htv0.tups t1).tups t2) fun et3 G3 b3 t3 g3 => ?_
  refine put_tu (y := (false, "end", none)) g3 mE (show kT false (.str "end") ∉ [kT false (.str "back"), kT true (.str "keep"), kT true (.str "add")] by decide +kernel) (fun s2 x e => nomatch e) (show 3 ≤ 1000 by decide) (SqT.tups t3 (SqT.tups t2 (SqT.tups t1 hk4))) rfl fun et4 G4 b4 t4 g4 => ?_
  have tu : Tups _ G4 := Tups.trans t1 (Tups.trans t2 (Tups.trans t3 t4))
  have gs4 := gsD.keep tu (b4 _ _ (b3 _ _ (b2 _ _ (b1 _ _ gsD.h nDd) nDd) nDd) nDd)
  have s4 : Same H G4 := fun b o e => b4 _ _ (b3 _ _ (b2 _ _ (b1 _ _ (sHf _ _ e) (nDH _ _ e)) (nDH _ _ e)) (nDH _ _ e)) (nDH _ _ e)
  refine ⟨_, rfl, _, rfl, _, rfl, fun x dx nx ndx nn => ?_⟩
  have u5 : Same G4 (upd (upd G4 dx (.own x)) x (.ins CS dx [])) := ins_new nx ndx
  have sA := same_trans s4 u5
  exact ⟨x, dx, fi, d, D, addM g t, sB, es4, et4, dgR ds 0, rfl, upd_same, SqT.tups (same_tups sA) hfi, fun s hs => dg_ok s hs, two, few, ⟨oB, .head _⟩, addM_ok G, tabA (gs4.same u5) (g4.same u5), nDd, tabs.ext sA, fun H9 b9 t9 so => ⟨rfl, q x H9 (fun b o e nt => b9 _ _ (sA _ _ e) nt (ne_of_none (s4 _ _ e) nx)) t9 so⟩⟩
end
end K38

set_option Elab.async false
set_option linter.all false
set_option maxRecDepth 100000
set_option maxHeartbeats 4000000
namespace K38
open PySem PySem.Spec PyProof.Rows L2 Pen Tr AK LamX RU
section
variable {P : Program} {w : World} {K : PySem.W.Frag} {mg : Str → Option PySem.Value} {base : Heap} {f fI fD fA fW CS CB : Addr} {fd fdI fdD fdA fdW : FuncData} {H H' : Hp} {TT : List (Addr × Str)}
/-- a value that is no integer within these bounds -/
def OutD (d : PyData) (lo hi : Int) : Prop := isIntD d = false ∨ ∃ i : Int, d = .int i ∧ (i < lo ∨ hi < i)
def spCx (K : PySem.W.Frag) (CB : Addr) : Sp := fun vs H Q E => (∃ (z : Str) (n lo hi : Int), vs = [.str z, .int n, .int lo, .int hi] ∧ lo ≤ n ∧ n ≤ hi ∧ Q .non H) ∨
  (∃ (z : Str) (v : V) (d : PyData) (lo hi : Int), vs = [.str z, v, .int lo, .int hi] ∧ Dp K H v d ∧ OutD d lo hi ∧ ∀ dd H', Same H H' → H' dd = some (.xd [("number", v), ("what", .str z)]) → E (.ref CB) (some dd) H')
theorem ok_cx (F : FnT K "check_within" 35 f fd) (TX : Txt mg) (FI : FnT K "is_integer" 12 fI fdI) (gI : mg "is_integer" = some (.ref fI)) (EB : Er P w K mg base "BadNumber" CB ["what", "number"]) : FnOk P w K mg base (L2.CX P w) 3 f fd ["what", "number", "low", "high"] (spCx K CB) := by
  refine F.ok scCw (fun vs H Q E h => by obtain ⟨z, n, lo, hi, rfl, _⟩ | ⟨z, v, d, lo, hi, rfl, _⟩ := h <;> rfl) (fun cdv A outer s H vs Q E hr h => ?_)
  obtain ⟨a1, b1, c1, d1, evs⟩ : ∃ a1 b1 c1 d1, vs = [a1, b1, c1, d1] := by
    obtain ⟨z, n, lo, hi, rfl, _⟩ | ⟨z, v, d, lo, hi, rfl, _⟩ := h <;> exact ⟨_, _, _, _, rfl⟩
  subst evs
  have GI := ok_int (P := P) (w := w) (mg := mg) (base := base) FI TX
  have bI : L2.Binds K fdI ["value"] [] := FunD.bindsN FI fun _ _ _ _ _ _ us hl => match us, hl with | [_], _ => rfl
  refine ⟨_, pss_one (ps_if (PW.pt (pw_or (pt_not (pt_val (pe_call GI (hr.mono (by decide)) (by rfl) gI FI.kp bI .nil pass0 (pa_cons (pv 1) pa_nil)))) (pw_or1 (pt_not (pt_chain op_le op_le (pv 2) (pv 1) (pv 3))))))
      (pss_one (ps_raise rfl (takes_of rfl rfl rfl rfl) (pmk_er EB hr (by rfl) (pa_cons (pv 0) (pa_cons (pv 1) pa_nil))))) pss_nil), ?_⟩
  rcases h with ⟨z, n, lo, hi, e, h1, h2, q⟩ | ⟨z, v, d, lo, hi, e, hv, bad, q⟩
  · cases e
    refine ⟨_, rfl, .int n, .int n, rfl, .int _, isIntD (.int n), rfl, iteF ⟨_, rfl, _, rfl, lo, n, rfl, rfl, decide (lo ≤ n), rfl, ?_⟩⟩
    rw [decide_eq_true h1]
    refine iteT ⟨_, rfl, n, hi, rfl, rfl, decide (n ≤ hi), rfl, ?_⟩
    rw [decide_eq_true h2]
    exact iteF q
  · cases e
    refine ⟨_, rfl, b1, d, rfl, hv, isIntD d, rfl, ?_⟩
    cases hi' : isIntD d with
    | false =>
      exact iteT (iteT ⟨_, rfl, _, rfl, raise_sp rfl (by decide) fun dd hd H2 s2 e2 => q dd H2 s2 e2⟩)
    | true =>
      obtain ⟨i, rfl, out⟩ : ∃ i : Int, d = .int i ∧ (i < lo ∨ hi < i) := by
        rcases bad with bad | bad
        · rw [hi'] at bad
          cases bad
        · exact bad
      cases hv
      refine iteF ⟨_, rfl, _, rfl, lo, i, rfl, rfl, decide (lo ≤ i), rfl, ?_⟩
      by_cases c : lo ≤ i
      · rw [decide_eq_true c]
        refine iteT ⟨_, rfl, i, hi, rfl, rfl, decide (i ≤ hi), rfl, ?_⟩
        rw [decide_eq_false (by omega)]
        exact iteT ⟨_, rfl, _, rfl, raise_sp rfl (by decide) fun dd hd H2 s2 e2 => q dd H2 s2 e2⟩
      · rw [decide_eq_false c]
        exact iteF ⟨_, rfl, iteT ⟨_, rfl, _, rfl, raise_sp rfl (by decide) fun dd hd H2 s2 e2 => q dd H2 s2 e2⟩⟩
def aN (n : Nat) : Nat := 2 ^ dN n - n
end
end K38

set_option Elab.async false
set_option linter.all false
set_option maxRecDepth 100000
set_option maxHeartbeats 4000000
namespace K38
open PySem PySem.Spec PyProof.Rows L2 Pen Tr AK LamX RU
/-! ### the law's own digits -/
def bV (b : Bool) : V := .str (if b then "1" else "0")
theorem bS_v {ds : List Bool} : (ds.map bS).map (·.1) = ds.map bV := by
  rw [List.map_map]
  refine List.map_congr_left fun b _ => ?_
  cases b <;> rfl
theorem bits_snoc {v : Nat} : ∀ {j l : Nat}, j < l → (bitsN l v).take (j + 1) = (bitsN l v).take j ++ [decide (v / 2 ^ j % 2 = 1)] := fun {j l} h => by
  rw [bits_map, List.take_add_one, List.getElem?_map, List.getElem?_range h]
  rfl
section
variable {P : Program} {w : World} {K : PySem.W.Frag} {mg : Str → Option PySem.Value} {base : Heap} {f CS : Addr} {fd : FuncData} {H H' : Hp}
abbrev nRw : List Str := ["_law_value", "_law_wide", "_law_digits", "_law_place"]
theorem scRw : FnScope nRw ["_law_value", "_law_wide"] (defScope (top 47)) := ⟨rfl, rfl, rfl, by decide +kernel, rfl, by decide +kernel, by decide +kernel⟩
def spRw (K : PySem.W.Frag) : Sp := fun vs H Q _ => ∃ v l : Nat, vs = [.int v, .int l] ∧ l ≤ 100 ∧ ∀ p H', Same H H' → SqT K H' p ((bitsN l v).map bV) → Q (.ref p) H'
theorem ok_rw (F : FnT K "_law_sh_row" 47 f fd) (TX : Txt mg) : FnOk P w K mg base CX0 1 f fd ["_law_value", "_law_wide"] (spRw K) := by
  refine F.ok scRw (fun vs H Q E h => by obtain ⟨v, l, rfl, _⟩ := h; rfl) (fun cdv A outer s H vs Q E hr h => ?_)
  obtain ⟨v, l, rfl, l100, q⟩ := h
  have nd := scRw.nd
  suffices y : ∃ t, PSs (cxOf CX0 P w K mg base nRw "_law_sh_row" (defScope (top 47)) f cdv A outer s H E).nox (defBody (top 47)) t ∧ t { nx := fun _ H' => Q .non H', rt := Q } (start nRw [.int v, .int l]) H by
    obtain ⟨t, h1, h2⟩ := y
    exact ⟨t, h1.nox, h2⟩
  refine ⟨_, pss_cons (ps_asg (pe_lst pa_nil) (pg_name (i := 2) nd rfl (.inl rfl)))
    (pss_cons (ps_for PassesOwn.never rfl (pi_range1 (by rfl) TX.range (pa_cons (pv 1) pa_nil)) (pg_name (i := 3) nd rfl (.inl rfl))
      (pss_cons (ps_expr (pe_bm PySem.F.plainAttrs_list PySem.F.slot_list_append PySem.F.type_list_append mt_append (pv 2) (pa_cons (pe_ifExp (pt_cmpR op_eq (pe_op op_mod (pe_callTy call_int1 (by rfl) TX.int (by decide +kernel) (pa_cons (pv 0) pa_nil)) pe_int) pe_int (nomark _)) pe_str pe_str) pa_nil)))
      (pss_one (ps_asg (pe_op op_fdiv (pv 0) pe_int) (pg_name (i := 0) nd rfl (.inl rfl))))))
    (pss_one (ps_ret (pe_callTy call_tupR (by rfl) TX.tuple (by decide +kernel) (pa_cons (pv 2) pa_nil))))), ?_⟩
  refine ⟨(by show 0 ≤ sizeLine; exact Nat.zero_le _), fun D nD => ⟨_, rfl, (l : Int), rfl, by omega, by omega, ?_⟩⟩
  have el : (l : Int).toNat = l := by omega
  refine for_it (walk_range (lo := 0) (n := (l : Int).toNat)) (fun j σ H' => (∃ o, σ = [some (.int ((v / 2 ^ j : Nat) : Int)), some (.int l), some (.ref D), o]) ∧ Same H H' ∧ H' D = some (.lst (((bitsN l v).take j).map bV))) ?_ (fun _ _ _ _ _ => trivial) ?_ ?_
  · refine ⟨⟨none, ?_⟩, same_upd nD, upd_same⟩
    rw [Nat.pow_zero, Nat.div_one]
    rfl
  · rintro j y σ H3 H2 hj ⟨⟨o, rfl⟩, s2, hD⟩ ⟨rfl, rfl⟩
    rw [el] at hj
    have ev : ((v / 2 ^ j : Nat) : Int) / 2 = ((v / 2 ^ (j + 1) : Nat) : Int) := by
      rw [Nat.pow_succ, ← Nat.div_div_eq_div_mul]
      rfl
    have len : (((bitsN l v).take j).map bV).length < sizeLine := by
      rw [List.length_map, List.length_take, bits_len, sizeLine_eq]
      omega
    have sn := bits_snoc (v := v) hj
    refine ⟨_, rfl, .inl ⟨rfl, _, SqL.of hD⟩, _, rfl, .inl ⟨_, rfl, ((v / 2 ^ j : Nat) : Int), 2, rfl, rfl, (by show (0 : Int) < 2; decide), rfl, decide (V.int (((v / 2 ^ j : Nat) : Int) % 2) = V.int 1), rfl, ?_⟩⟩
    by_cases c : v / 2 ^ j % 2 = 1
    · rw [decide_eq_true (show V.int (((v / 2 ^ j : Nat) : Int) % 2) = V.int 1 by congr 1; omega)]
      rw [decide_eq_true c] at sn
      refine iteT ⟨D, _, .str "1", rfl, rfl, hD, len, ?_⟩
      refine ⟨_, rfl, ((v / 2 ^ j : Nat) : Int), 2, rfl, rfl, ⟨by decide, by decide⟩, ⟨_, by rw [← ev]; rfl⟩, fun b ob eb => ?_, ?_⟩
      · rw [upd_ne (ne_of_none eb nD)]
        exact s2 _ _ eb
      · rw [upd_same, sn, List.map_append]
        rfl
    · rw [decide_eq_false (show ¬ V.int (((v / 2 ^ j : Nat) : Int) % 2) = V.int 1 by intro z; injection z with z; omega)]
      rw [decide_eq_false c] at sn
      refine iteF ⟨D, _, .str "0", rfl, rfl, hD, len, ?_⟩
      refine ⟨_, rfl, ((v / 2 ^ j : Nat) : Int), 2, rfl, rfl, ⟨by decide, by decide⟩, ⟨_, by rw [← ev]; rfl⟩, fun b ob eb => ?_, ?_⟩
      · rw [upd_ne (ne_of_none eb nD)]
        exact s2 _ _ eb
      · rw [upd_same, sn, List.map_append]
        rfl
  · rintro σ H2 ⟨⟨o, rfl⟩, s2, hD⟩
    rw [el, show (bitsN l v).take l = bitsN l v from List.take_of_length_le (by rw [bits_len]; exact Nat.le_refl _)] at hD
    exact ⟨_, rfl, D, _, rfl, .inl (SqL.of hD), fun p H3 s3 hp => q p H3 (same_trans s2 s3) hp⟩
end
end K38

set_option Elab.async false
set_option linter.all false
set_option maxRecDepth 100000
set_option maxHeartbeats 4000000
namespace K38
open PySem PySem.Spec PyProof.Rows L2 Pen Tr AK LamX RU
section
variable {P : Program} {w : World} {K : PySem.W.Frag} {mg : Str → Option PySem.Value} {base : Heap} {f fD CS : Addr} {fd fdD : FuncData} {H H' : Hp}
abbrev nNb : List Str := ["_law_digits", "_law_value", "_law_power", "_law_digit"]
theorem scNb : FnScope nNb ["_law_digits"] (defScope (top 48)) := ⟨rfl, rfl, rfl, by decide +kernel, rfl, by decide +kernel, by decide +kernel⟩
def spNb (K : PySem.W.Frag) : Sp := fun vs H Q _ => ∃ q, ∃ l v : Nat, vs = [.ref q] ∧ SqT K H q ((bitsN l v).map bV) ∧ v < 2 ^ l ∧ l ≤ 100 ∧ ∀ H', Same H H' → Q (.int v) H'
theorem bits_at {l v j : Nat} {x : V} (h : ((bitsN l v).map bV)[j]? = some x) : x = bV (decide (v / 2 ^ j % 2 = 1)) ∧ j < l := by
  rw [bits_map, List.map_map, List.getElem?_map] at h
  obtain ⟨i, hi, rfl⟩ := Option.map_eq_some_iff.mp h
  obtain ⟨lt, e⟩ := List.getElem?_eq_some_iff.mp hi
  rw [List.getElem_range] at e
  subst e
  rw [List.length_range] at lt
  exact ⟨rfl, lt⟩
theorem ok_nb (F : FnT K "_law_sh_number" 48 f fd) : FnOk P w K mg base CX0 1 f fd ["_law_digits"] (spNb K) := by
  refine F.ok scNb (fun vs H Q E h => by obtain ⟨q, l, v, rfl, _⟩ := h; rfl) (fun cdv A outer s H vs Q E hr h => ?_)
  obtain ⟨a, l, v, rfl, ha, vl, l100, q⟩ := h
  have nd := scNb.nd
  suffices y : ∃ t, PSs (cxOf CX0 P w K mg base nNb "_law_sh_number" (defScope (top 48)) f cdv A outer s H E).nox (defBody (top 48)) t ∧ t { nx := fun _ H' => Q .non H', rt := Q } (start nNb [.ref a]) H by
    obtain ⟨t, h1, h2⟩ := y
    exact ⟨t, h1.nox, h2⟩
  refine ⟨_, pss_cons (ps_asg (pe_tup (pa_cons pe_int (pa_cons pe_int pa_nil))) (pg_tup (by rfl) (pgs_cons (pg_name (i := 1) nd rfl (.inl rfl)) (pgs_cons (pg_name (i := 2) nd rfl (.inl rfl)) pgs_nil))))
    (pss_cons (ps_for PassesOwn.never rfl (pi_tup (pv 0)) (pg_name (i := 3) nd rfl (.inl rfl))
      (pss_one (ps_par (i := 1) (j := 2) (by rfl) nd rfl rfl (by decide) (by rfl) (by rfl) (pa_cons (pe_op op_add (pv 1) (pe_ifExp (pt_cmpR op_eq (pv 3) pe_str (nomark _)) (pv 2) pe_int)) (pa_cons (pe_op op_mul (pv 2) pe_int) pa_nil)) (by rfl))))
    (pss_one (ps_ret (pv 1)))), ?_⟩
  refine ⟨(by show 2 ≤ sizeLine; rw [sizeLine_eq]; decide), fun p0 np0 => ⟨p0, _, rfl, SqT.of upd_same, rfl, _, _, rfl, _, _, rfl, rfl, ?_⟩⟩
  have u0 := same_upd (o := .tup [.int 0, .int 1]) np0
  have ha0 := SqT.tups (same_tups u0) ha
  refine ⟨_, rfl, a, rfl, ⟨_, ha0⟩, ?_⟩
  refine for_it (walk_tup (K := K) (a := a) (xs := (bitsN l v).map bV)) (fun j σ H' => (∃ o, σ = [some (.ref a), some (.int ((v % 2 ^ j : Nat) : Int)), some (.int ((2 ^ j : Nat) : Int)), o]) ∧ Same H H') ?_ ?_ ?_ ?_
  · refine ⟨⟨none, ?_⟩, u0⟩
    rw [Nat.pow_zero, Nat.mod_one]
    rfl
  · rintro i σ H' _ ⟨_, s⟩
    exact SqT.tups (same_tups s) ha
  · rintro j x σ H2 H3 hj ⟨⟨o, rfl⟩, s2⟩ ⟨rfl, hx⟩
    obtain ⟨rfl, jl⟩ := bits_at hx
    have e1 : v % 2 ^ (j + 1) = v % 2 ^ j + 2 ^ j * (v / 2 ^ j % 2) := Nat.mod_pow_succ
    have e2 : ((2 ^ j : Nat) : Int) * 2 = ((2 ^ (j + 1) : Nat) : Int) := by
      rw [Nat.pow_succ]
      rfl
    refine ⟨_, rfl, _, rfl, rfl, decide (bV (decide (v / 2 ^ j % 2 = 1)) = .str "1"), rfl, ?_⟩
    by_cases c : v / 2 ^ j % 2 = 1
    · rw [decide_eq_true c]
      rw [c, Nat.mul_one] at e1
      rw [decide_eq_true (show bV true = .str "1" from rfl)]
      refine iteT ⟨_, rfl, ((v % 2 ^ j : Nat) : Int), ((2 ^ j : Nat) : Int), rfl, rfl, _, rfl, ((2 ^ j : Nat) : Int), 2, rfl, rfl, .inr ⟨by decide, by decide⟩, _, _, rfl, ⟨some (bV true), ?_⟩, s2⟩
      rw [e1, ← e2]
      rfl
    · have c0 : v / 2 ^ j % 2 = 0 := by omega
      rw [decide_eq_false c]
      rw [c0, Nat.mul_zero, Nat.add_zero] at e1
      rw [decide_eq_false (show ¬ bV false = .str "1" by decide)]
      refine iteF ⟨((v % 2 ^ j : Nat) : Int), 0, rfl, rfl, _, rfl, ((2 ^ j : Nat) : Int), 2, rfl, rfl, .inr ⟨by decide, by decide⟩, _, _, rfl, ⟨some (bV false), ?_⟩, s2⟩
      rw [e1, ← e2]
      rfl
  · rintro σ H2 ⟨⟨o, rfl⟩, s2⟩
    refine ⟨_, rfl, ?_⟩
    rw [List.length_map, bits_len, Nat.mod_eq_of_lt vl]
    exact q _ s2
end
end K38

set_option Elab.async false
set_option linter.all false
set_option maxRecDepth 100000
set_option maxHeartbeats 4000000
namespace K38
open PySem PySem.Spec PyProof.Rows L2 Pen Tr AK LamX RU
def sN (n : Nat) : Nat := if n = 0 then 0 else aN n
theorem dN_least {n wd : Nat} (n1 : 1 ≤ n) (w2 : 2 ≤ wd) (h : n ≤ 2 ^ wd) (l : wd = 2 ∨ 2 ^ (wd - 1) < n) : dN n = wd := by
  obtain ⟨a, b, c⟩ := dN_hi n1 h w2
  rcases l with l | l
  · omega
  · by_cases z : dN n ≤ wd - 1
    · have := Nat.pow_le_pow_right (n := 2) (by decide) z
      omega
    · omega
section
variable {P : Program} {w : World} {K : PySem.W.Frag} {mg : Str → Option PySem.Value} {base : Heap} {f fD CS : Addr} {fd fdD : FuncData} {H H' : Hp}
abbrev nDg : List Str := ["_law_many", "_law_wide", "_law_power", "_law_rest", "_law_digits", "_law_place"]
theorem scDg : FnScope nDg ["_law_many"] (defScope (top 46)) := ⟨rfl, rfl, rfl, by decide +kernel, rfl, by decide +kernel, by decide +kernel⟩
def spDg (K : PySem.W.Frag) : Sp := fun vs H Q _ => ∃ n : Nat, vs = [.int n] ∧ n ≤ 10000 ∧ ∀ p q H', Same H H' → SqT K H' p [.ref q, .int (dN n : Nat)] → SqT K H' q ((bitsN (dN n) (sN n)).map bV) → Q (.ref p) H'
theorem ok_dg (F : FnT K "_law_sh_digits" 46 f fd) (TX : Txt mg) : FnOk P w K mg base CX0 1 f fd ["_law_many"] (spDg K) := by
  refine F.ok scDg (fun vs H Q E h => by obtain ⟨n, rfl, _⟩ := h; rfl) (fun cdv A outer s H vs Q E hr h => ?_)
  obtain ⟨n, rfl, n9, q⟩ := h
  have nd := scDg.nd
  suffices y : ∃ t, PSs (cxOf CX0 P w K mg base nDg "_law_sh_digits" (defScope (top 46)) f cdv A outer s H E).nox (defBody (top 46)) t ∧ t { nx := fun _ H' => Q .non H', rt := Q } (start nDg [.int n]) H by
    obtain ⟨t, h1, h2⟩ := y
    exact ⟨t, h1.nox, h2⟩
  refine ⟨_, pss_cons (ps_asg (pe_tup (pa_cons pe_int (pa_cons pe_int pa_nil))) (pg_tup (by rfl) (pgs_cons (pg_name (i := 1) nd rfl (.inl rfl)) (pgs_cons (pg_name (i := 2) nd rfl (.inl rfl)) pgs_nil))))
    (pss_cons (ps_while PassesOwn.never (pt_cmpR op_gt (pv 0) (pv 2) (nomark _)) (pss_one (ps_par (i := 1) (j := 2) (by rfl) nd rfl rfl (by decide) (by rfl) (by rfl) (pa_cons (pe_op op_add (pv 1) pe_int) (pa_cons (pe_op op_mul (pv 2) pe_int) pa_nil)) (by rfl))))
    (pss_cons (ps_par (i := 3) (j := 4) (by rfl) nd rfl rfl (by decide) (by rfl) (by rfl) (pa_cons (pe_ifExp (pt_cmpR op_eq (pv 0) pe_int (nomark _)) pe_int (pe_op op_sub (pv 2) (pv 0))) (pa_cons (pe_lst pa_nil) pa_nil)) (by rfl))
    (pss_cons (ps_for PassesOwn.never rfl (pi_range1 (by rfl) TX.range (pa_cons (pv 1) pa_nil)) (pg_name (i := 5) nd rfl (.inl rfl))
      (pss_cons (ps_expr (pe_bm PySem.F.plainAttrs_list PySem.F.slot_list_append PySem.F.type_list_append mt_append (pv 4) (pa_cons (pe_ifExp (pt_cmpR op_eq (pe_op op_mod (pe_callTy call_int1 (by rfl) TX.int (by decide +kernel) (pa_cons (pv 3) pa_nil)) pe_int) pe_int (nomark _)) pe_str pe_str) pa_nil)))
      (pss_one (ps_asg (pe_op op_fdiv (pv 3) pe_int) (pg_name (i := 3) nd rfl (.inl rfl))))))
    (pss_one (ps_ret (pe_tup (pa_cons (pe_callTy call_tupR (by rfl) TX.tuple (by decide +kernel) (pa_cons (pv 4) pa_nil)) (pa_cons (pv 1) pa_nil)))))))), ?_⟩
  rcases Nat.eq_zero_or_pos n with rfl | n1
  · refine ⟨(by show 2 ≤ sizeLine; rw [sizeLine_eq]; decide), fun p0 np0 => ⟨p0, _, rfl, SqT.of upd_same, rfl, _, _, rfl, _, _, rfl, rfl, ?_⟩⟩
    have u0 := same_upd (o := .tup [.int 2, .int 4]) np0
    refine ⟨fun m σ H' => m = 0 ∧ σ = [some (.int 0), some (.int 2), some (.int 4), none, none, none] ∧ Same H H', ⟨0, rfl, rfl, u0⟩, ?_⟩
    rintro m σ H1 ⟨rfl, rfl, s1⟩
    refine ⟨_, rfl, _, rfl, 0, 4, rfl, rfl, decide ((4 : Int) < 0), rfl, ?_⟩
    rw [decide_eq_false (show ¬ (4 : Int) < 0 by decide)]
    refine iteF ⟨_, rfl, rfl, decide (V.int 0 = V.int 0), rfl, ?_⟩
    rw [decide_eq_true (show V.int 0 = V.int 0 from rfl)]
    refine iteT ⟨(by show 0 ≤ sizeLine; exact Nat.zero_le _), fun D nD => ⟨_, _, rfl, ?_⟩⟩
    have u1 := same_upd (o := .lst []) nD
    obtain ⟨wd, hwd⟩ : ∃ wd : Nat, wd = 2 := ⟨2, rfl⟩
    obtain ⟨v, hv⟩ : ∃ v : Nat, v = 0 := ⟨0, rfl⟩
    have w14 : wd ≤ 14 := by omega
    have ed : dN (0 : Nat) = wd := by rw [hwd]; decide
    have el : (wd : Int).toNat = wd := by omega
    refine ⟨_, rfl, 2, rfl, by omega, by omega, ?_⟩
    rw [show (2 : Int).toNat = (wd : Int).toNat by rw [hwd]; rfl]
    refine for_it (walk_range (lo := 0) (n := (wd : Int).toNat)) (fun j σ H' => (∃ o, σ = [some (.int 0), some (.int 2), some (.int 4), some (.int ((v / 2 ^ j : Nat) : Int)), some (.ref D), o]) ∧ Same H1 H' ∧ H' D = some (.lst (((bitsN wd v).take j).map bV))) ?_ (fun _ _ _ _ _ => trivial) ?_ ?_
    · refine ⟨⟨none, ?_⟩, u1, upd_same⟩
      rw [hv]
      rfl
    · rintro j y σ H3 H2 hj ⟨⟨o, rfl⟩, s2, hD⟩ ⟨rfl, rfl⟩
      rw [el] at hj
      have ev : ((v / 2 ^ j : Nat) : Int) / 2 = ((v / 2 ^ (j + 1) : Nat) : Int) := by
        rw [Nat.pow_succ, ← Nat.div_div_eq_div_mul]
        rfl
      have len : (((bitsN wd v).take j).map bV).length < sizeLine := by
        rw [List.length_map, List.length_take, bits_len, sizeLine_eq]
        omega
      have sn := bits_snoc (v := v) hj
      refine ⟨_, rfl, .inl ⟨rfl, _, SqL.of hD⟩, _, rfl, .inl ⟨_, rfl, ((v / 2 ^ j : Nat) : Int), 2, rfl, rfl, (by show (0 : Int) < 2; decide), rfl, decide (V.int (((v / 2 ^ j : Nat) : Int) % 2) = V.int 1), rfl, ?_⟩⟩
      by_cases c : v / 2 ^ j % 2 = 1
      · rw [decide_eq_true (show V.int (((v / 2 ^ j : Nat) : Int) % 2) = V.int 1 by congr 1; omega)]
        rw [decide_eq_true c] at sn
        refine iteT ⟨D, _, .str "1", rfl, rfl, hD, len, ?_⟩
        refine ⟨_, rfl, ((v / 2 ^ j : Nat) : Int), 2, rfl, rfl, ⟨by decide, by decide⟩, ⟨_, by rw [← ev]; rfl⟩, fun b ob eb => ?_, ?_⟩
        · rw [upd_ne (ne_of_none eb nD)]
          exact s2 _ _ eb
        · rw [upd_same, sn, List.map_append]
          rfl
      · rw [decide_eq_false (show ¬ V.int (((v / 2 ^ j : Nat) : Int) % 2) = V.int 1 by intro z; injection z with z; omega)]
        rw [decide_eq_false c] at sn
        refine iteF ⟨D, _, .str "0", rfl, rfl, hD, len, ?_⟩
        refine ⟨_, rfl, ((v / 2 ^ j : Nat) : Int), 2, rfl, rfl, ⟨by decide, by decide⟩, ⟨_, by rw [← ev]; rfl⟩, fun b ob eb => ?_, ?_⟩
        · rw [upd_ne (ne_of_none eb nD)]
          exact s2 _ _ eb
        · rw [upd_same, sn, List.map_append]
          rfl
    · rintro σ H2 ⟨⟨o, rfl⟩, s2, hD⟩
      rw [el, show (bitsN wd v).take wd = bitsN wd v from List.take_of_length_le (by rw [bits_len]; exact Nat.le_refl _)] at hD
      refine ⟨_, rfl, D, _, rfl, .inl (SqL.of hD), fun p H3 s3 hp => ⟨_, rfl, (by show 2 ≤ sizeLine; rw [sizeLine_eq]; decide), fun p2 np2 => ?_⟩⟩
      have u4 := same_upd (o := .tup [.ref p, .int 2]) np2
      rw [hwd, hv] at hp
      exact q p2 p _ (same_trans s1 (same_trans s2 (same_trans s3 u4))) (SqT.of upd_same) (SqT.tups (same_tups u4) hp)
  · rw [show sN n = aN n from if_neg (by omega)] at q
    refine ⟨(by show 2 ≤ sizeLine; rw [sizeLine_eq]; decide), fun p0 np0 => ⟨p0, _, rfl, SqT.of upd_same, rfl, _, _, rfl, _, _, rfl, rfl, ?_⟩⟩
    have u0 := same_upd (o := .tup [.int 2, .int 4]) np0
    refine ⟨fun m σ H' => ∃ wd : Nat, m = 20 - wd ∧ 2 ≤ wd ∧ wd ≤ 14 ∧ (wd = 2 ∨ 2 ^ (wd - 1) < n) ∧ σ = [some (.int n), some (.int wd), some (.int ((2 ^ wd : Nat) : Int)), none, none, none] ∧ Same H H', ⟨_, 2, rfl, by decide, by decide, .inl rfl, rfl, u0⟩, ?_⟩
    rintro m σ H1 ⟨wd, rfl, w2, w14, lo, rfl, s1⟩
    refine ⟨_, rfl, _, rfl, (n : Int), ((2 ^ wd : Nat) : Int), rfl, rfl, decide (((2 ^ wd : Nat) : Int) < (n : Int)), rfl, ?_⟩
    by_cases c : 2 ^ wd < n
    · rw [decide_eq_true (show ((2 ^ wd : Nat) : Int) < (n : Int) by omega)]
      have w13 : wd ≤ 13 := by
        by_cases z : 14 ≤ wd
        · have := Nat.pow_le_pow_right (n := 2) (by decide) z
          have e : (2 : Nat) ^ 14 = 16384 := rfl
          omega
        · omega
      refine iteT ⟨fun σ' H' => ∃ m', m' < 20 - wd ∧ ∃ wd : Nat, m' = 20 - wd ∧ 2 ≤ wd ∧ wd ≤ 14 ∧ (wd = 2 ∨ 2 ^ (wd - 1) < n) ∧ σ' = [some (.int n), some (.int wd), some (.int ((2 ^ wd : Nat) : Int)), none, none, none] ∧ Same H H', fun σ' H' h => h, ?_⟩
      refine ⟨_, rfl, (wd : Int), 1, rfl, rfl, _, rfl, ((2 ^ wd : Nat) : Int), 2, rfl, rfl, .inr ⟨by decide, by decide⟩, _, _, rfl, 20 - (wd + 1), by omega, wd + 1, rfl, by omega, by omega, .inr (by rw [show wd + 1 - 1 = wd by omega]; exact c), ?_, s1⟩
      have e2 : ((2 ^ wd : Nat) : Int) * 2 = ((2 ^ (wd + 1) : Nat) : Int) := by
        rw [Nat.pow_succ]
        rfl
      rw [← e2]
      rfl
    · rw [decide_eq_false (show ¬ ((2 ^ wd : Nat) : Int) < (n : Int) by omega)]
      have ed : dN n = wd := dN_least n1 w2 (by omega) lo
      have ea : ((2 ^ wd : Nat) : Int) - (n : Int) = ((aN n : Nat) : Int) := by
        unfold aN
        rw [ed]
        omega
      refine iteF ⟨_, rfl, rfl, decide (V.int (n : Int) = V.int 0), rfl, ?_⟩
      rw [decide_eq_false (show ¬ V.int (n : Int) = V.int 0 by intro z; injection z with z; omega)]
      refine iteF ⟨_, rfl, _, rfl, ((2 ^ wd : Nat) : Int), (n : Int), rfl, rfl, (by show 0 ≤ sizeLine; exact Nat.zero_le _), fun D nD => ⟨_, _, rfl, ?_⟩⟩
      have u1 := same_upd (o := .lst []) nD
      refine ⟨_, rfl, (wd : Int), rfl, by omega, by omega, ?_⟩
      have el : (wd : Int).toNat = wd := by omega
      obtain ⟨v, hv⟩ : ∃ v, v = aN n := ⟨_, rfl⟩
      have ea2 : ((2 ^ wd : Nat) : Int) - (n : Int) = ((v / 2 ^ 0 : Nat) : Int) := by
        rw [ea, hv, Nat.pow_zero, Nat.div_one]
      refine for_it (walk_range (lo := 0) (n := (wd : Int).toNat)) (fun j σ H' => (∃ o, σ = [some (.int n), some (.int wd), some (.int ((2 ^ wd : Nat) : Int)), some (.int ((v / 2 ^ j : Nat) : Int)), some (.ref D), o]) ∧ Same H1 H' ∧ H' D = some (.lst (((bitsN wd v).take j).map bV))) ?_ (fun _ _ _ _ _ => trivial) ?_ ?_
      · refine ⟨⟨none, ?_⟩, u1, upd_same⟩
        rw [← ea2]
        rfl
      · rintro j y σ H3 H2 hj ⟨⟨o, rfl⟩, s2, hD⟩ ⟨rfl, rfl⟩
        rw [el] at hj
        have ev : ((v / 2 ^ j : Nat) : Int) / 2 = ((v / 2 ^ (j + 1) : Nat) : Int) := by
          rw [Nat.pow_succ, ← Nat.div_div_eq_div_mul]
          rfl
        have len : (((bitsN wd v).take j).map bV).length < sizeLine := by
          rw [List.length_map, List.length_take, bits_len, sizeLine_eq]
          omega
        have sn := bits_snoc (v := v) hj
        refine ⟨_, rfl, .inl ⟨rfl, _, SqL.of hD⟩, _, rfl, .inl ⟨_, rfl, ((v / 2 ^ j : Nat) : Int), 2, rfl, rfl, (by show (0 : Int) < 2; decide), rfl, decide (V.int (((v / 2 ^ j : Nat) : Int) % 2) = V.int 1), rfl, ?_⟩⟩
        by_cases c : v / 2 ^ j % 2 = 1
        · rw [decide_eq_true (show V.int (((v / 2 ^ j : Nat) : Int) % 2) = V.int 1 by congr 1; omega)]
          rw [decide_eq_true c] at sn
          refine iteT ⟨D, _, .str "1", rfl, rfl, hD, len, ?_⟩
          refine ⟨_, rfl, ((v / 2 ^ j : Nat) : Int), 2, rfl, rfl, ⟨by decide, by decide⟩, ⟨_, by rw [← ev]; rfl⟩, fun b ob eb => ?_, ?_⟩
          · rw [upd_ne (ne_of_none eb nD)]
            exact s2 _ _ eb
          · rw [upd_same, sn, List.map_append]
            rfl
        · rw [decide_eq_false (show ¬ V.int (((v / 2 ^ j : Nat) : Int) % 2) = V.int 1 by intro z; injection z with z; omega)]
          rw [decide_eq_false c] at sn
          refine iteF ⟨D, _, .str "0", rfl, rfl, hD, len, ?_⟩
          refine ⟨_, rfl, ((v / 2 ^ j : Nat) : Int), 2, rfl, rfl, ⟨by decide, by decide⟩, ⟨_, by rw [← ev]; rfl⟩, fun b ob eb => ?_, ?_⟩
          · rw [upd_ne (ne_of_none eb nD)]
            exact s2 _ _ eb
          · rw [upd_same, sn, List.map_append]
            rfl
      · rintro σ H2 ⟨⟨o, rfl⟩, s2, hD⟩
        rw [el, show (bitsN wd v).take wd = bitsN wd v from List.take_of_length_le (by rw [bits_len]; exact Nat.le_refl _)] at hD
        refine ⟨_, rfl, D, _, rfl, .inl (SqL.of hD), fun p H3 s3 hp => ⟨_, rfl, (by show 2 ≤ sizeLine; rw [sizeLine_eq]; decide), fun p2 np2 => ?_⟩⟩
        have u4 := same_upd (o := .tup [.ref p, .int wd]) np2
        rw [ed] at q
        rw [hv] at hp
        exact q p2 p _ (same_trans s1 (same_trans s2 (same_trans s3 u4))) (SqT.of upd_same) (SqT.tups (same_tups u4) hp)
end
end K38

set_option Elab.async false
set_option linter.all false
set_option maxRecDepth 100000
set_option maxHeartbeats 4000000
namespace K38
open PySem PySem.Spec PyProof.Rows L2 Pen Tr AK LamX RU
structure Ct (K : PySem.W.Frag) (mg : Str → Option PySem.Value) (x : Str) (C : Addr) (fs : List Str) : Prop where
  mgx : mg x = some (.ref C)
  xf : XfC K C
  no : ∀ f ∈ fs, PySem.W.findIn K (.ref C) f = some none
  ex : PySem.W.exmOne K (.ref C) (.ref C) = some true
def rowsD (rows : List (List Sy)) : PyData := .tuple (rows.map fun r => .tuple (r.map (·.2)))
section
variable {K : PySem.W.Frag} {H : Hp}
theorem sys_dp : ∀ {r : List Sy}, (∀ l ∈ r, SyOk K H l) → DpAll K H (r.map (·.1)) (r.map (·.2))
  | [], _ => .nil
  | s :: r, o => .cons (o s (List.mem_cons_self ..)).dp (sys_dp fun l hl => o l (List.mem_cons_of_mem _ hl))
theorem rows_dpAll : ∀ {rows : List (List Sy)} {xs : List V}, RowsV K H rows xs → (∀ r ∈ rows, ∀ l ∈ r, SyOk K H l) → DpAll K H xs (rows.map fun r => .tuple (r.map (·.2)))
  | _, _, .nil, _ => .nil
  | r :: rows, v :: xs, .cons ⟨q, e, hq⟩ h, o => by
    subst e
    exact .cons (.tup hq (sys_dp (o r (List.mem_cons_self ..)))) (rows_dpAll h fun r' hr' => o r' (List.mem_cons_of_mem _ hr'))
theorem rows_dp {rows : List (List Sy)} {xs : List V} {p : Addr} (hp : SqT K H p xs) (h : RowsV K H rows xs) (o : ∀ r ∈ rows, ∀ l ∈ r, SyOk K H l) : Dp K H (.ref p) (rowsD rows) := .tup hp (rows_dpAll h o)
end
theorem depthAll_of {m : Nat} : ∀ {ds : List PyData}, (∀ d ∈ ds, d.depth ≤ m) → PyData.depthAll ds ≤ m
  | [], _ => Nat.zero_le _
  | d :: ds, h => by
    have h1 := h d (List.mem_cons_self ..)
    have h2 := depthAll_of (ds := ds) fun e he => h e (List.mem_cons_of_mem _ he)
    simp only [PyData.depthAll]
    omega
theorem row_lay {ds : List PyData} (h : ∀ d ∈ ds, d ∈ menuD) : (PyData.tuple ds).canLay0 = true ∧ (PyData.tuple ds).depth ≤ 40 := by
  refine ⟨?_, ?_⟩
  · exact SeqAt.canLay_of_shaped (shaped_tuple fun d hd => ⟨(menu_show d (h d hd)).2.2.2.2, Nat.le_trans (menu_show d (h d hd)).2.2.1 (by decide)⟩)
  · have := depthAll_of (m := 1) (ds := ds) fun d hd => (menu_show d (h d hd)).2.2.1
    simp only [PyData.depth]
    omega
theorem rows_shaped {K : PySem.W.Frag} {H : Hp} {rows : List (List Sy)} (o : ∀ r ∈ rows, ∀ l ∈ r, SyOk K H l) : SeqAt.shaped (rowsD rows) = true := shaped_tuple fun d hd => by
  obtain ⟨r, hr, rfl⟩ := List.mem_map.mp hd
  exact row_lay fun x hx => by
    obtain ⟨s, hs, rfl⟩ := List.mem_map.mp hx
    exact (o r hr s hs).mem
section
variable {P : Program} {w : World} {K : PySem.W.Frag} {mg : Str → Option PySem.Value} {base : Heap} {f fD fS CS CB : Addr} {fd fdD fdS : FuncData} {H H' : Hp} {TT : List (Addr × Str)}
theorem scLo : FnScope ["sweeps"] ["sweeps"] (defScope (top 26)) := ⟨rfl, rfl, rfl, by decide +kernel, rfl, by decide +kernel, by decide +kernel⟩
def spLo (K : PySem.W.Frag) (w : World) (CS : Addr) : Sp := fun vs H Q _ => ∃ sw m first be, vs = [.ref sw] ∧ SwO K w CS H sw m first be ∧ ∀ v, LvOk K H m v → Q v H
theorem ok_lo (F : FnT K "letters_of" 26 f fd) (SF : SwF K CS) : FnOk P w K mg base CX0 1 f fd ["sweeps"] (spLo K w CS) := by
  refine F.ok scLo (fun vs H Q E h => by obtain ⟨n, _, _, _, rfl, _⟩ := h; rfl) (fun cdv A outer s H vs Q E hr h => ?_)
  obtain ⟨sw, m, first, be, rfl, so, q⟩ := h
  suffices z : ∃ t, PSs (cxOf CX0 P w K mg base ["sweeps"] "letters_of" (defScope (top 26)) f cdv A outer s H E).nox (defBody (top 26)) t ∧ t { nx := fun _ H' => Q .non H', rt := Q } (start ["sweeps"] [.ref sw]) H by
    obtain ⟨t, h1, h2⟩ := z
    exact ⟨t, h1.nox, h2⟩
  refine ⟨_, pss_one (ps_ret (pe_fld (pv 0) rfl)), ?_⟩
  obtain ⟨dx, fi, ds, dt, v, v2, h1, h2, h3, h4, h5⟩ := so.ex
  exact ⟨_, rfl, sw, CS, dx, _, v, rfl, h1, SF.cl, SF.le, rfl, q v h4⟩
theorem scSo : FnScope ["sweeps", "direction"] ["sweeps", "direction"] (defScope (top 27)) := ⟨rfl, rfl, rfl, by decide +kernel, rfl, by decide +kernel, by decide +kernel⟩
def spSo (K : PySem.W.Frag) (w : World) (CS : Addr) : Sp := fun vs H Q _ => ∃ sw m first be b, vs = [.ref sw, .str (wayS b)] ∧ SwO K w CS H sw m first be ∧ ∀ q xs, SqT K H q xs → xs.length ≤ (m.sd b).length → Q (.ref q) H
theorem nk_way {b : Bool} : NK K H (.text (wayS b)) (.str (wayS b)) := nk_text
theorem ok_so (F : FnT K "states_of" 27 f fd) (SF : SwF K CS) (FD : FnT K "is_direction" 3 fD fdD) (gD : mg "is_direction" = some (.ref fD)) (GD : FnOk P w K mg base CX0 1 fD fdD ["value"] (spDir K)) : FnOk P w K mg base CX0 2 f fd ["sweeps", "direction"] (spSo K w CS) := by
  refine F.ok scSo (fun vs H Q E h => by obtain ⟨n, _, _, _, b, rfl, _⟩ := h; rfl) (fun cdv A outer s H vs Q E hr h => ?_)
  obtain ⟨sw, m, first, be, b, rfl, so, q⟩ := h
  have hu := hr.units
  have bD : L2.Binds K fdD ["value"] [] := FunD.bindsN FD fun _ _ _ _ _ _ us hl => match us, hl with | [_], _ => rfl
  suffices z : ∃ t, PSs (cxOf CX0 P w K mg base ["sweeps", "direction"] "states_of" (defScope (top 27)) f cdv A outer s H E).nox (defBody (top 27)) t ∧ t { nx := fun _ H' => Q .non H', rt := Q } (start ["sweeps", "direction"] [.ref sw, .str (wayS b)]) H by
    obtain ⟨t, h1, h2⟩ := z
    exact ⟨t, h1.nox, h2⟩
  refine ⟨_, pss_cons (ps_if (pt_not (pt_val (pe_call GD hr (by rfl) gD FD.kp bD .nil pass0 (pa_cons (pv 1) pa_nil)))) Tr.pss_never pss_nil) (pss_one (ps_ret (pe_ix (ix_dictA hu) (pe_fld (pv 0) rfl) (pv 1) (fun _ _ => rfl)))), ?_⟩
  obtain ⟨dx, fi, ds, dt, v, v2, h1, h2, h3, h4, h5⟩ := so.ex
  obtain ⟨Dn, es, rfl, da, hs⟩ := h5.ex
  obtain ⟨q0, xs, z1, z2, z3⟩ := hs b
  refine ⟨_, rfl, b, rfl, true, rfl, iteF ?_⟩
  exact ⟨_, rfl, sw, CS, dx, _, .ref Dn, rfl, h1, SF.cl, SF.ss, rfl, _, rfl, Dn, es, .text (wayS b), .ref q0, rfl, da, nk_way, Nat.zero_le _, z1, q q0 xs z2 z3⟩
end
end K38

set_option Elab.async false
set_option linter.all false
set_option maxRecDepth 100000
set_option maxHeartbeats 4000000
namespace K38
open PySem PySem.Spec PyProof.Rows L2 Pen Tr AK LamX RU
/-! ### the rows of a square -/
def sqRow (l a p r : Nat) : List Sy := dgR (bitsN l (a + r / 2)) p
theorem last_sq {l a p k : Nat} : lastR ((List.range (k + 1)).map (sqRow l a p)) = sqRow l a p k := by
  rw [List.range_succ, List.map_append]
  exact last_app
theorem sq_twin {l a p k : Nat} (e : k % 2 = 0) : sqRow l a p (k + 1) = sqRow l a p k := by
  unfold sqRow
  rw [show (k + 1) / 2 = k / 2 by omega]
section
variable {t : Option (Sy × Option Sy)}
theorem rs_sq {l a n p : Nat} (n1 : 1 ≤ n) (h : a + n = 2 ^ l) : ∀ k, k ≤ 2 * n → rsAt (addM none t) (sqRow l a p 0) sB k = (decide (k % 2 = 1), if k = 2 * n then nextS t else some (if k % 2 = 1 then sA else sB), (List.range k).map (sqRow l a p) ++ [sqRow l a p k ++ if k = 2 * n then extR t else []])
  | 0, _ => by
    rw [if_neg (by omega), if_neg (show ¬ 0 = 2 * n by omega), List.append_nil]
    rfl
  | k + 1, hk => by
    have ih := rs_sq (p := p) n1 h k (by omega)
    rw [if_neg (show ¬ k = 2 * n by omega), if_neg (show ¬ k = 2 * n by omega), List.append_nil] at ih
    have er : (List.range k).map (sqRow l a p) ++ [sqRow l a p k] = (List.range (k + 1)).map (sqRow l a p) := by
      rw [List.range_succ, List.map_append]
      rfl
    rw [er] at ih
    show rsStep (addM none t) (rsAt (addM none t) _ sB k) = _
    rw [ih]
    unfold rsStep
    dsimp only
    rw [last_sq]
    rcases Nat.mod_two_eq_zero_or_one k with e | e
    · rw [show (k + 1) % 2 = 1 by omega, e, sq_twin e, if_neg (show ¬ k + 1 = 2 * n by omega), if_neg (show ¬ k + 1 = 2 * n by omega)]
      rw [show (if (0 : Nat) = 1 then sA else sB) = sB from rfl, show decide ((0 : Nat) = 1) = false from rfl]
      rw [show sweepM (addM none t) false sB (sqRow l a p k) = (sqRow l a p k, sB) from sweep_id keep_B]
      dsimp only
      rw [show (addM none t).turn false sB.2 = some (sA, none) from tn_B]
      simp only [nextS, extR, List.append_nil]
      rfl
    · have ib := inc_bits (l := l) (v := a + k / 2) (by omega)
      rw [show (k + 1) % 2 = 0 by omega, e]
      rw [show (if (1 : Nat) = 1 then sA else sB) = sA from rfl, show decide ((1 : Nat) = 1) = true from rfl]
      rw [show sweepM (addM none t) true sA (sqRow l a p k) = (dgR (inc (bitsN l (a + k / 2))).1 p, if (inc (bitsN l (a + k / 2))).2 then sA else sK) from add_sweep, ib]
      dsimp only
      have d1 : sqRow l a p (k + 1) = dgR (bitsN l (a + k / 2 + 1)) p := by
        unfold sqRow
        rw [show (k + 1) / 2 = k / 2 + 1 by omega, Nat.add_assoc]
      by_cases c : k + 1 = 2 * n
      · rw [decide_eq_true (show a + k / 2 + 1 = 2 ^ l by omega), if_pos c, if_pos c]
        rw [show (if true = true then sA else sK) = sA from rfl, show (addM none t).turn true sA.2 = t from tn_A, d1]
        rfl
      · rw [decide_eq_false (show ¬ a + k / 2 + 1 = 2 ^ l by omega), if_neg c, if_neg c]
        rw [show (if false = true then sA else sK) = sK from rfl, show (addM none t).turn true sK.2 = some (sB, none) from tn_K, d1]
        simp only [nextS, extR, List.append_nil]
        rfl
end
/-- an odd number of rows -/
theorem rs_odd {l a n p : Nat} (n1 : 1 ≤ n) (h : a + n = 2 ^ l) : rsAt (addM none none) (sqRow l a p 0) sB (2 * n) = (decide (2 * n % 2 = 1), none, (List.range (2 * n + 1)).map (sqRow l a p)) := by
  have z := rs_sq (t := none) (p := p) n1 h (2 * n) (Nat.le_refl _)
  rw [if_pos rfl, if_pos rfl, show extR none = [] from rfl, List.append_nil] at z
  rw [z, List.range_succ, List.map_append]
  rfl
/-- an even one -/
theorem rs_even {l a n p : Nat} (n1 : 1 ≤ n) (h : a + n = 2 ^ l) : ∃ b, rsAt (addM none (some (sE, none))) (sqRow l a p 0) sB (2 * n + 1) = (b, none, (List.range (2 * n + 2)).map (sqRow l a p)) := by
  have z := rs_sq (t := some (sE, none)) (p := p) n1 h (2 * n) (Nat.le_refl _)
  rw [if_pos rfl, if_pos rfl, show extR (some (sE, none)) = [] from rfl, List.append_nil] at z
  have er : (List.range (2 * n)).map (sqRow l a p) ++ [sqRow l a p (2 * n)] = (List.range (2 * n + 1)).map (sqRow l a p) := by
    rw [List.range_succ, List.map_append]
    rfl
  rw [er, show decide (2 * n % 2 = 1) = false from decide_eq_false (by omega)] at z
  refine ⟨true, ?_⟩
  show rsStep (addM none (some (sE, none))) (rsAt (addM none (some (sE, none))) _ sB (2 * n)) = _
  rw [z]
  unfold rsStep
  dsimp only [nextS]
  rw [last_sq, show sweepM (addM none (some (sE, none))) false sE (sqRow l a p (2 * n)) = (sqRow l a p (2 * n), sE) from sweep_id keep_E]
  dsimp only
  rw [show (addM none (some (sE, none))).turn false sE.2 = none from tn_E]
  simp only [extR, List.append_nil, Bool.not_false]
  rw [show List.range (2 * n + 2) = List.range (2 * n + 1) ++ [2 * n + 1] from List.range_succ, List.map_append, List.map_singleton, sq_twin (show 2 * n % 2 = 0 by omega)]
theorem rs_two {p : Nat} : ∃ b, rsAt endM (sqRow 2 4 p 0) sE 1 = (b, none, (List.range 2).map (sqRow 2 4 p)) := by
  refine ⟨true, ?_⟩
  show rsStep endM (false, some sE, [sqRow 2 4 p 0]) = _
  unfold rsStep
  dsimp only
  rw [show lastR [sqRow 2 4 p 0] = sqRow 2 4 p 0 from rfl]
  have id : ∀ s ∈ sqRow 2 4 p 0, endM.step false sE.2 s.2 = (sE, s) := fun s hs => by
    rcases dg_mem hs with rfl | rfl | rfl
    · rfl
    · rfl
    · rfl
  rw [show sweepM endM false sE (sqRow 2 4 p 0) = (sqRow 2 4 p 0, sE) from sweep_id id]
  dsimp only
  rw [show endM.turn false sE.2 = none from rfl]
  simp only [nextS, extR, List.append_nil, Bool.not_false]
  rfl
end K38

set_option Elab.async false
set_option linter.all false
set_option maxRecDepth 100000
set_option maxHeartbeats 4000000
namespace K38
open PySem PySem.Spec PyProof.Rows L2 Pen Tr AK LamX RU
/-! ### a square's machine, all that is known -/
structure SqM (K : PySem.W.Frag) (m : Mac) (be : Sy) (l a N : Nat) : Prop where
  mac : ∀ H, MacOk K H m
  fs : ∀ H, ∀ s ∈ sqRow l a 0 0, SyOk K H s ∧ s.2 ∈ m.ld
  be_ : ∀ H, SyOk K H be ∧ be.2 ∈ m.sd false
  two : ∀ b, (m.sd b).length ≤ 2
  ld : m.ld = ld2
  more : (rsAt m (sqRow l a 0 0) be (N - 2)).2.1 ≠ none
  run : ∃ b, rsAt m (sqRow l a 0 0) be (N - 1) = (b, none, (List.range N).map (sqRow l a 0))
theorem sq_two {K : PySem.W.Frag} : SqM K endM sE (dN ((2 - 1) / 2 : Nat)) (aN ((2 - 1) / 2)) 2 :=
  ⟨fun H => endM_ok, fun H s hs => dg_ok s hs, fun H => ⟨oE, .head _⟩, fun b => by cases b; exact (show 1 ≤ 2 by decide); exact (show 0 ≤ 2 by decide), rfl, (fun z => nomatch (show some sE = none from z)), rs_two⟩
theorem sq_sum {n : Nat} (h : 1 ≤ n) : aN n + n = 2 ^ dN n := by
  obtain ⟨_, _, d9⟩ := dN_hi (n := n) (b := n + 2) h (by
    have z := Nat.lt_two_pow_self (n := n)
    have : 2 ^ n ≤ 2 ^ (n + 2) := Nat.pow_le_pow_right (by decide) (by omega)
    omega) (by omega)
  unfold aN
  omega
theorem sq_many {K : PySem.W.Frag} {n : Nat} {t : Option (Sy × Option Sy)} (h : 1 ≤ (n - 1) / 2) (tp : (n % 2 = 1 → t = none) ∧ (n % 2 = 0 → t = some (sE, none))) (ht : t = none ∨ t = some (sE, none)) : SqM K (addM none t) sB (dN ((n - 1) / 2 : Nat)) (aN ((n - 1) / 2)) n := by
  obtain ⟨k, hk⟩ : ∃ k, k = (n - 1) / 2 := ⟨_, rfl⟩
  rw [← hk] at h ⊢
  have an := sq_sum h
  refine ⟨fun H => addM_ok ⟨rfl, ht⟩, fun H s hs => dg_ok s hs, fun H => ⟨oB, .head _⟩, fun b => by cases b; exact (show 2 ≤ 2 by decide); exact (show 2 ≤ 2 by decide), rfl, ?_, ?_⟩
  · rw [rs_sq (t := t) (p := 0) h an (n - 2) (by omega)]
    by_cases c : n - 2 = 2 * k
    · rw [if_pos c, tp.2 (by omega)]
      exact fun z => nomatch (show some sE = none from z)
    · rw [if_neg c]
      exact fun z => nomatch z
  · rcases Nat.mod_two_eq_zero_or_one n with e | e
    · rw [tp.2 e, show n - 1 = 2 * k + 1 by omega]
      obtain ⟨b, z⟩ := rs_even (p := 0) h an
      exact ⟨b, by rw [z, show n = 2 * k + 2 by omega]⟩
    · rw [tp.1 e, show n - 1 = 2 * k by omega]
      exact ⟨_, by rw [rs_odd (p := 0) h an, show n = 2 * k + 1 by omega]⟩
def ns1 : List Node := [(false, "end")]
theorem ns1_nd : ((allE ns1).map Ent.key).Nodup := by decide +kernel
section
variable {K : PySem.W.Frag} {w : World} {H H' : Hp} {d p : Addr} {es et : List Eh}
theorem tabEnd (gs : StT K w d (allE ns1) es H) (gt : TuT K w p [(false, "end", none)] et H) : TabE K w H d p endM es et where
  h1 := gs.h
  h2 := gt.h
  d1 := gs.da
  d2 := gt.da
  s := fun b dd e hd he => by
    obtain ⟨rfl, rfl⟩ := endM_sd hd
    rcases ld_2 he with rfl | rfl
    · exact gs.look (false, "end", "0", "end", "0") (by decide +kernel)
    · exact gs.look (false, "end", "1", "end", "1") (by decide +kernel)
  t := fun b dd hd => by
    obtain ⟨rfl, rfl⟩ := endM_sd hd
    exact gt.look (false, "end", none) (.head _)
  se := gs.se
  te := gt.te
  f1 := Nat.le_trans gs.len (by decide +kernel)
  f2 := Nat.le_trans gt.len (show 1 ≤ 900000 by decide)
theorem dg_v {ds : List Bool} {p : Nat} : (dgR ds p).map (·.1) = (ds.map bS).map (·.1) ++ List.replicate p (V.str "x") := by
  unfold dgR
  rw [List.map_append, xRow_v]
theorem dg_len {ds : List Bool} {p : Nat} : (dgR ds p).length = ds.length + p := by
  unfold dgR xRow
  rw [List.length_append, List.length_map, List.length_replicate]
end
section
variable {P : Program} {w : World} {K : PySem.W.Frag} {mg : Str → Option PySem.Value} {base : Heap} {f fH fS fN fD fA fC fW CS CB : Addr} {fd fdH fdS fdN fdD fdA fdC fdW : FuncData} {H H' : Hp} {TT : List (Addr × Str)}
def Made (K : PySem.W.Frag) (w : World) (CS : Addr) (TT : List (Addr × Str)) (H : Hp) (n : Nat) (Q : VK) : Prop := ∀ sw H' m be, ExtN H H' → Tabs TT H' → SwO K w CS H' sw m (sqRow (dN ((n - 1) / 2 : Nat)) (aN ((n - 1) / 2)) 0 0) be → SqM K m be (dN ((n - 1) / 2 : Nat)) (aN ((n - 1) / 2)) n → Q (.ref sw) H'
abbrev nCm : List Str := ["rows", "padding", "many", "turn"]
theorem scCm : FnScope nCm ["rows", "padding"] (defScope (top 40)) := ⟨rfl, rfl, rfl, by decide +kernel, rfl, by decide +kernel, by decide +kernel⟩
def spCm (K : PySem.W.Frag) (w : World) (CS : Addr) (TT : List (Addr × Str)) : Sp := fun vs H Q _ => ∃ (n : Nat) (pa : Addr), vs = [.int n, .ref pa] ∧ 2 ≤ n ∧ n ≤ 1000000 ∧ SqT K H pa (List.replicate 0 (V.str "x")) ∧ Tabs TT H ∧ Made K w CS TT H n Q
theorem ok_cm (F : FnT K "counting_machine" 40 f fd) (FH : FnT K "handing_steps" 38 fH fdH) (gH : mg "handing_steps" = some (.ref fH)) (GH : FnOk P w K mg base CX0 1 fH fdH ["nodes"] (spHs K w))
    (FS : FnM K "__init__" "Sweeps.__init__" (cSw 0) fS fdS) (MS : Mk K CS fS) (gS : mg "Sweeps" = some (.ref CS)) (GS : GFn P w K mg base CX0 6 fS fdS ["self", "first", "begin", "steps", "turns"] (spSw K w CS TT))
    (FD : FnT K "digits_that_run_over" 37 fD fdD) (gD : mg "digits_that_run_over" = some (.ref fD)) (GD : FnOk P w K mg base CX0 2 fD fdD ["many"] (spDr K))
    (FA : FnT K "adding_machine" 39 fA fdA) (gA : mg "adding_machine" = some (.ref fA)) (GA : GFn P w K mg base CX0 8 fA fdA ["first", "grown", "turn"] (spAm K w CS TT)) : GFn P w K mg base CX0 9 f fd ["rows", "padding"] (spCm K w CS TT) := by
  refine GFn.of F scCm (fun vs H Q E h => by obtain ⟨n, pa, rfl, _⟩ := h; rfl) (fun c A outer s0 H vs Q E hc hr free h => ?_)
  obtain ⟨n, pa, rfl, n2, n41, hpa, tabs, q⟩ := h
  unfold Made at q
  have nd := scCm.nd
  have hu := hr.units
  suffices z : ∃ t, PSs (cxOf CX0 P w K mg base nCm "counting_machine" (defScope (top 40)) f (.ref c) A outer s0 H E).nox (defBody (top 40)) t ∧ t { nx := fun _ H' => Q .non H', rt := Q } (start nCm [.int n, .ref pa]) H by
    obtain ⟨t, h1, h2⟩ := z
    exact ⟨t, h1.nox, h2⟩
  have bH : L2.Binds K fdH ["nodes"] [] := FunD.bindsN FH fun _ _ _ _ _ _ us hl => match us, hl with | [_], _ => rfl
  have bD : L2.Binds K fdD ["many"] [] := FunD.bindsN FD fun _ _ _ _ _ _ us hl => match us, hl with | [_], _ => rfl
  have bA : L2.Binds K fdA ["first", "grown", "turn"] [] := FunD.bindsN FA fun _ _ _ _ _ _ us hl => match us, hl with | [_, _, _], _ => rfl
  have bSw : L2.Binds K fdS ["self", "first", "begin", "steps", "turns"] [] := FunD.bindsN FS fun _ _ _ _ _ _ us hl => match us, hl with | [_, _, _, _, _], _ => rfl
  refine ⟨_, pss_cons (ps_asg (pe_op op_fdiv (pe_op op_sub (pv 0) pe_int) pe_int) (pg_name (i := 2) nd rfl (.inl rfl)))
    (pss_cons (ps_if (pt_cmpR op_eq (pv 2) pe_int (nomark _)) (pss_one (ps_ret (pe_makeG MS GS free (hr.mono (by decide)) (by rfl) gS bSw pass0 (pa_cons (pe_op op_catU (pe_tup (pa_cons pe_str (pa_cons pe_str pa_nil))) (pv 1)) (pa_cons pe_str
        (pa_cons (pe_call GH (hr.mono (by decide)) (by rfl) gH FH.kp bH .nil pass0 (pa_cons (pe_lst (pa_cons (pe_tup (pa_cons pe_str (pa_cons pe_str pa_nil))) pa_nil)) pa_nil)) (pa_cons (pe_dispA hu (pps_cons (pe_tup (pa_cons pe_str (pa_cons pe_str pa_nil))) pe_non pps_nil)) pa_nil))))))) pss_nil)
    (C8.pss_cut (ps_asg (pe_ifExp (pt_cmpR op_eq (pe_op op_mod (pv 0) pe_int) pe_int (nomark _)) pe_non (pe_tup (pa_cons pe_str (pa_cons pe_non pa_nil)))) (pg_name (i := 3) nd rfl (.inl rfl)))
    (pss_one (ps_ret (pe_callG GA free hr (by rfl) gA FA.kp bA pass0 (pa_cons (pe_op op_catU (pe_call GD (hr.mono (by decide)) (by rfl) gD FD.kp bD .nil pass0 (pa_cons (pv 2) pa_nil)) (pv 1)) (pa_cons pe_non (pa_cons (pv 3) pa_nil)))))))), ?_⟩
  obtain ⟨mN, hm⟩ : ∃ mN : Nat, ((n : Int) - 1) / 2 = mN := ⟨(n - 1) / 2, by omega⟩
  have sz1 : ∀ (a : V), [a].length ≤ sizeLine := fun a => by show 1 ≤ sizeLine; rw [sizeLine_eq]; decide
  have sz2 : ∀ (a b : V), [a, b].length ≤ sizeLine := fun a b => by show 2 ≤ sizeLine; rw [sizeLine_eq]; decide
  have lp : ∀ k : Nat, k ≤ 20 → k + (List.replicate 0 (V.str "x")).length ≤ sizeLine := fun k hk => by rw [List.length_replicate, sizeLine_eq]; omega
  refine ⟨_, rfl, n, 1, rfl, rfl, n - 1, 2, rfl, rfl, ⟨by decide, by decide⟩, ?_⟩
  show gName 2 (V.int (((n : Int) - 1) / 2)) _ _ _
  rw [hm]
  refine ⟨_, rfl, rfl, decide (V.int (mN : Int) = V.int 0), rfl, ?_⟩
  by_cases z : mN = 0
  · rw [decide_eq_true (show V.int (mN : Int) = V.int 0 by rw [z]; rfl)]
    refine iteT ⟨sz2 _ _, fun a na => ⟨_, rfl, a, pa, _, _, rfl, rfl, sq_new na, SqT.tups (same_tups (same_upd na)) hpa, lp 2 (by decide), fun fi G sG hfi => ⟨sz2 _ _, fun b1 nb1 => ⟨sz1 _, fun L nL => ⟨L, [.ref b1], ns1, rfl, upd_same, .cons ⟨b1, rfl, SqT.tups (same_tups (same_upd nL)) (sq_new nb1)⟩ .nil, (by decide), ?_, ns1_nd, fun d es H1 nd1 s1 gs => ?_⟩⟩⟩⟩⟩
    · intro y hy
      obtain rfl := List.mem_singleton.mp hy
      exact mE
    have sGH := same_trans (same_upd nb1) (same_trans (same_upd nL) s1)
    have sH1 : Same H H1 := same_trans (same_upd na) (same_trans sG sGH)
    have hfi1 := SqT.tups (same_tups sGH) hfi
    refine fun D nD => ⟨sz2 _ _, fun k1 nk1 => ?_⟩
    have gt0 : TuT K w D [] [] _ := (TuT.nil upd_same).same (same_upd (o := .tup [.str "l", .str "end"]) nk1)
    have c0 := same_trans (same_upd (o := DkO w D []) nD) (same_upd (o := .tup [.str "l", .str "end"]) nk1)
    have gsD := gs.same c0
    have nDd : d ≠ D := ne_of_none gs.h nD
    refine ⟨gt0.h, put_tu (y := (false, "end", none)) gt0 mE (fun z => nomatch z) (fun s2 x e => nomatch e) (by decide) (sq_new nk1) rfl fun et1 G1 b1' t1 g1 => ?_⟩
    have gs1 := gsD.keep t1 (b1' _ _ gsD.h nDd)
    have s4 : Same H G1 := fun b o e => b1' _ _ (c0 _ _ (sH1 _ _ e)) (ne_of_none (sH1 _ _ e) nD)
    have hfi2 := SqT.tups t1 (SqT.tups (same_tups c0) hfi1)
    refine fun x dx nx ndx nn => ?_
    have u5 : Same G1 (upd (upd G1 dx (.own x)) x (.ins CS dx [])) := ins_new nx ndx
    have sA := same_trans s4 u5
    have en : n = 2 := by omega
    subst en
    have e0 : (dgR [false, false] 0).map (·.1) = [V.str "0", V.str "0"] ++ List.replicate 0 (V.str "x") := dg_v
    have l0 : (dgR [false, false] 0).length = 2 + 0 := dg_len
    have q := q x
    exact ⟨x, dx, fi, d, D, endM, sE, es, et1, dgR [false, false] 0, rfl, upd_same, (by rw [e0]; exact SqT.tups (same_tups u5) hfi2), fun s hs => dg_ok s hs, by omega, by omega, ⟨oE, .head _⟩, endM_ok, tabEnd (gs1.same u5) (g1.same u5), nDd, tabs.ext sA, fun H9 b9 t9 so => ⟨rfl, q H9 endM sE (fun b o e nt => b9 _ _ (sA _ _ e) nt (ne_of_none (s4 _ _ e) nx)) t9 so sq_two⟩⟩
  · rw [decide_eq_false (show ¬ V.int (mN : Int) = V.int 0 by intro y; injection y with y; omega)]
    refine iteF ⟨fun σ H' => ∃ tv t, σ = [some (.int n), some (.ref pa), some (.int mN), some tv] ∧ Same H H' ∧ TurnAt K H' tv t ∧ (t = none ∨ t = some (sE, none)) ∧ (n % 2 = 1 → t = none) ∧ (n % 2 = 0 → t = some (sE, none)), ?_, ?_⟩
    · refine ⟨_, rfl, n, 2, rfl, rfl, (by show (0 : Int) < 2; decide), rfl, decide (V.int ((n : Int) % 2) = V.int 1), rfl, ?_⟩
      by_cases c1 : (n : Int) % 2 = 1
      · rw [decide_eq_true (show V.int ((n : Int) % 2) = V.int 1 by rw [c1])]
        exact iteT ⟨.non, none, rfl, same_refl, rfl, .inl rfl, fun _ => rfl, fun z => by omega⟩
      · rw [decide_eq_false (show ¬ V.int ((n : Int) % 2) = V.int 1 by intro y; injection y with y; exact c1 y)]
        exact iteF ⟨sz2 _ _, fun r nr => ⟨.ref r, some (sE, none), rfl, same_upd nr, ⟨r, rfl, sq_new nr⟩, .inr rfl, fun z => by omega, fun _ => rfl⟩⟩
    · rintro σ H2 ⟨tv, t, rfl, s2, htv, ht, tp⟩
      refine ⟨_, rfl, mN, rfl, by omega, by omega, fun q0 G sG hds => ?_⟩
      obtain ⟨d2, d6, d9⟩ := dN_hi (n := mN) (b := 19) (by omega) (show mN ≤ 2 ^ 19 by have : (2 : Nat) ^ 19 = 524288 := rfl; omega) (by decide)
      obtain ⟨ds, eds⟩ : ∃ ds, ds = bitsN (dN mN) (2 ^ dN mN - mN) := ⟨_, rfl⟩
      rw [← eds] at hds
      have lds : ds.length = dN mN := by rw [eds, bits_len]
      have ld : ((ds.map bS).map (·.1)).length = ds.length := by rw [List.length_map, List.length_map]
      refine ⟨_, rfl, q0, pa, _, _, rfl, rfl, hds, SqT.tups (same_tups (same_trans s2 sG)) hpa, (by rw [ld, lds]; exact lp _ (by omega)), fun fi G2 sG2 hfi => ?_⟩
      have sA := same_trans s2 (same_trans sG sG2)
      have ll : (dgR ds 0).length = ds.length + 0 := dg_len
      refine ⟨_, rfl, fi, tv, none, t, ds, rfl, (by rw [dg_v]; exact hfi), by omega, by omega, htv.tups (same_tups (same_trans sG sG2)), ⟨rfl, ht⟩, tabs.ext sA, fun sw H9 e9 t9 so => ?_⟩
      refine q sw H9 _ _ (fun b o e nt => e9 _ _ (sA _ _ e) nt) t9 ?_ (sq_many (t := t) (by omega) ?_ ht)
      · have ee : sqRow (dN ((n - 1) / 2 : Nat)) (aN ((n - 1) / 2)) 0 0 = dgR ds 0 := by
          rw [show (n - 1) / 2 = mN by omega, eds]
          rfl
        rw [ee]
        exact so
      · exact tp
end
end K38

set_option Elab.async false
set_option linter.all false
set_option maxRecDepth 100000
set_option maxHeartbeats 4000000
namespace K38
open PySem PySem.Spec PyProof.Rows L2 Pen Tr AK LamX RU
/-! ### what is asked within the except suite -/
section
variable {P : Program} {w : World} {K : PySem.W.Frag} {mg : Str → Option PySem.Value} {base : Heap} {f fD CS : Addr} {fd fdD : FuncData}
theorem at0 {X : Cx} {σ : L2.St} {E : XK} : PassesAt CX0 X σ E := fun pins H s e s' I h => pass0 pins σ H s e s' I h
theorem ok_dirH {aD : Addr} (F : FnT K "is_direction" 3 f fd) (gD : mg "DIRECTIONS" = some (.ref aD)) (hD : ∀ H, Dp K H (.ref aD) dDirs) : L2H.FnH P w K mg base CX0 1 f fd ["value"] (spDir K) := by
  refine Hs.okH F scDir (fun vs H Q E h => by obtain ⟨b, rfl, _⟩ := h; rfl) (fun cdv A outer s H vs Q E px hot hr h => ?_)
  obtain ⟨b, rfl, q⟩ := h
  suffices z : ∃ t, PSs (L2H.cxH CX0 P w K mg base ["value"] "is_direction" (defScope (top 3)) f cdv A outer s H E px).nox (defBody (top 3)) t ∧ t { nx := fun _ H' => Q .non H', rt := Q } (start ["value"] [.str (wayS b)]) H by
    obtain ⟨t, h1, h2⟩ := z
    exact ⟨t, h1.nox, h2⟩
  refine ⟨_, pss_one (ps_ret (pe_cmpR op_in_seq (pv 0) (pe_glob (by rfl) gD (v := .ref aD) rfl) (by rfl))), ?_⟩
  have hd := hD H
  generalize e : dDirs = dd at hd
  cases hd with
  | @tup a xs ds hs ha =>
    unfold dDirs at e
    cases e
    cases ha with
    | cons h1 z => cases z with
      | cons h2 z =>
        cases z
        cases h1
        cases h2
        refine ⟨_, rfl, aD, _, rfl, .inr hs, by cases b <;> rfl, rfl, ?_⟩
        cases b with
        | true => exact q
        | false => exact q
  | _ => cases e
theorem ok_loH (F : FnT K "letters_of" 26 f fd) (SF : SwF K CS) : L2H.FnH P w K mg base CX0 1 f fd ["sweeps"] (spLo K w CS) := by
  refine Hs.okH F scLo (fun vs H Q E h => by obtain ⟨n, _, _, _, rfl, _⟩ := h; rfl) (fun cdv A outer s H vs Q E px hot hr h => ?_)
  obtain ⟨sw, m, first, be, rfl, so, q⟩ := h
  suffices z : ∃ t, PSs (L2H.cxH CX0 P w K mg base ["sweeps"] "letters_of" (defScope (top 26)) f cdv A outer s H E px).nox (defBody (top 26)) t ∧ t { nx := fun _ H' => Q .non H', rt := Q } (start ["sweeps"] [.ref sw]) H by
    obtain ⟨t, h1, h2⟩ := z
    exact ⟨t, h1.nox, h2⟩
  refine ⟨_, pss_one (ps_ret (pe_fld (pv 0) rfl)), ?_⟩
  obtain ⟨dx, fi, ds, dt, v, v2, h1, h2, h3, h4, h5⟩ := so.ex
  exact ⟨_, rfl, sw, CS, dx, _, v, rfl, h1, SF.cl, SF.le, rfl, q v h4⟩
theorem ok_soH (F : FnT K "states_of" 27 f fd) (SF : SwF K CS) (FD : FnT K "is_direction" 3 fD fdD) (gD : mg "is_direction" = some (.ref fD)) (GD : L2H.FnH P w K mg base CX0 1 fD fdD ["value"] (spDir K)) : L2H.FnH P w K mg base CX0 2 f fd ["sweeps", "direction"] (spSo K w CS) := by
  refine Hs.okH F scSo (fun vs H Q E h => by obtain ⟨n, _, _, _, b, rfl, _⟩ := h; rfl) (fun cdv A outer s H vs Q E px hot hr h => ?_)
  obtain ⟨sw, m, first, be, b, rfl, so, q⟩ := h
  have hu : (A.deeper (envOfC "states_of" (defScope (top 27)) s.heap.objs.size f cdv)).units + 64 < cLine := by
    have := hr.un
    omega
  have bD : L2.Binds K fdD ["value"] [] := FunD.bindsN FD fun _ _ _ _ _ _ us hl => match us, hl with | [_], _ => rfl
  have warm : L2H.HotC (L2H.cxH CX0 P w K mg base ["sweeps", "direction"] "states_of" (defScope (top 27)) f cdv A outer s H E px).nox := ⟨px, hot, List.mem_cons_self ..⟩
  suffices z : ∃ t, PSs (L2H.cxH CX0 P w K mg base ["sweeps", "direction"] "states_of" (defScope (top 27)) f cdv A outer s H E px).nox (defBody (top 27)) t ∧ t { nx := fun _ H' => Q .non H', rt := Q } (start ["sweeps", "direction"] [.ref sw, .str (wayS b)]) H by
    obtain ⟨t, h1, h2⟩ := z
    exact ⟨t, h1.nox, h2⟩
  refine ⟨_, pss_cons (ps_if (pt_not (pt_val (L2H.pe_callH (E := fun _ => E0) GD hr warm (by rfl) gD FD.kp bD (fun σ => at0) (pa_cons (pv 1) pa_nil)))) Tr.pss_never pss_nil) (pss_one (ps_ret (pe_ix (ix_dictA hu) (pe_fld (pv 0) rfl) (pv 1) (fun _ _ => rfl)))), ?_⟩
  obtain ⟨dx, fi, ds, dt, v, v2, h1, h2, h3, h4, h5⟩ := so.ex
  obtain ⟨Dn, es, rfl, da, hs⟩ := h5.ex
  obtain ⟨q0, xs, z1, z2, z3⟩ := hs b
  refine ⟨_, rfl, b, rfl, true, rfl, iteF ?_⟩
  exact ⟨_, rfl, sw, CS, dx, _, .ref Dn, rfl, h1, SF.cl, SF.ss, rfl, _, rfl, Dn, es, .text (wayS b), .ref q0, rfl, da, nk_way, Nat.zero_le _, z1, q q0 xs z2 z3⟩
end
end K38

set_option Elab.async false
set_option linter.all false
set_option maxRecDepth 100000
set_option maxHeartbeats 4000000
namespace K38
open PySem PySem.Spec PyProof.Rows L2 Pen Tr AK LamX RU
section
variable {P : Program} {w : World} {K : PySem.W.Frag} {mg : Str → Option PySem.Value} {base : Heap} {f fN fC fW fS CS CB : Addr} {fd fdN fdC fdW fdS : FuncData} {H H' : Hp} {TT : List (Addr × Str)}
def spTw (K : PySem.W.Frag) (w : World) (CS CB : Addr) (TT : List (Addr × Str)) : Sp := fun vs H Q E => (∃ n : Nat, vs = [.int n] ∧ 2 ≤ n ∧ n ≤ 1000000 ∧ Tabs TT H ∧ Made K w CS TT H n Q) ∨
  (∃ v d, vs = [v] ∧ Dp K H v d ∧ OutD d 2 1000000 ∧ ∀ dd H', Same H H' → H' dd = some (.xd [("number", v), ("what", .str "rows")]) → E (.ref CB) (some dd) H')
theorem scTw : FnScope ["rows"] ["rows"] (defScope (top 41)) := ⟨rfl, rfl, rfl, by decide +kernel, rfl, by decide +kernel, by decide +kernel⟩
theorem ok_tw (F : FnT K "tower" 41 f fd) (TX : Txt mg) (FW : FnT K "check_within" 35 fW fdW) (gW : mg "check_within" = some (.ref fW)) (GW : FnOk P w K mg base (L2.CX P w) 3 fW fdW ["what", "number", "low", "high"] (spCx K CB)) (gM : ∃ t, mg "MOST_TOWER_ROWS" = some (.int 1000000 t))
    (FC : FnT K "counting_machine" 40 fC fdC) (gC : mg "counting_machine" = some (.ref fC)) (GC : GFn P w K mg base CX0 9 fC fdC ["rows", "padding"] (spCm K w CS TT)) : GFn P w K mg base (L2.CX P w) 10 f fd ["rows"] (spTw K w CS CB TT) := by
  refine GFn.of F scTw (fun vs H Q E h => by obtain ⟨n, rfl, _⟩ | ⟨v, d, rfl, _⟩ := h <;> rfl) (fun c A outer s0 H vs Q E hc hr free h => ?_)
  obtain ⟨a1, evs⟩ : ∃ a1, vs = [a1] := by
    obtain ⟨n, rfl, _⟩ | ⟨v, d, rfl, _⟩ := h <;> exact ⟨_, rfl⟩
  subst evs
  obtain ⟨tM, gM⟩ := gM
  have bW : L2.Binds K fdW ["what", "number", "low", "high"] [] := FunD.bindsN FW fun _ _ _ _ _ _ us hl => match us, hl with | [_, _, _, _], _ => rfl
  have bC : L2.Binds K fdC ["rows", "padding"] [] := FunD.bindsN FC fun _ _ _ _ _ _ us hl => match us, hl with | [_, _], _ => rfl
  refine ⟨_, pss_cons (ps_expr (pe_callS GW (hr.mono (by decide)) (by rfl) gW FW.kp bW (fun σ => passAt (takes_of rfl rfl rfl rfl) σ) (pa_cons pe_str (pa_cons (pv 0) (pa_cons pe_int (pa_cons (pe_glob (v := .int 1000000) (by rfl) gM ⟨_, rfl⟩) pa_nil))))))
    (pss_one (ps_ret (pe_callG GC free hr (by rfl) gC FC.kp bC pass0 (pa_cons (pv 0) (pa_cons (pe_tup pa_nil) pa_nil))))), ?_⟩
  rcases h with ⟨n, e, n2, n9, tabs, q⟩ | ⟨v, d, e, hv, bad, q⟩
  · cases e
    refine ⟨_, rfl, .inl ⟨"rows", n, 2, 1000000, rfl, by omega, by omega, ?_⟩⟩
    refine ⟨_, rfl, (by show 0 ≤ sizeLine; exact Nat.zero_le _), fun a na => ?_⟩
    have u := same_upd (o := .tup []) na
    exact ⟨n, a, rfl, n2, n9, sq_new na, tabs.ext u, fun sw H9 m be e t so g => q sw H9 m be (fun b o eb nt => e _ _ (u _ _ eb) nt) t so g⟩
  · cases e
    exact ⟨_, rfl, .inr ⟨"rows", a1, d, 2, 1000000, rfl, hv, bad, q⟩⟩
abbrev nRf : List Str := ["_law_rows", "e"]
theorem scRf : FnScope nRf ["_law_rows"] (defScope (top 49)) := ⟨rfl, rfl, rfl, by decide +kernel, rfl, by decide +kernel, by decide +kernel⟩
def spRf (K : PySem.W.Frag) (TT : List (Addr × Str)) : Sp := fun vs H Q _ => (∃ n : Nat, vs = [.int n] ∧ 2 ≤ n ∧ n ≤ 1000000 ∧ Tabs TT H ∧ ∀ H', ExtN H H' → Tabs TT H' → Q .non H') ∨ (∃ v d, vs = [v] ∧ Dp K H v d ∧ OutD d 2 1000000 ∧ d.showable = true ∧ d.hasDict = false ∧ d.depth ≤ 60 ∧ d.shown.length ≤ sizeLine ∧
  ∀ p H', Same H H' → SqT K H' p [.str "rows", .str d.shown] → Q (.ref p) H')
theorem ok_rf (F : FnT K "_law_refused" 49 f fd) (TX : Txt mg) (XB : Ct K mg "BadNumber" CB ["what", "number"]) (FS : FnT K "tower" 41 fS fdS) (gS : mg "tower" = some (.ref fS)) (GS : GFn P w K mg base (L2.CX P w) 10 fS fdS ["rows"] (spTw K w CS CB TT)) :
    GFn P w K mg base CX0 11 f fd ["_law_rows"] (spRf K TT) := by
  refine GFn.of F scRf (fun vs H Q E h => by obtain ⟨n, rfl, _⟩ | ⟨v, d, rfl, _⟩ := h <;> rfl) (fun c A outer s0 H vs Q E hc hr free h => ?_)
  obtain ⟨a1, evs⟩ : ∃ a1, vs = [a1] := by
    obtain ⟨n, rfl, _⟩ | ⟨v, d, rfl, _⟩ := h <;> exact ⟨_, rfl⟩
  subst evs
  have nd := scRf.nd
  have hu := hr.units
  suffices z : ∃ t, PSs (cxOf CX0 P w K mg base nRf "_law_refused" (defScope (top 49)) f (.ref c) A outer s0 H E).nox (defBody (top 49)) t ∧ t { nx := fun _ H' => Q .non H', rt := Q } (start nRf [a1]) H by
    obtain ⟨t, h1, h2⟩ := z
    exact ⟨t, h1.nox, h2⟩
  have bS : L2.Binds K fdS ["rows"] [] := FunD.bindsN FS fun _ _ _ _ _ _ us hl => match us, hl with | [_], _ => rfl
  have b1' := XB.no "what" (by simp)
  have b2' := XB.no "number" (by simp)
  refine ⟨_, pss_cons (ps_try_as (i := 1) (tb := fun W => tDrop (tCallS (spTw K w CS CB TT) (WE W) (tCons (tVar 0) tNil)))
      (ts := fun a cls d => tRet (tTup (tCons (tXf a cls d CB "what" (tVar 1)) (tCons (tCB (rShowV K) (tCons (tXf a cls d CB "number" (tVar 1)) tNil)) tNil)))) (Wout := fun _ _ _ _ => False)
      rfl rfl nd rfl rfl ⟨rfl, by decide, .inl XB.mgx⟩ L2.takes0
      (fun W pn xe tk _ => pss_one (ps_expr (pe_callGW GS free (hr.mono (by decide)) (by rfl) gS FS.kp bS (fun σ => passAt tk σ) (pa_cons (pv 0) pa_nil))))
      (fun a oe cls d pn hz hf => pss_one (ps_ret (pe_tup (pa_cons (pe_xf XB.xf b1' hz hf (pv 1)) (pa_cons (pe_callB (call_showV free hu) (by rfl) TX.repr (by decide +kernel) (pa_cons (pe_xf XB.xf b2' hz hf (pv 1)) pa_nil)) pa_nil))))))
    (pss_one (ps_ret pe_non)), ?_⟩
  rcases h with ⟨n, e, n2, n9, tabs, q⟩ | ⟨v, d, e, hD, out, sh1, sh2, sh3, sh4, q1⟩
  · cases e
    exact ⟨_, rfl, .inl ⟨n, rfl, n2, n9, tabs, fun sw H9 m be e t so g => q H9 e t⟩⟩
  cases e
  refine ⟨_, rfl, .inr ⟨a1, d, rfl, hD, out, fun dd H1 s1 e1 => ?_⟩⟩
  refine ⟨true, XB.ex, fun _ ea na => ?_, fun h => nomatch h⟩
  refine ⟨_, rfl, rfl, rfl, dd, _, _, rfl, e1, rfl, _, rfl, rfl, rfl, dd, _, _, rfl, e1, rfl, a1, d, rfl, dp_same s1 _ _ hD, sh1, sh2, sh3, sh4, (by show 2 ≤ sizeLine; rw [sizeLine_eq]; decide), fun t nt => ?_⟩
  exact q1 t _ (same_trans s1 (same_upd nt)) (SqT.of upd_same)
end
end K38

set_option Elab.async false
set_option linter.all false
set_option maxRecDepth 100000
set_option maxHeartbeats 4000000
namespace K38
open PySem PySem.Spec PyProof.Rows L2 Pen Tr AK LamX RU
theorem lensV_is {rows : List (List Sy)} : lensV rows = (isOf (rows.map List.length)).map V.int := by
  simp [lensV, isOf]
theorem lens_sh {ls : List Nat} : SeqAt.shaped (.tuple (ls.map fun n : Nat => PyData.int (n : Int))) = true := shaped_tuple fun d hd => by
  obtain ⟨n, _, rfl⟩ := List.mem_map.mp hd
  exact ⟨rfl, Nat.zero_le _⟩
theorem let2 {K : PySem.W.Frag} {H : Hp} {m : Mac} {v : V} (e : m.ld = ld2) (h : LvOk K H m v) : ∃ lp, ∃ xs : List V, v = .ref lp ∧ SqT K H lp xs ∧ xs.length ≤ 2 ∧ ∀ x ∈ xs, x = .str "0" ∨ x = .str "1" := by
  obtain ⟨lp, lv, rfl, hs, ne, ok, nd⟩ := h.ex
  refine ⟨lp, _, rfl, hs, ?_, fun x hx => ?_⟩
  · have z := sub_len nd (r := ld2.map kOf) fun k hk => by
      obtain ⟨s, hs, rfl⟩ := List.mem_map.mp hk
      have y := (ok s hs).2
      rw [e] at y
      exact List.mem_map.mpr ⟨s.2, y, rfl⟩
    rw [List.length_map] at z ⊢
    exact z
  · obtain ⟨s, hs, rfl⟩ := List.mem_map.mp hx
    obtain ⟨o, l⟩ := ok s hs
    rw [e] at l
    have dp := o.dp
    obtain ⟨x, d⟩ := s
    have l : d ∈ ld2 := l
    have dp : Dp K H x d := dp
    rcases ld_2 l with rfl | rfl
    · have dp : Dp K H x (.str "0") := dp
      cases dp
      exact .inl rfl
    · have dp : Dp K H x (.str "1") := dp
      cases dp
      exact .inr rfl
theorem dN_zero : dN ((0 : Nat) : Int) = 2 := by decide
theorem dN_self {n : Nat} (n2 : 2 ≤ n) : dN (((n - 1) / 2 : Nat) : Int) ≤ n := by
  by_cases z : (n - 1) / 2 = 0
  · rw [z, dN_zero]
    exact n2
  · exact (dN_hi (n := (n - 1) / 2) (b := n) (by omega) (by have := Nat.lt_two_pow_self (n := n); omega) n2).2.1
theorem sN_lt {k : Nat} : sN k < 2 ^ dN (k : Int) := by
  unfold sN
  by_cases z : k = 0
  · rw [if_pos z]
    exact Nat.two_pow_pos _
  · rw [if_neg z]
    obtain ⟨_, _, d9⟩ := dN_hi (n := k) (b := k + 2) (by omega) (by
      have z := Nat.lt_two_pow_self (n := k)
      have : 2 ^ k ≤ 2 ^ (k + 2) := Nat.pow_le_pow_right (by decide) (by omega)
      omega) (by omega)
    unfold aN
    omega
theorem row_same {n r : Nat} (n2 : 2 ≤ n) (hr : r < n) : bitsN (dN (((n - 1) / 2 : Nat) : Int)) (sN ((n - 1) / 2) + r / 2) = bitsN (dN (((n - 1) / 2 : Nat) : Int)) (aN ((n - 1) / 2) + r / 2) := by
  unfold sN
  by_cases z : (n - 1) / 2 = 0
  · rw [if_pos z, z, show r / 2 = 0 by omega]
    decide
  · rw [if_neg z]
section
variable {P : Program} {w : World} {K : PySem.W.Frag} {mg : Str → Option PySem.Value} {base : Heap} {f fZ fG fN fW fR fX fS fL CS CB CT : Addr} {fd fdZ fdG fdN fdW fdR fdX fdS fdL : FuncData} {H H' : Hp} {TT : List (Addr × Str)}
theorem ints_dp : ∀ {ls : List Nat}, DpAll K H ((isOf ls).map V.int) (ls.map fun n : Nat => PyData.int (n : Int))
  | [] => .nil
  | n :: ls => .cons (.int _) (ints_dp (ls := ls))
theorem sq_v {l a p r : Nat} : (sqRow l a p r).map (·.1) = (bitsN l (a + r / 2)).map bV ++ List.replicate p (V.str "x") := by
  unfold sqRow
  rw [dg_v, bS_v]
abbrev nRt : List Str := ["_law_rows", "_law_many", "_law_made", "_law_first", "_law_wide", "_law_start", "_law_due", "e", "_law_letters", "_law_row", "_law_letter"]
theorem scRt : FnScope nRt ["_law_rows"] (defScope (top 50)) := ⟨rfl, rfl, rfl, by decide +kernel, rfl, by decide +kernel, by decide +kernel⟩
def spRt (K : PySem.W.Frag) (TT : List (Addr × Str)) : Sp := fun vs H Q _ => ∃ n : Nat, vs = [.int n] ∧ 2 ≤ n ∧ n ≤ 400 ∧ Tabs TT H ∧ ∀ H', ExtN H H' → Tabs TT H' → Q (.bl true) H'
theorem takesN0 {X : Cx} : L2N.Takes X (fun _ _ _ _ => False) := fun _ _ z => by
  obtain ⟨_, _, _, _, _, _, _, _, z⟩ := z
  exact z.2.2.2.2.2.2.2.2.elim
theorem ok_rt (F : FnT K "_law_tower_right" 50 f fd) (TX : Txt mg) (XT : Ct K mg "TooMany" CT ["what", "many", "limit"]) (FZ : FnT K "tower" 41 fZ fdZ) (gZ : mg "tower" = some (.ref fZ)) (GZ : GFn P w K mg base (L2.CX P w) 10 fZ fdZ ["rows"] (spTw K w CS CB TT))
    (FG : FnT K "_law_sh_digits" 46 fG fdG) (gG : mg "_law_sh_digits" = some (.ref fG)) (FN : FnT K "_law_sh_number" 48 fN fdN) (gN : mg "_law_sh_number" = some (.ref fN)) (FW : FnT K "_law_sh_row" 47 fW fdW) (gW : mg "_law_sh_row" = some (.ref fW))
    (FR : FnT K "run" 29 fR fdR) (gR : mg "run" = some (.ref fR)) (GR : FnOk P w K mg base (L2N.CX P w) 3 fR fdR ["sweeps", "most"] (spRun K w CS CB CT))
    (FX : FnT K "lengths_of" 34 fX fdX) (gX : mg "lengths_of" = some (.ref fX)) (GX : FnOk P w K mg base (L2N.CX P w) 4 fX fdX ["sweeps", "most"] (spLx K w CS CB CT))
    (FS : FnT K "states_of" 27 fS fdS) (gS : mg "states_of" = some (.ref fS)) (GS : L2H.FnH P w K mg base CX0 2 fS fdS ["sweeps", "direction"] (spSo K w CS))
    (FL : FnT K "letters_of" 26 fL fdL) (gL : mg "letters_of" = some (.ref fL)) (GL : L2H.FnH P w K mg base CX0 1 fL fdL ["sweeps"] (spLo K w CS)) : GFn P w K mg base CX0 11 f fd ["_law_rows"] (spRt K TT) := by
  refine GFn.of F scRt (fun vs H Q E h => by obtain ⟨n, rfl, _⟩ := h; rfl) (fun c A outer s0 H vs Q E hc hr free h => ?_)
  obtain ⟨n, rfl, n2, n95, tabs, q⟩ := h
  have nd := scRt.nd
  have hu := hr.units
  have GG := ok_dg (P := P) (w := w) (mg := mg) (base := base) FG TX
  have GN := ok_nb (P := P) (w := w) (mg := mg) (base := base) FN
  have GW := ok_rw (P := P) (w := w) (mg := mg) (base := base) FW TX
  have bZ : L2.Binds K fdZ ["rows"] [] := FunD.bindsN FZ fun _ _ _ _ _ _ us hl => match us, hl with | [_], _ => rfl
  have bG : L2.Binds K fdG ["_law_many"] [] := FunD.bindsN FG fun _ _ _ _ _ _ us hl => match us, hl with | [_], _ => rfl
  have bN : L2.Binds K fdN ["_law_digits"] [] := FunD.bindsN FN fun _ _ _ _ _ _ us hl => match us, hl with | [_], _ => rfl
  have bW : L2.Binds K fdW ["_law_value", "_law_wide"] [] := FunD.bindsN FW fun _ _ _ _ _ _ us hl => match us, hl with | [_, _], _ => rfl
  have bR : L2.Binds K fdR ["sweeps", "most"] [] := FunD.bindsN FR fun _ _ _ _ _ _ us hl => match us, hl with | [_, _], _ => rfl
  have bX : L2.Binds K fdX ["sweeps", "most"] [] := FunD.bindsN FX fun _ _ _ _ _ _ us hl => match us, hl with | [_, _], _ => rfl
  have bO : L2.Binds K fdS ["sweeps", "direction"] [] := FunD.bindsN FS fun _ _ _ _ _ _ us hl => match us, hl with | [_, _], _ => rfl
  have bL : L2.Binds K fdL ["sweeps"] [] := FunD.bindsN FL fun _ _ _ _ _ _ us hl => match us, hl with | [_], _ => rfl
  have b1' := XT.no "what" (by simp)
  have b2' := XT.no "many" (by simp)
  have b3' := XT.no "limit" (by simp)
  suffices z : ∃ t, PSs (cxOf CX0 P w K mg base nRt "_law_tower_right" (defScope (top 50)) f (.ref c) A outer s0 H E).nox (defBody (top 50)) t ∧ t { nx := fun _ H' => Q .non H', rt := Q } (start nRt [.int n]) H by
    obtain ⟨t, h1, h2⟩ := z
    exact ⟨t, h1.nox, h2⟩
  refine ⟨_, pss_cons (ps_par (i := 1) (j := 2) (by rfl) nd rfl rfl (by decide) (by rfl) (by rfl) (pa_cons (pe_op op_fdiv (pe_op op_sub (pv 0) pe_int) pe_int) (pa_cons (pe_callG GZ free hr (by rfl) gZ FZ.kp bZ passE0 (pa_cons (pv 0) pa_nil)) pa_nil)) (by rfl))
    (pss_cons (ps_asg (pe_call GG (hr.mono (by decide)) (by rfl) gG FG.kp bG .nil pass0 (pa_cons (pv 1) pa_nil)) (pg_tup (by rfl) (pgs_cons (pg_name (i := 3) nd rfl (.inl rfl)) (pgs_cons (pg_name (i := 4) nd rfl (.inr rfl)) pgs_nil))))
    (pss_cons (ps_asg (pe_call GN (hr.mono (by decide)) (by rfl) gN FN.kp bN .nil pass0 (pa_cons (pv 3) pa_nil)) (pg_name (i := 5) nd rfl (.inr rfl)))
    (pss_cons (ps_asg (pe_callTy call_tupR (by rfl) TX.tuple (by decide +kernel) (pa_cons (pe_lc (own := [("_law_row", 9)]) (g := gName 9) (tt := tYes) (te := tCall (spRw K) [] E0 _) (by rfl) nd (pi_range1 (by rfl) TX.range (pa_cons (pv 0) pa_nil)) (blkOk_by (own := [("_law_row", 9)]) (N := nRt) (sc := defScope (top 50)) (by decide +kernel))
        (fun _ _ _ _ _ => pg_name (i := 9) nd rfl (Or.inl rfl)) (fun _ _ _ _ _ => pts_nil) (fun _ _ _ _ _ => pe_call GW (hr.mono (by decide)) (by rfl) gW FW.kp bW .nil pass0 (pa_cons (pe_op op_add (pv 5) (pe_op op_fdiv (pv 9) pe_int)) (pa_cons (pv 4) pa_nil)))) pa_nil)) (pg_name (i := 6) nd rfl (.inl rfl)))
    (pss_cons (ps_if (PW.pt (pw_or (pt_cmpR (op_neD hu) (pe_call GR (hr.mono (by decide)) (by rfl) gR FR.kp bR .nil Hs.passN (pa_cons (pv 2) (pa_cons (pv 0) pa_nil))) (pv 6) (nomark _))
        (pw_or1 (pt_cmpR (op_neD hu) (pe_call GX (hr.mono (by decide)) (by rfl) gX FX.kp bX .nil Hs.passN (pa_cons (pv 2) (pa_cons (pe_op op_add (pv 0) pe_int) pa_nil))) (pe_op op_repU (pe_tup (pa_cons (pv 4) pa_nil)) (pv 0)) (nomark _))))) (pss_one (ps_ret pe_bl)) pss_nil)
    (pss_cons (L2N.ps_try_as (i := 7) (tb := fun W => tDrop (tCallS (spLx K w CS CB CT) (WE W) (tCons (tVar 2) (tCons _ tNil))))
        (ts := fun a cls d => tSeq (tIfS (tTest (tOp (rNeD K) (tTup (tCons (tXf a cls d CT "what" (tVar 7)) (tCons (tXf a cls d CT "many" (tVar 7)) (tCons (tXf a cls d CT "limit" (tVar 7)) tNil)))) _)) _ _) (tSeq (tAsg (tOp _ (tCB (rLn K) (tCons (tCallS (spSo K w CS) (fun _ => E0) _) tNil)) (tCB (rLn K) (tCons (tCallS (spSo K w CS) (fun _ => E0) _) tNil))) (gName 1)) (tSeq (tAsg (tCallS (spLo K w CS) (fun _ => E0) _) (gName 8)) (tRet (tAndV (tOp (rEqD K) (tLc (iTup K (tVar 8)) (gName 10) (tTest (tOp (rIn K true) (tVar 10) _)) (tVar 10) _) _) (tOp _ (tOp _ (tVar 1) (tCB (rLn K) (tCons (tVar 8) tNil))) _)))))) (Wout := fun _ _ _ _ => False)
        rfl rfl nd rfl rfl ⟨rfl, by decide, .inl XT.mgx⟩ takesN0
        (fun W pn xe tk _ => pss_one (ps_expr (pe_callS GX (hr.mono (by decide)) (by rfl) gX FX.kp bX (fun σ => L2N.passAt tk σ) (pa_cons (pv 2) (pa_cons (pe_op op_sub (pv 0) pe_int) pa_nil)))))
        (fun a oe cls d pn hz hf => pss_cons (ps_if (pt_cmpR (op_neD hu) (pe_tup (pa_cons (pe_xf XT.xf b1' hz.zc hf (pv 7)) (pa_cons (pe_xf XT.xf b2' hz.zc hf (pv 7)) (pa_cons (pe_xf XT.xf b3' hz.zc hf (pv 7)) pa_nil)))) (pe_tup (pa_cons pe_str (pa_cons (pv 0) (pa_cons (pe_op op_sub (pv 0) pe_int) pa_nil)))) (nomark _)) (pss_one (ps_ret pe_bl)) pss_nil)
          (pss_cons (ps_asg (pe_op op_add (pe_callB call_len_seq (by rfl) TX.len PySem.boot_len (pa_cons (L2H.pe_callH (E := fun _ => E0) GS (L2H.roomH_mark (hr.mono (by decide)) _) (Hs.hot_mark hz hf) (by rfl) gS FS.kp bO (fun σ => at0) (pa_cons (pv 2) (pa_cons pe_str pa_nil))) pa_nil)) (pe_callB call_len_seq (by rfl) TX.len PySem.boot_len (pa_cons (L2H.pe_callH (E := fun _ => E0) GS (L2H.roomH_mark (hr.mono (by decide)) _) (Hs.hot_mark hz hf) (by rfl) gS FS.kp bO (fun σ => at0) (pa_cons (pv 2) (pa_cons pe_str pa_nil))) pa_nil))) (pg_name (i := 1) nd rfl (.inl rfl)))
          (pss_cons (ps_asg (L2H.pe_callH (E := fun _ => E0) GL (L2H.roomH_mark (hr.mono (by decide)) _) (Hs.hot_mark hz hf) (by rfl) gL FL.kp bL (fun σ => at0) (pa_cons (pv 2) pa_nil)) (pg_name (i := 8) nd rfl (.inl rfl)))
          (pss_one (ps_ret (pe_and (pe_cmpR (op_eqD hu) (Hs.pe_lcH (own := [("_law_letter", 10)]) (g := gName 10) (te := tVar 10) (Hs.hot_mark hz hf) nd (pv 8) (blkOk_by (own := [("_law_letter", 10)]) (N := nRt) (sc := defScope (top 50)) (by decide +kernel))
              (fun _ _ _ _ _ => pg_name (i := 10) nd rfl (Or.inl rfl)) (fun _ _ _ _ _ => pts_one (pt_cmpR op_notIn_seq (pv 10) (pe_lst (pa_cons pe_str (pa_cons pe_str pa_nil))) (by rfl))) (fun _ _ _ _ _ => pv 10)) (pe_lst pa_nil) (by rfl))
            (pe_one (pe_cmpR op_le (pe_op op_mul (pv 1) (pe_callB call_len_seq (by rfl) TX.len PySem.boot_len (pa_cons (pv 8) pa_nil))) pe_int (by rfl))))))))))
    (pss_one (ps_ret pe_bl))))))), ?_⟩
  clear bZ bG bN bW bR bX bO bL
  obtain ⟨M, hM⟩ : ∃ M, M = (n - 1) / 2 := ⟨_, rfl⟩
  have eM : ((n : Int) - 1) / 2 = (M : Int) := by omega
  have sl := sN_lt (k := M)
  have same := fun r (hr : r < n) => row_same (r := r) n2 hr
  have d9 : dN (M : Int) ≤ 9 := by
    by_cases z : M = 0
    · rw [z, dN_zero]
      decide
    · exact (dN_hi (n := M) (b := 9) (by omega) (by have : (2 : Nat) ^ 9 = 512 := rfl; omega) (by decide)).2.1
  refine ⟨_, rfl, n, 1, rfl, rfl, n - 1, 2, rfl, rfl, ⟨by decide, by decide⟩, _, rfl, .inl ⟨n, rfl, n2, by omega, tabs, fun sw H1 m be e1 t1 so1 G => ⟨_, _, rfl, ?_⟩⟩⟩
  rw [← hM] at same so1 G
  obtain ⟨l, hl⟩ : ∃ l : Nat, l = dN (M : Int) := ⟨_, rfl⟩
  obtain ⟨a, ha⟩ : ∃ a, a = aN M := ⟨_, rfl⟩
  rw [← hl] at d9 sl same so1 G
  rw [← ha] at so1 G
  rw [← ha] at same
  refine ⟨_, rfl, M, congrArg (fun z => [V.int z]) eM, by omega, fun pd qd H2 s2 hpd hqd => ⟨pd, _, rfl, hpd, rfl, _, _, rfl, _, _, rfl, rfl, ?_⟩⟩
  rw [← hl] at hqd
  refine ⟨_, rfl, qd, l, sN M, rfl, hqd, sl, by omega, fun H5 s3 => ?_⟩
  have s14 := same_trans s2 s3
  have so5 := so1.same s14
  have e5 : ExtN H H5 := fun b o eb nt => s14 _ _ (e1 _ _ eb nt)
  have t5 := Tabs.ext t1 s14
  clear so1 t1 e1 s3 s2 hqd hpd s14
  refine ⟨_, rfl, (n : Int), rfl, by omega, by omega, fun D nD => ?_⟩
  have en : (n : Int).toNat = n := by omega
  refine lc_range (lo := 0) (n := (n : Int).toNat) (fun j H' => Same H5 H' ∧ ∃ xs, H' D = some (.lst xs) ∧ RowsV K H' ((List.range j).map (sqRow l a 0)) xs) ⟨same_upd nD, [], upd_same, .nil⟩ ?_ ?_
  · rintro j H6 hj ⟨s6, xs, hD, hR⟩
    rw [en] at hj
    refine ⟨rfl, ?_⟩
    refine yes_if ?_
    have ev : ((sN M : Nat) : Int) + (0 + (j : Int)) / 2 = ((sN M + j / 2 : Nat) : Int) := by omega
    have lxs : xs.length = j := by
      have := Paired.length hR
      rw [List.length_map, List.length_range] at this
      exact this.symm
    refine ⟨_, rfl, _, rfl, 0 + (j : Int), 2, rfl, rfl, ⟨by decide, by decide⟩, ((sN M : Nat) : Int), (0 + (j : Int)) / 2, rfl, rfl, _, rfl, sN M + j / 2, l, ?_, by omega, fun p1 H7 s7 hp1 => ?_⟩
    · show [V.int (((sN M : Nat) : Int) + (0 + (j : Int)) / 2), V.int ((dN (M : Int) : Nat) : Int)] = _
      rw [ev, hl]
    rw [same j hj] at hp1
    have hp3 : SqT K H7 p1 ((sqRow l a 0 j).map (·.1)) := by
      rw [sq_v]
      simpa using hp1
    have hD8 := s7 _ _ hD
    refine ⟨xs, hD8, (by rw [lxs, sizeLine_eq]; omega), fun b o eb => ?_, _, upd_same, ?_⟩
    · rw [upd_ne (ne_of_none eb nD)]
      exact s7 _ _ (s6 _ _ eb)
    · have tu : Tups H7 (upd H7 D (.lst (xs ++ [.ref p1]))) := Tups.upd (lst_ntup hD8)
      rw [List.range_succ, List.map_append, List.map_singleton]
      exact paired_app (hR.tups (Tups.trans (same_tups s7) tu)) (.cons ⟨p1, rfl, SqT.tups tu hp3⟩ .nil)
  rintro H6 ⟨s6, xs, hD, hR⟩
  rw [en] at hR
  refine ⟨D, _, rfl, .inl (SqL.of hD), fun du H7 s7 hdu => ?_⟩
  have s57 := same_trans s6 s7
  have so7 := so5.same s57
  have hR7 := hR.tups (same_tups s7)
  have few : (sqRow l a 0 0).length ≤ 100 := by
    unfold sqRow
    rw [dg_len, bits_len]
    omega
  obtain ⟨br, run⟩ := G.run
  have rows_ok : ∀ G, ∀ r ∈ (List.range n).map (sqRow l a 0), ∀ s ∈ r, SyOk K G s := fun G r hr s hs => by
    obtain ⟨i, _, rfl⟩ := List.mem_map.mp hr
    exact (dg_ok s hs).1
  refine ⟨_, rfl, _, rfl, .inl ⟨sw, m, sqRow l a 0 0, be, n, rfl, by omega, by omega, so7, G.mac _, G.fs _, few, G.be_ _, fun en pr2 H8 ys s8 hpr2 hRy => ?_, fun ne => absurd (by rw [run]) ne⟩⟩
  rw [run] at hRy
  have dd1 := rows_dp hpr2 hRy (rows_ok H8)
  have dd2 := rows_dp (SqT.tups (same_tups s8) hdu) (hR7.tups (same_tups s8)) (rows_ok H8)
  have sh := rows_shaped (rows_ok H8)
  refine ⟨_, rfl, rowsD ((List.range n).map (sqRow l a 0)), rowsD ((List.range n).map (sqRow l a 0)), dd1, dd2, sh, sh, _, rfl, ?_⟩
  rw [SeqAt.eqv_refl _ (SeqAt.canLay_of_shaped sh)]
  have run3 : rsAt m (sqRow l a 0 0) be (n + 3 - 1) = (br, none, (List.range n).map (sqRow l a 0)) := by
    rw [rs_end (k := n - 1) (by rw [run]) (n + 3 - 1) (by omega), run]
  refine iteF ⟨_, rfl, _, rfl, (n : Int), 3, rfl, rfl, .inl ⟨sw, m, sqRow l a 0 0, be, n + 3, rfl, by omega, by omega, so7.same s8, G.mac _, G.fs _, few, G.be_ _, fun en pl H9 s9 hpl => ?_, fun ne => absurd (by rw [run3]) ne⟩⟩
  rw [run3] at hpl
  have hpl : SqT K H9 pl (lensV ((List.range n).map (sqRow l a 0))) := hpl
  have ln : ((List.range n).map (sqRow l a 0)).map List.length = List.replicate n l := by
    rw [List.eq_replicate_iff]
    refine ⟨by rw [List.length_map, List.length_map, List.length_range], fun x hx => ?_⟩
    obtain ⟨r, hr, rfl⟩ := List.mem_map.mp hx
    obtain ⟨i, _, rfl⟩ := List.mem_map.mp hr
    unfold sqRow
    rw [dg_len, bits_len]
    rfl
  rw [lensV_is, ln] at hpl
  refine ⟨_, rfl, (by show 1 ≤ sizeLine; rw [sizeLine_eq]; decide), fun x2 nx2 => ⟨_, rfl, x2, (n : Int), .int l, rfl, rfl, ?_, by omega, by omega, fun p4 H10 s10 hp4 => ?_⟩⟩
  · rw [hl]
    exact sq_new nx2
  have u9 := same_upd (o := .tup [.int (dN (M : Int) : Nat)]) nx2
  have hp4 : SqT K H10 p4 ((isOf (List.replicate n l)).map V.int) := by
    have e : (isOf (List.replicate n l)).map V.int = List.replicate (n : Int).toNat (V.int l) := by
      rw [Int.toNat_natCast]
      simp [isOf]
    rw [e]
    exact hp4
  have s89 := same_trans s8 (same_trans s9 (same_trans u9 s10))
  have hpl := SqT.tups (same_tups (same_trans u9 s10)) hpl
  refine ⟨.tuple ((List.replicate n l).map fun n : Nat => PyData.int (n : Int)), .tuple ((List.replicate n l).map fun n : Nat => PyData.int (n : Int)), .tup hpl ints_dp, .tup hp4 ints_dp, lens_sh, lens_sh, _, rfl, ?_⟩
  rw [SeqAt.eqv_refl _ (SeqAt.canLay_of_shaped lens_sh)]
  have so9 := so7.same s89
  have s5A := same_trans s57 s89
  clear s89 hpl hp4 u9 s9 s8 s57 so7 hR7 hR hRy dd1 dd2 so5
  obtain ⟨k, rfl⟩ : ∃ k, n = k + 1 := ⟨n - 1, by omega⟩
  refine iteF ⟨_, rfl, _, rfl, ((k + 1 : Nat) : Int), 1, rfl, rfl, .inl ⟨sw, m, sqRow l a 0 0, be, k, ?_, by omega, by omega, so9, G.mac _, G.fs _, few, G.be_ _, fun en => absurd en G.more, fun ne dd H11 s11 e11 => ?_⟩⟩
  · show [V.ref sw, V.int (((k + 1 : Nat) : Int) - 1)] = _
    rw [show ((k + 1 : Nat) : Int) - 1 = (k : Int) by omega]
  refine ⟨true, XT.ex, fun _ ea na => ?_, fun h => nomatch h⟩
  have sz3 : ∀ (x y z : V), [x, y, z].length ≤ sizeLine := fun x y z => by show 3 ≤ sizeLine; rw [sizeLine_eq]; decide
  have soB := so9.same s11
  have sB : Same H5 H11 := same_trans s5A s11
  clear so9 s5A s11
  refine ⟨_, rfl, rfl, rfl, dd, _, _, rfl, e11, rfl, _, rfl, rfl, rfl, dd, _, _, rfl, e11, rfl, _, rfl, rfl, rfl, dd, _, _, rfl, e11, rfl, sz3 _ _ _, fun t1 nt1 => ⟨_, rfl, _, rfl, ((k + 1 : Nat) : Int), 1, rfl, rfl, sz3 _ _ _, fun t2 nt2 => ?_⟩⟩
  have u1 := same_upd (o := .tup [.str "rows", .int ((k : Nat) + 1), .int (k : Nat)]) nt1
  have u2 := same_upd (o := .tup [.str "rows", .int ((k + 1 : Nat) : Int), .int (((k + 1 : Nat) : Int) - 1)]) nt2
  have h1 : SqT K (upd (upd H11 t1 (.tup [.str "rows", .int ((k : Nat) + 1), .int (k : Nat)])) t2 (.tup [.str "rows", .int ((k + 1 : Nat) : Int), .int (((k + 1 : Nat) : Int) - 1)])) t1 [.str "rows", .int ((k + 1 : Nat) : Int), .int (k : Nat)] := SqT.tups (same_tups u2) (SqT.of upd_same)
  have h2 : SqT K (upd (upd H11 t1 (.tup [.str "rows", .int ((k : Nat) + 1), .int (k : Nat)])) t2 (.tup [.str "rows", .int ((k + 1 : Nat) : Int), .int (((k + 1 : Nat) : Int) - 1)])) t2 [.str "rows", .int ((k + 1 : Nat) : Int), .int (k : Nat)] := by
    rw [show ((k + 1 : Nat) : Int) - 1 = (k : Int) by omega]
    exact sq_new nt2
  have sh : SeqAt.shaped (.tuple [.str "rows", .int ((k + 1 : Nat) : Int), .int (k : Nat)]) = true := shaped_tuple fun d hd => by
    simp only [List.mem_cons, List.not_mem_nil, or_false] at hd
    rcases hd with rfl | rfl | rfl
    · exact ⟨by decide +kernel, Nat.zero_le _⟩
    · exact ⟨rfl, Nat.zero_le _⟩
    · exact ⟨rfl, Nat.zero_le _⟩
  refine ⟨.tuple [.str "rows", .int ((k + 1 : Nat) : Int), .int (k : Nat)], .tuple [.str "rows", .int ((k + 1 : Nat) : Int), .int (k : Nat)], .tup h1 (.cons (.str _) (.cons (.int _) (.cons (.int _) .nil))), .tup h2 (.cons (.str _) (.cons (.int _) (.cons (.int _) .nil))), sh, sh, _, rfl, ?_⟩
  rw [SeqAt.eqv_refl _ (SeqAt.canLay_of_shaped sh)]
  have s12 := same_trans u1 u2
  have soC := soB.same s12
  have sC := same_trans sB s12
  clear h1 h2 soB sB u1 u2
  obtain ⟨H12, eH⟩ : ∃ H12, H12 = upd (upd H11 t1 (.tup [.str "rows", .int ((k : Nat) + 1), .int (k : Nat)])) t2 (.tup [.str "rows", .int ((k + 1 : Nat) : Int), .int (((k + 1 : Nat) : Int) - 1)]) := ⟨_, rfl⟩
  rw [← eH] at soC sC
  have soC : SwO K w CS H12 sw m (sqRow l a 0 0) be := soC
  refine iteF ?_
  show tSeq _ _ _ _ _
  rw [show upd (upd H11 t1 (.tup [.str "rows", .int ((k : Nat) + 1), .int (k : Nat)])) t2 (.tup [.str "rows", .int ((k + 1 : Nat) : Int), .int (((k + 1 : Nat) : Int) - 1)]) = H12 from eH.symm]
  refine ⟨_, rfl, sw, m, sqRow l a 0 0, be, false, rfl, soC, fun q1 x1 h1 l1 => ⟨q1, x1, rfl, .inr h1, _, rfl, sw, m, sqRow l a 0 0, be, true, rfl, soC, fun q2 x2 h2 l2 => ⟨q2, x2, rfl, .inr h2, (x1.length : Int), (x2.length : Int), rfl, rfl, ?_⟩⟩⟩
  refine ⟨_, rfl, sw, m, sqRow l a 0 0, be, rfl, soC, fun v lv => ?_⟩
  obtain ⟨lp, x3, rfl, h3, l3, only⟩ := let2 G.ld lv
  have l1 := Nat.le_trans l1 (G.two _)
  have l2 := Nat.le_trans l2 (G.two _)
  have le : ((x1.length : Int) + (x2.length : Int)) * (x3.length : Int) ≤ 8 := by
    have : (x1.length + x2.length) * x3.length ≤ 4 * 2 := Nat.mul_le_mul (by omega) l3
    have e : ((x1.length : Int) + (x2.length : Int)) * (x3.length : Int) = (((x1.length + x2.length) * x3.length : Nat) : Int) := by rw [Int.natCast_mul, Int.natCast_add]
    rw [e]
    omega
  refine ⟨_, rfl, lp, rfl, ⟨x3, h3⟩, fun D2 nD2 => ?_⟩
  refine lc_tup (K := K) (a := lp) (xs := x3) (fun i H' => Same H12 H' ∧ H' D2 = some (.lst [])) ⟨same_upd nD2, upd_same⟩ (fun i H' _ q => SqT.tups (same_tups q.1) h3) ?_ ?_
  · rintro i x H' hx ⟨s2, hacc⟩
    have is := only x (List.mem_of_getElem? hx)
    have fl : flatV x = true := by rcases is with rfl | rfl <;> rfl
    have inn : inV x [.str "0", .str "1"] = true := by
      rcases is with rfl | rfl
      · decide +kernel
      · decide +kernel
    refine ⟨rfl, _, rfl, (by show 2 ≤ sizeLine; rw [sizeLine_eq]; decide), fun L nL => ⟨L, _, rfl, .inl (SqL.of upd_same), fl, rfl, _, rfl, ?_⟩⟩
    rw [show (if true = true then !inV x [.str "0", .str "1"] else inV x [.str "0", .str "1"]) = false by rw [inn]; rfl]
    refine iteF ⟨same_trans s2 (same_upd nL), ?_⟩
    rw [upd_ne (ne_of_none hacc nL)]
    exact hacc
  · rintro H' ⟨s2, hacc⟩
    refine ⟨(by show 0 ≤ sizeLine; exact Nat.zero_le _), fun L nL => ?_⟩
    have u3 := same_upd (o := .lst []) nL
    have sh0 : SeqAt.shaped (.list []) = true := rfl
    refine ⟨.list [], .list [], .lst (SqL.of (u3 _ _ hacc)) .nil, .lst (SqL.of upd_same) .nil, sh0, sh0, ?_⟩
    rw [SeqAt.eqv_refl _ (SeqAt.canLay_of_shaped sh0)]
    refine ⟨true, rfl, iteT ?_⟩
    refine ⟨_, rfl, _, rfl, lp, x3, rfl, .inr (SqT.tups (same_tups (same_trans s2 u3)) h3), (x1.length : Int) + (x2.length : Int), (x3.length : Int), rfl, rfl, .inl ⟨by omega, by omega⟩, ((x1.length : Int) + (x2.length : Int)) * (x3.length : Int), 8, rfl, rfl, ?_⟩
    have sF := same_trans sC (same_trans s2 u3)
    have z := q _ (fun b o eb nt => sF _ _ (e5 _ _ eb nt)) (Tabs.ext t5 sF)
    show Q (.bl (decide (((x1.length : Int) + (x2.length : Int)) * (x3.length : Int) ≤ 8))) _
    rw [decide_eq_true le]
    exact z
end
end K38

set_option Elab.async false
set_option linter.all false
set_option maxRecDepth 100000
set_option maxHeartbeats 4000000
namespace K38
open PySem PySem.Spec PyProof.Rows L2 Pen Tr AK LamX RU
theorem dpall_at {K : PySem.W.Frag} {H : Hp} : ∀ {xs : List V} {ds : List PyData} {i : Nat} {v : V}, DpAll K H xs ds → xs[i]? = some v → ∃ d ∈ ds, Dp K H v d
  | _, _, i, v, .nil, e => by simp at e
  | _, _, 0, v, .cons h1 _, e => by
    cases (show some _ = some v from e)
    exact ⟨_, List.mem_cons_self .., h1⟩
  | _, _, i + 1, v, .cons _ h2, e => by
    obtain ⟨d, hd, h⟩ := dpall_at h2 (i := i) (by simpa using e)
    exact ⟨d, List.mem_cons_of_mem _ hd, h⟩
def oddD : List PyData := [.none, .int 1, .int 0, .int (-3), .bool true, .str "7", .int 1000001, .tuple [.int 5]]
theorem odd_ok : ∀ d ∈ oddD, d.showable = true ∧ d.hasDict = false ∧ d.depth ≤ 60 ∧ d.shown.length ≤ 100 := by decide +kernel
theorem odd_lay : ∀ d ∈ oddD, PyData.canLay0 (.str d.shown) = true := by decide +kernel
theorem odd_out : ∀ d ∈ oddD, OutD d 2 1000000 := fun d hd => by
  simp only [oddD, List.mem_cons, List.not_mem_nil, or_false] at hd
  rcases hd with rfl | rfl | rfl | rfl | rfl | rfl | rfl | rfl
  · exact .inl rfl
  · exact .inr ⟨1, rfl, by decide⟩
  · exact .inr ⟨0, rfl, by decide⟩
  · exact .inr ⟨-3, rfl, by decide⟩
  · exact .inl rfl
  · exact .inl rfl
  · exact .inr ⟨1000001, rfl, by decide⟩
  · exact .inl rfl
theorem step_sh {d : PyData} (hd : d ∈ oddD) : SeqAt.shaped (.tuple [.str "rows", .str d.shown]) = true := shaped_tuple fun e he => by
  simp only [List.mem_cons, List.not_mem_nil, or_false] at he
  rcases he with rfl | rfl
  · exact ⟨by decide +kernel, Nat.zero_le _⟩
  · exact ⟨odd_lay d hd, Nat.zero_le _⟩
section
variable {P : Program} {w : World} {K : PySem.W.Frag} {mg : Str → Option PySem.Value} {base : Heap} {f CS CB fN fD fP fT fF fZ : Addr} {fd fdN fdD fdP fdT fdF fdZ : FuncData} {TT : List (Addr × Str)}
def spLaw (K : PySem.W.Frag) (T : List (Addr × Str)) : Sp := fun vs H Q _ => ∃ (a : Addr) (ns : List Int), vs = [.ref a] ∧ SqL K H a (ns.map V.int) ∧ ns.length ≤ 63 ∧ Tabs T H ∧ ∀ H', Q (.bl true) H'
abbrev nLaw : List Str := ["_law_script", "_law_pen_here", "_law_rows", "_law_power", "_law_great", "_law_odd"]
theorem scLaw : FnScope nLaw ["_law_script"] (defScope (top 51)) := ⟨rfl, rfl, rfl, by decide +kernel, rfl, by decide +kernel, by decide +kernel⟩
theorem ok_law (F : FnT K "law" 51 f fd) (TX : Txt mg) (SF : SwF K CS) (FN : FnP K "_law_pen" sPen fN fdN) (gN : mg "_law_pen" = some (.ref fN)) (FD : FnP K "_law_draw" sDraw fD fdD) (gD : mg "_law_draw" = some (.ref fD)) (FP : FnP K "_law_pick" sPick fP fdP) (gP : mg "_law_pick" = some (.ref fP))
    (FT : FnT K "_law_tower_right" 50 fT fdT) (gT : mg "_law_tower_right" = some (.ref fT)) (GT : GFn P w K mg base CX0 11 fT fdT ["_law_rows"] (spRt K TT))
    (FF : FnT K "_law_refused" 49 fF fdF) (gF : mg "_law_refused" = some (.ref fF)) (GF : GFn P w K mg base CX0 11 fF fdF ["_law_rows"] (spRf K TT))
    (FZ : FnT K "tower" 41 fZ fdZ) (gZ : mg "tower" = some (.ref fZ)) (GZ : GFn P w K mg base (L2.CX P w) 10 fZ fdZ ["rows"] (spTw K w CS CB TT)) : GFn P w K mg base CX0 12 f fd ["_law_script"] (spLaw K TT) := by
  have GN : FnOk P w K mg base CX0 1 fN fdN ["_law_script"] (spPen K) := ok_pen FN TX
  have GD : FnOk P w K mg base CX0 1 fD fdD ["_law_pen_here", "_law_many"] spDraw := ok_draw FD TX
  have GP : FnOk P w K mg base CX0 2 fP fdP ["_law_pen_here", "_law_some"] (spPick K) := ok_pick FP TX FD gD
  have bN : L2.Binds K fdN ["_law_script"] [] := FN.bindsN fun _ _ _ _ _ _ us hl => match us, hl with | [_], _ => rfl
  have bD : L2.Binds K fdD ["_law_pen_here", "_law_many"] [] := FD.bindsN fun _ _ _ _ _ _ us hl => match us, hl with | [_, _], _ => rfl
  have bP : L2.Binds K fdP ["_law_pen_here", "_law_some"] [] := FP.bindsN fun _ _ _ _ _ _ us hl => match us, hl with | [_, _], _ => rfl
  have bT : L2.Binds K fdT ["_law_rows"] [] := FunD.bindsN FT fun _ _ _ _ _ _ us hl => match us, hl with | [_], _ => rfl
  have bF : L2.Binds K fdF ["_law_rows"] [] := FunD.bindsN FF fun _ _ _ _ _ _ us hl => match us, hl with | [_], _ => rfl
  have bZ : L2.Binds K fdZ ["rows"] [] := FunD.bindsN FZ fun _ _ _ _ _ _ us hl => match us, hl with | [_], _ => rfl
  refine GFn.of F scLaw (fun vs H Q E h => by obtain ⟨a, ns, rfl, _⟩ := h; rfl) (fun c A outer s0 H vs Q E hc hr free h => ?_)
  obtain ⟨sa, ns, rfl, hS, hlen, tabs, q⟩ := h
  have nd := scLaw.nd
  have hu := hr.units
  suffices z : ∃ t, PSs (cxOf CX0 P w K mg base nLaw "law" (defScope (top 51)) f (.ref c) A outer s0 H E).nox (defBody (top 51)) t ∧ t { nx := fun _ H' => Q .non H', rt := Q } (start nLaw [.ref sa]) H by
    obtain ⟨t, h1, h2⟩ := z
    exact ⟨t, h1.nox, h2⟩
  refine ⟨_, pss_cons (ps_asg (pe_call GN (hr.mono (by decide)) (by rfl) gN FN.kp bN .nil pass0 (pa_cons (pv 0) pa_nil)) (pg_name (i := 1) nd rfl (.inl rfl)))
    (pss_cons (ps_for PassesOwn.never rfl (pi_list (pe_lst (pa_cons pe_int (pa_cons pe_int (pa_cons pe_int (pa_cons (pe_op op_add pe_int (pe_call GD (hr.mono (by decide)) (by rfl) gD FD.kp bD .nil pass0 (pa_cons (pv 1) (pa_cons pe_int pa_nil)))) (pa_cons (pe_op op_add pe_int (pe_call GD (hr.mono (by decide)) (by rfl) gD FD.kp bD .nil pass0 (pa_cons (pv 1) (pa_cons pe_int pa_nil)))) pa_nil))))))) (pg_name (i := 2) nd rfl (.inl rfl))
      (pss_one (ps_if (pt_not (pt_val (pe_callG GT free hr (by rfl) gT FT.kp bT pass0 (pa_cons (pv 2) pa_nil)))) (pss_one (ps_ret pe_bl)) pss_nil)))
    (pss_cons (ps_asg (pe_call GP (hr.mono (by decide)) (by rfl) gP FP.kp bP .nil pass0 (pa_cons (pv 1) (pa_cons (pe_lst (pa_cons pe_int (pa_cons pe_int (pa_cons pe_int (pa_cons pe_int pa_nil))))) pa_nil))) (pg_name (i := 3) nd rfl (.inl rfl)))
    (pss_cons (ps_for PassesOwn.never rfl (pi_list (pe_lst (pa_cons (pe_op op_mul pe_int (pv 3)) (pa_cons (pe_op op_add (pe_op op_mul pe_int (pv 3)) pe_int) (pa_cons (pe_op op_add (pe_op op_mul pe_int (pv 3)) pe_int) (pa_cons (pe_op op_add (pe_op op_mul pe_int (pv 3)) pe_int) pa_nil)))))) (pg_name (i := 2) nd rfl (.inl rfl))
      (pss_one (ps_if (pt_not (pt_val (pe_callG GT free hr (by rfl) gT FT.kp bT pass0 (pa_cons (pv 2) pa_nil)))) (pss_one (ps_ret pe_bl)) pss_nil)))
    (pss_cons (ps_asg (pe_callG GZ free (hr.mono (by decide)) (by rfl) gZ FZ.kp bZ passE0 (pa_cons (pe_op op_sub (pe_op op_pow pe_int pe_int) (pe_call GD (hr.mono (by decide)) (by rfl) gD FD.kp bD .nil pass0 (pa_cons (pv 1) (pa_cons pe_int pa_nil)))) pa_nil)) (pg_name (i := 4) nd rfl (.inl rfl)))
    (pss_cons (ps_if (PW.pt (pw_or (pt_cmpR op_ne (pe_callB call_len_seq (by rfl) TX.len PySem.boot_len (pa_cons (pe_fld (pv 4) rfl) pa_nil)) pe_int (nomark _)) (pw_or1 (pt_cmpR op_notN (pe_callG GF free hr (by rfl) gF FF.kp bF pass0 (pa_cons (pe_op op_pow pe_int pe_int) pa_nil)) pe_non (nomark _))))) (pss_one (ps_ret pe_bl)) pss_nil)
    (pss_cons (ps_asg (pe_call GP (hr.mono (by decide)) (by rfl) gP FP.kp bP .nil pass0 (pa_cons (pv 1) (pa_cons (pe_lst (pa_cons pe_non (pa_cons pe_int (pa_cons pe_int (pa_cons (pe_un un_neg pe_int) (pa_cons pe_bl (pa_cons pe_str (pa_cons (pe_op op_add (pe_op op_pow pe_int pe_int) pe_int) (pa_cons (pe_tup (pa_cons pe_int pa_nil)) pa_nil))))))))) pa_nil))) (pg_name (i := 5) nd rfl (.inl rfl)))
    (pss_one (ps_ret (pe_cmpR (op_eqD hu) (pe_callG GF free hr (by rfl) gF FF.kp bF pass0 (pa_cons (pv 5) pa_nil)) (pe_tup (pa_cons pe_str (pa_cons (pe_callB (call_showV free hu) (by rfl) TX.repr (by decide +kernel) (pa_cons (pv 5) pa_nil)) pa_nil))) (by rfl)))))))))), ?_⟩
  clear bN bD bP bT bF bZ
  refine ⟨_, rfl, sa, ns, rfl, hS, hlen, fun p pl H1 PA1 s1 hp0 => ?_⟩
  have t1 := tabs.ext s1
  refine ⟨_, rfl, p, pl, _, 60, rfl, PA1, by decide, by decide, by decide, fun r1 H4 r10 r11 PA4 b4 => ⟨5, r1, rfl, rfl, ?_⟩⟩
  have t4 := Tabs.pen t1 PA1 b4
  refine ⟨_, rfl, p, pl, _, 300, rfl, PA4, by decide, by decide, by decide, fun r2 H5 r20 r21 PA5 b5 => ⟨2, r2, rfl, rfl, (by show 5 ≤ sizeLine; rw [sizeLine_eq]; decide), fun L nL => ⟨L, rfl, ⟨_, SqL.of upd_same⟩, ?_⟩⟩⟩
  have t5 := Tabs.pen t4 PA4 b5
  obtain ⟨k1, rfl⟩ : ∃ k : Nat, r1 = (k : Int) := ⟨r1.toNat, by omega⟩
  obtain ⟨k2, rfl⟩ : ∃ k : Nat, r2 = (k : Int) := ⟨r2.toNat, by omega⟩
  have u6 := same_upd (o := .lst [.int 2, .int 3, .int 4, .int (5 + (k1 : Int)), .int (2 + (k2 : Int))]) nL
  have hL6 : upd H5 L (.lst [.int 2, .int 3, .int 4, .int (5 + (k1 : Int)), .int (2 + (k2 : Int))]) L = some (.lst [.int 2, .int 3, .int 4, .int (5 + (k1 : Int)), .int (2 + (k2 : Int))]) := upd_same
  have PA6 := PA5.keep u6
  have t6 := Tabs.ext t5 u6
  clear b4 b5 t5 t4 PA5 PA4 u6 nL t1 PA1
  refine for_list (K := K) (a := L) (xs := [.int 2, .int 3, .int 4, .int (5 + (k1 : Int)), .int (2 + (k2 : Int))]) (fun i σ H' => (∃ o2, σ = [some (.ref sa), some (.ref p), o2, none, none, none]) ∧ (∃ m, m ≤ 1000 ∧ PenAt H' p pl m) ∧ Tabs TT H' ∧ H' L = some (.lst [.int 2, .int 3, .int 4, .int (5 + (k1 : Int)), .int (2 + (k2 : Int))])) ⟨⟨none, rfl⟩, ⟨_, by decide, PA6⟩, t6, hL6⟩ (fun i σ H' _ ⟨_, _, _, h⟩ => SqL.of h) ?_ ?_
  · rintro i x σ H7 hx ⟨⟨o3, rfl⟩, ⟨mm, mle, PA7⟩, t7, hL7⟩
    obtain ⟨n, rfl, n1, n9⟩ : ∃ n : Nat, x = .int n ∧ 2 ≤ n ∧ n ≤ 400 := by
      have z := List.mem_of_getElem? hx
      simp only [List.mem_cons, List.not_mem_nil, or_false] at z
      rcases z with rfl | rfl | rfl | rfl | rfl
      · exact ⟨2, rfl, by decide, by decide⟩
      · exact ⟨3, rfl, by decide, by decide⟩
      · exact ⟨4, rfl, by decide, by decide⟩
      · exact ⟨5 + k1, by rw [Int.natCast_add]; rfl, by omega, by omega⟩
      · exact ⟨2 + k2, by rw [Int.natCast_add]; rfl, by omega, by omega⟩
    refine ⟨_, rfl, n, rfl, n1, n9, t7, fun H8 e8 t8 => ⟨true, rfl, iteF ⟨⟨_, rfl⟩, ⟨mm, mle, Tr.PenAt.extN PA7 e8⟩, t8, e8 _ _ hL7 fun _ z => nomatch z⟩⟩⟩
  rintro σ H7 ⟨⟨o2, rfl⟩, ⟨mm, mle, PA7⟩, t7, _⟩
  refine ⟨_, rfl, (by show 4 ≤ sizeLine; rw [sizeLine_eq]; decide), fun L0 nL0 => ?_⟩
  have u2 := same_upd (o := .lst [.int 8, .int 16, .int 32, .int 64]) nL0
  have hL0 : upd H7 L0 (.lst [.int 8, .int 16, .int 32, .int 64]) L0 = some (.lst [.int 8, .int 16, .int 32, .int 64]) := upd_same
  have PA2 := PA7.keep u2
  have t2 := Tabs.ext t7 u2
  refine ⟨p, pl, L0, mm, _, rfl, PA2, by omega, SqL.of hL0, (by intro z; cases z), (by show 4 < 1073741824; decide), pen_ne PA2 hL0, fun i0 v0 H3 hv0 PA3 b3 => ?_⟩
  obtain ⟨k0, rfl, k01, k02⟩ : ∃ k : Nat, v0 = .int k ∧ 8 ≤ k ∧ k ≤ 64 := by
    have z := List.mem_of_getElem? hv0
    simp only [List.mem_cons, List.not_mem_nil, or_false] at z
    rcases z with rfl | rfl | rfl | rfl
    · exact ⟨8, rfl, by decide, by decide⟩
    · exact ⟨16, rfl, by decide, by decide⟩
    · exact ⟨32, rfl, by decide, by decide⟩
    · exact ⟨64, rfl, by decide, by decide⟩
  have t3 := Tabs.pen t2 PA2 b3
  clear hv0 b3 PA2 t2 hL0 u2 nL0 PA7 t7
  refine ⟨_, rfl, 2, k0, rfl, rfl, .inl ⟨by decide, by decide⟩, _, rfl, 2, k0, rfl, rfl, .inl ⟨by decide, by decide⟩, 2 * (k0 : Int), 1, rfl, rfl, _, rfl, 2, k0, rfl, rfl, .inl ⟨by decide, by decide⟩, 2 * (k0 : Int), 2, rfl, rfl, _, rfl, 2, k0, rfl, rfl, .inl ⟨by decide, by decide⟩, 2 * (k0 : Int), 3, rfl, rfl, (by show 4 ≤ sizeLine; rw [sizeLine_eq]; decide), fun L nL => ⟨L, rfl, ⟨_, SqL.of upd_same⟩, ?_⟩⟩
  have u6 := same_upd (o := .lst [.int (2 * (k0 : Int)), .int (2 * (k0 : Int) + 1), .int (2 * (k0 : Int) + 2), .int (2 * (k0 : Int) + 3)]) nL
  have hL6 : upd H3 L (.lst [.int (2 * (k0 : Int)), .int (2 * (k0 : Int) + 1), .int (2 * (k0 : Int) + 2), .int (2 * (k0 : Int) + 3)]) L = some (.lst [.int (2 * (k0 : Int)), .int (2 * (k0 : Int) + 1), .int (2 * (k0 : Int) + 2), .int (2 * (k0 : Int) + 3)]) := upd_same
  have PA6 := PA3.keep u6
  have t6 := Tabs.ext t3 u6
  clear u6 nL t3 PA3
  refine for_list (K := K) (a := L) (xs := [.int (2 * (k0 : Int)), .int (2 * (k0 : Int) + 1), .int (2 * (k0 : Int) + 2), .int (2 * (k0 : Int) + 3)]) (fun i σ H' => (∃ o2, σ = [some (.ref sa), some (.ref p), o2, some (.int (k0 : Int)), none, none]) ∧ (∃ m, m ≤ 2000 ∧ PenAt H' p pl m) ∧ Tabs TT H' ∧ H' L = some (.lst [.int (2 * (k0 : Int)), .int (2 * (k0 : Int) + 1), .int (2 * (k0 : Int) + 2), .int (2 * (k0 : Int) + 3)])) ⟨⟨_, rfl⟩, ⟨_, by omega, PA6⟩, t6, hL6⟩ (fun i σ H' _ ⟨_, _, _, h⟩ => SqL.of h) ?_ ?_
  · rintro i x σ H7 hx ⟨⟨o3, rfl⟩, ⟨mm, mle, PA7⟩, t7, hL7⟩
    obtain ⟨n, rfl, n1, n9⟩ : ∃ n : Nat, x = .int n ∧ 2 ≤ n ∧ n ≤ 400 := by
      have z := List.mem_of_getElem? hx
      simp only [List.mem_cons, List.not_mem_nil, or_false] at z
      rcases z with rfl | rfl | rfl | rfl
      · exact ⟨2 * k0, by congr 1, by omega, by omega⟩
      · exact ⟨2 * k0 + 1, by congr 1, by omega, by omega⟩
      · exact ⟨2 * k0 + 2, by congr 1, by omega, by omega⟩
      · exact ⟨2 * k0 + 3, by congr 1, by omega, by omega⟩
    refine ⟨_, rfl, n, rfl, n1, n9, t7, fun H8 e8 t8 => ⟨true, rfl, iteF ⟨⟨_, rfl⟩, ⟨mm, mle, Tr.PenAt.extN PA7 e8⟩, t8, e8 _ _ hL7 fun _ z => nomatch z⟩⟩⟩
  rintro σ H7 ⟨⟨o3, rfl⟩, ⟨m3, mle3, PA7⟩, t7, _⟩
  refine ⟨10, 6, rfl, rfl, ⟨by decide, by decide, by decide⟩, _, rfl, p, pl, m3, 1000, rfl, PA7, by omega, by decide, by decide, fun r3 H8 r30 r31 PA8 b8 => ⟨10 ^ 6, r3, rfl, rfl, ?_⟩⟩
  have t8 := Tabs.pen t7 PA7 b8
  obtain ⟨k3, rfl⟩ : ∃ k : Nat, r3 = (k : Int) := ⟨r3.toNat, by omega⟩
  obtain ⟨n, en⟩ : ∃ n, n = 1000000 - k3 := ⟨_, rfl⟩
  have n6 : 999000 < n ∧ n ≤ 1000000 := by omega
  refine .inl ⟨n, ?_, by omega, n6.2, t8, fun sw H9 m be e9 t9 so G => ?_⟩
  · show [V.int ((1000000 : Int) - (k3 : Int))] = [V.int (n : Int)]
    rw [show (1000000 : Int) - (k3 : Int) = (n : Int) by omega]
  have PA9 := Tr.PenAt.extN PA8 e9
  obtain ⟨dx, fi, ds, dt, v1, v2, h1, h2, h3, h4, h5⟩ := so.ex
  have d19 : dN (((n - 1) / 2 : Nat) : Int) = 19 := dN_least (by omega) (by decide) (by have : (2 : Nat) ^ 19 = 524288 := rfl; omega) (.inr (by have : (2 : Nat) ^ (19 - 1) = 262144 := rfl; omega))
  have len19 : ((sqRow (dN (((n - 1) / 2 : Nat) : Int)) (aN ((n - 1) / 2)) 0 0).map (·.1)).length = 19 := by
    rw [List.length_map]
    unfold sqRow
    rw [dg_len, bits_len, d19]
  clear PA8 b8 t7 PA7 t8
  refine ⟨_, rfl, sw, CS, dx, _, .ref fi, rfl, h1, SF.cl, SF.fi, rfl, fi, _, rfl, .inr h2, ?_⟩
  rw [len19]
  refine ⟨rfl, false, (by show V.bl (!decide (V.int 19 = V.int 19)) = _; rw [decide_eq_true (show V.int 19 = V.int 19 from rfl)]; rfl), iteF ⟨10, 6, rfl, rfl, ⟨by decide, by decide, by decide⟩, .inl ⟨1000000, rfl, by decide, by decide, t9, fun H10 e10 t10 => ⟨rfl, _, rfl, iteF ?_⟩⟩⟩⟩
  have PA10 := Tr.PenAt.extN PA9 e10
  clear h1 h2 h3 h4 h5 so G t9 PA9
  refine ⟨_, rfl, 3, rfl, 10, 6, rfl, rfl, ⟨by decide, by decide, by decide⟩, 10 ^ 6, 1, rfl, rfl, (by show 1 ≤ sizeLine; rw [sizeLine_eq]; decide), fun to nto => ⟨(by show 8 ≤ sizeLine; rw [sizeLine_eq]; decide), fun Lo nLo => ?_⟩⟩
  have u1 := same_upd (o := .tup [.int 5]) nto
  have u2 := same_upd (o := .lst [.non, .int 1, .int 0, .int (-3), .bl true, .str "7", .int 1000001, .ref to]) nLo
  have hto : SqT K (upd (upd H10 to (.tup [.int 5])) Lo (.lst [.non, .int 1, .int 0, .int (-3), .bl true, .str "7", .int 1000001, .ref to])) to [.int 5] := SqT.tups (same_tups u2) (sq_new nto)
  have s10 := same_trans u1 u2
  have PA10 := PA10.keep s10
  have t10 := Tabs.ext t10 s10
  have hLo : upd (upd H10 to (.tup [.int 5])) Lo (.lst [.non, .int 1, .int 0, .int (-3), .bl true, .str "7", .int 1000001, .ref to]) Lo = some (.lst [.non, .int 1, .int 0, .int (-3), .bl true, .str "7", .int 1000001, .ref to]) := upd_same
  have all : DpAll K (upd (upd H10 to (.tup [.int 5])) Lo (.lst [.non, .int 1, .int 0, .int (-3), .bl true, .str "7", .int 1000001, .ref to])) [.non, .int 1, .int 0, .int (-3), .bl true, .str "7", .int 1000001, .ref to] oddD := .cons .non (.cons (.int _) (.cons (.int _) (.cons (.int _) (.cons (.bl _) (.cons (.str _) (.cons (.int _) (.cons (.tup hto (.cons (.int _) .nil)) .nil)))))))
  refine ⟨p, pl, Lo, _, _, rfl, PA10, by omega, SqL.of hLo, (by intro z; cases z), (by show 8 < 1073741824; decide), pen_ne PA10 hLo, fun i v H11 hv PA11 b11 => ?_⟩
  obtain ⟨d, hd, hv0⟩ := dpall_at all hv
  have hv1 := dp_pen PA10 b11 d v hv0
  obtain ⟨z1, z2, z3, z4⟩ := odd_ok d hd
  have z4 : d.shown.length ≤ sizeLine := Nat.le_trans z4 (by rw [sizeLine_eq]; decide)
  refine ⟨_, rfl, .inr ⟨v, d, rfl, hv1, odd_out d hd, z1, z2, z3, z4, fun pt H12 s12 hpt => ?_⟩⟩
  refine ⟨_, rfl, v, d, rfl, dp_same s12 _ _ hv1, z1, z2, z3, z4, (by show 2 ≤ sizeLine; rw [sizeLine_eq]; decide), fun pu npu => ?_⟩
  have s14 := same_upd (o := .tup [.str "rows", .str d.shown]) npu
  have sh := step_sh hd
  refine ⟨.tuple [.str "rows", .str d.shown], .tuple [.str "rows", .str d.shown], .tup (SqT.tups (same_tups s14) hpt) (.cons (.str _) (.cons (.str _) .nil)), .tup (SqT.of upd_same) (.cons (.str _) (.cons (.str _) .nil)), sh, sh, ?_⟩
  rw [SeqAt.eqv_refl _ (SeqAt.canLay_of_shaped sh)]
  exact q _
end
end K38

set_option Elab.async false
set_option linter.all false
set_option maxRecDepth 100000
set_option maxHeartbeats 0
namespace K38
open PySem PySem.Spec PyProof.Rows L2 Pen Tr AK LamX RU
section
variable {P : Program} {w : World} {K : PySem.W.Frag} {h : Heap} {mg : Str → Option PySem.Value} {base : Heap} {f : Addr}
theorem ex_xc (q : ex K = true) : ∀ C ∈ cs K, Xc K C := fun C hC => xcAll_ok (List.all_eq_true.mp (Bool.and_eq_true_iff.mp q).1 C hC)
theorem ex_emd (q : ex K = true) : ∀ C ∈ cs K, ∀ D ∈ cs K, PySem.W.exmOne K (.ref C) (.ref D) = some (C == D) := fun C hC D hD => of_decide_eq_true (List.all_eq_true.mp (List.all_eq_true.mp (Bool.and_eq_true_iff.mp (Bool.and_eq_true_iff.mp q).2).1 C hC) D hD)
theorem ex_em (q : ex K = true) : ∀ C ∈ cs K, PySem.W.exmOne K (.ref C) (.ref C) = some true := fun C hC => by
  rw [ex_emd q C hC C hC, beq_self_eq_true]
theorem ex_no (q : ex K = true) : ∀ C ∈ cs K, ∀ y ∈ flds, PySem.W.findIn K (.ref C) y = some none := fun C hC y hy =>
  of_decide_eq_true (List.all_eq_true.mp (List.all_eq_true.mp (Bool.and_eq_true_iff.mp (Bool.and_eq_true_iff.mp (Bool.and_eq_true_iff.mp q).2).2).1 C hC) y hy)
theorem ex_rest (q : ex K = true) : AK.datB K 20 (.ref (He.ga K "DIGITS")) dDig = true ∧ AK.datB K 20 (.ref (He.ga K "LETTERS")) dLet = true ∧ AK.datB K 20 (.ref (He.ga K "DIRECTIONS")) dDirs = true ∧ strAt K (He.ga K "OTHER_DIRECTION") "l" "r" = true ∧ strAt K (He.ga K "OTHER_DIRECTION") "r" "l" = true ∧ He.ga K "BadNumber" ≠ He.ga K "TooMany" := by
  obtain ⟨p1, p2⟩ := Bool.and_eq_true_iff.mp (Bool.and_eq_true_iff.mp (Bool.and_eq_true_iff.mp (Bool.and_eq_true_iff.mp q).2).2).2
  obtain ⟨p3, p4⟩ := Bool.and_eq_true_iff.mp p2
  obtain ⟨r1, r2⟩ := Bool.and_eq_true_iff.mp p4
  obtain ⟨r3, r4⟩ := Bool.and_eq_true_iff.mp r2
  obtain ⟨r5, r6⟩ := Bool.and_eq_true_iff.mp r4
  exact ⟨p1, p3, r1, r3, r5, of_decide_eq_true r6⟩
theorem dat_at {a : Addr} {d : PyData} (q : AK.datB K 20 (.ref a) d = true) : ∀ H, Dp K H (.ref a) d := by
  obtain ⟨x, r, z⟩ := datB_ok _ _ _ q
  have e : x = .ref a := by
    cases x with
    | ref b => cases r; rfl
    | int i => obtain ⟨t, z⟩ := r; cases z
    | str i => obtain ⟨t, z⟩ := r; cases z
    | byt i => obtain ⟨t, z⟩ := r; cases z
    | flt i => obtain ⟨t, z⟩ := r; cases z
    | _ => cases r
  rw [e] at z
  exact z
theorem dirs_sq {a : Addr} (z : ∀ H, Dp K H (.ref a) dDirs) : ∀ H, SqT K H a [.str "l", .str "r"] := fun H => by
  cases z H with
  | tup hs ha =>
    cases ha with
    | cons h1 h2 =>
      cases h2 with
      | cons h3 h4 =>
        cases h4
        cases h1
        cases h3
        exact hs
theorem let_sq {a : Addr} (z : ∀ H, Dp K H (.ref a) dLet) : ∀ H, SqT K H a [.str "0", .str "1", .str "x"] := fun H => by
  cases z H with
  | tup hs ha =>
    cases ha with
    | cons h1 h2 =>
      cases h2 with
      | cons h3 h4 =>
        cases h4 with
        | cons h5 h6 =>
          cases h6
          cases h1
          cases h3
          cases h5
          exact hs
theorem dig_sq {a : Addr} (z : ∀ H, Dp K H (.ref a) dDig) : ∀ H, SqT K H a [.str "0", .str "1"] := fun H => by
  cases z H with
  | tup hs ha =>
    cases ha with
    | cons h1 h2 =>
      cases h2 with
      | cons h3 h4 =>
        cases h4
        cases h1
        cases h3
        exact hs
theorem kd_of {a : Addr} {x y : Str} (k : He.dicW K a = some (He.keysIn w.params ["l", "r"])) (z : strAt K a x y = true) : KDct K w a x (.str y) := by
  obtain ⟨es, n, kd⟩ := He.dicW_ok k
  unfold strAt at z
  split at z
  · rename_i s t e
    obtain rfl := of_decide_eq_true z
    exact ⟨es, n, _, kd.1, kd.2, e, _, rfl⟩
  · cases z
theorem in_cs {x : Str} (hx : x ∈ errs) : He.ga K x ∈ cs K := List.mem_map.mpr ⟨x, hx, rfl⟩
theorem er_of {x : Str} {fs : List Str} {fd : FuncData} (hx : x ∈ errs) (hf : ∀ y ∈ fs, y ∈ flds) (q : ex K = true) (m : mg x = some (.ref (He.ga K x))) (M : Meth K (He.ga K x) "__init__" (He.ma K (He.ga K x) "__init__"))
    (G : FnOk P w K mg base CX0 1 (He.ma K (He.ga K x) "__init__") fd ("self" :: fs) (spI (He.ga K x) fs)) (b : L2.Binds K fd ("self" :: fs) []) : Er P w K mg base x (He.ga K x) fs :=
  ⟨ex_xc q _ (in_cs hx), fun y hy => ex_no q _ (in_cs hx) y (hf y hy), m, ⟨_, fd, M.at_, beq_iff_eq.mp M.fn, G, b⟩⟩
theorem ct_of {x : Str} {fs : List Str} (hx : x ∈ errs) (hf : ∀ y ∈ fs, y ∈ flds) (q : ex K = true) (m : mg x = some (.ref (He.ga K x))) : Ct K mg x (He.ga K x) fs :=
  ⟨m, (ex_xc q _ (in_cs hx)).f, fun y hy => ex_no q _ (in_cs hx) y (hf y hy), ex_em q _ (in_cs hx)⟩
/-- the tables and their defs -/
def csT (K : PySem.W.Frag) : List (Addr × Addr) := [He.cT K ("by_repr", none)]
def qs (K : PySem.W.Frag) : List (Addr × Str) := [((He.cT K ("by_repr", none)).2, ("by_repr" ++ ".<locals>." ++ "<lambda>" : Str))]
theorem qs_tabs {H : Hp} (z : ∀ p ∈ csT K, H p.2 = some (.tbl #[])) : Tabs (qs K) H := fun p hp => by
  unfold qs at hp
  simp only [List.mem_cons, List.not_mem_nil, or_false] at hp
  obtain rfl := hp
  exact TabS.nil (z _ (by simp [csT]))
theorem facts (X : K.In h) (N : h.Ns mainGlobals mg) (hfa : mg ("law" : Str) = some (.ref f)) (d : He.SaysD fa fn K) (q : ex K = true) (kO : He.dicW K (He.ga K "OTHER_DIRECTION") = some (He.keysIn w.params ["l", "r"])) :
    ∃ fd : FuncData, (∀ (s : Shared) (v : PySem.Value), BindsTo s fd ⟨[v], []⟩ [("_law_script", v)]) ∧ ∀ base : Heap, K.In base → base.Ns mainGlobals mg → (∀ p ∈ csT K, TabB base mg p.1 p.2) → GFn P w K mg base CX0 12 f fd ["_law_script"] (spLaw K (qs K)) := by
  obtain ⟨rD, rL, r1, r2, r3, r4⟩ := ex_rest q
  have T : Txt mg := ⟨He.free_ok X N (d.fact 0 (f := .free "len") rfl), He.free_ok X N (d.fact 1 (f := .free "int") rfl), He.free_ok X N (d.fact 2 (f := .free "list") rfl), He.free_ok X N (d.fact 3 (f := .free "range") rfl), He.free_ok X N (d.fact 4 (f := .free "repr") rfl), He.free_ok X N (d.fact 5 (f := .free "isinstance") rfl), He.free_ok X N (d.fact 6 (f := .free "tuple") rfl), He.free_ok X N (d.fact 7 (f := .free "bool") rfl), He.free_ok X N (d.fact 8 (f := .free "sorted") rfl), He.free_ok X N (d.fact 9 (f := .free "all") rfl), He.free_ok X N (d.fact 10 (f := .free "dict") rfl), He.free_ok X N (d.fact 11 (f := .free "str") rfl), He.free_ok X N (d.fact 12 (f := .free "max") rfl), He.free_ok X N (d.fact 13 (f := .free "min") rfl)⟩
  have g_is_direction := He.glo_ok X N (d.fact 14 (f := .glo "is_direction") rfl)
  have g_in_order := He.glo_ok X N (d.fact 15 (f := .glo "in_order") rfl)
  have g_is_integer := He.glo_ok X N (d.fact 16 (f := .glo "is_integer") rfl)
  have g_is_datum := He.glo_ok X N (d.fact 17 (f := .glo "is_datum") rfl)
  have g_is_symbol := He.glo_ok X N (d.fact 18 (f := .glo "is_symbol") rfl)
  have g_is_tuple_of := He.glo_ok X N (d.fact 19 (f := .glo "is_tuple_of") rfl)
  have g_by_repr := He.glo_ok X N (d.fact 20 (f := .glo "by_repr") rfl)
  have g_is_first := He.glo_ok X N (d.fact 21 (f := .glo "is_first") rfl)
  have g_are_steps := He.glo_ok X N (d.fact 22 (f := .glo "are_steps") rfl)
  have g_is_step := He.glo_ok X N (d.fact 23 (f := .glo "is_step") rfl)
  have g_are_turns := He.glo_ok X N (d.fact 24 (f := .glo "are_turns") rfl)
  have g_is_turn := He.glo_ok X N (d.fact 25 (f := .glo "is_turn") rfl)
  have g_letters_of := He.glo_ok X N (d.fact 26 (f := .glo "letters_of") rfl)
  have g_states_of := He.glo_ok X N (d.fact 27 (f := .glo "states_of") rfl)
  have g_run := He.glo_ok X N (d.fact 28 (f := .glo "run") rfl)
  have g_lengths_of := He.glo_ok X N (d.fact 29 (f := .glo "lengths_of") rfl)
  have g_check_within := He.glo_ok X N (d.fact 30 (f := .glo "check_within") rfl)
  have g_digits_needed := He.glo_ok X N (d.fact 31 (f := .glo "digits_needed") rfl)
  have g_digits_that_run_over := He.glo_ok X N (d.fact 32 (f := .glo "digits_that_run_over") rfl)
  have g_handing_steps := He.glo_ok X N (d.fact 33 (f := .glo "handing_steps") rfl)
  have g_adding_machine := He.glo_ok X N (d.fact 34 (f := .glo "adding_machine") rfl)
  have g_counting_machine := He.glo_ok X N (d.fact 35 (f := .glo "counting_machine") rfl)
  have g_tower := He.glo_ok X N (d.fact 36 (f := .glo "tower") rfl)
  have g__law_pen := He.glo_ok X N (d.fact 37 (f := .glo "_law_pen") rfl)
  have g__law_draw := He.glo_ok X N (d.fact 38 (f := .glo "_law_draw") rfl)
  have g__law_pick := He.glo_ok X N (d.fact 39 (f := .glo "_law_pick") rfl)
  have g__law_sh_digits := He.glo_ok X N (d.fact 40 (f := .glo "_law_sh_digits") rfl)
  have g__law_sh_row := He.glo_ok X N (d.fact 41 (f := .glo "_law_sh_row") rfl)
  have g__law_sh_number := He.glo_ok X N (d.fact 42 (f := .glo "_law_sh_number") rfl)
  have g__law_refused := He.glo_ok X N (d.fact 43 (f := .glo "_law_refused") rfl)
  have g__law_tower_right := He.glo_ok X N (d.fact 44 (f := .glo "_law_tower_right") rfl)
  have g_law := He.glo_ok X N (d.fact 45 (f := .glo "law") rfl)
  have g_DIRECTIONS := He.glo_ok X N (d.fact 46 (f := .glo "DIRECTIONS") rfl)
  have g_OTHER_DIRECTION := He.glo_ok X N (d.fact 47 (f := .glo "OTHER_DIRECTION") rfl)
  have g_DIGITS := He.glo_ok X N (d.fact 48 (f := .glo "DIGITS") rfl)
  have g_LETTERS := He.glo_ok X N (d.fact 49 (f := .glo "LETTERS") rfl)
  have g_Reach := He.glo_ok X N (d.fact 50 (f := .glo "Reach") rfl)
  have g_Sweeps := He.glo_ok X N (d.fact 51 (f := .glo "Sweeps") rfl)
  have g_Walker := He.glo_ok X N (d.fact 52 (f := .glo "Walker") rfl)
  have g_BadNumber := He.glo_ok X N (d.fact 53 (f := .glo "BadNumber") rfl)
  have g_TooMany := He.glo_ok X N (d.fact 54 (f := .glo "TooMany") rfl)
  have g_MOST_TOWER_ROWS := He.int_ok X N (d.fact 55 (f := .int "MOST_TOWER_ROWS" 1000000) rfl)
  obtain ⟨fd_is_direction, F_is_direction⟩ := d.def_ 0 rfl
  obtain ⟨fd_in_order, F_in_order⟩ := d.def_ 1 rfl
  obtain ⟨fd_is_integer, F_is_integer⟩ := d.def_ 2 rfl
  obtain ⟨fd_is_datum, F_is_datum⟩ := d.def_ 3 rfl
  obtain ⟨fd_is_symbol, F_is_symbol⟩ := d.def_ 4 rfl
  obtain ⟨fd_is_tuple_of, F_is_tuple_of⟩ := d.def_ 5 rfl
  obtain ⟨fd_by_repr, F_by_repr⟩ := d.def_ 6 rfl
  obtain ⟨fd_is_first, F_is_first⟩ := d.def_ 7 rfl
  obtain ⟨fd_are_steps, F_are_steps⟩ := d.def_ 8 rfl
  obtain ⟨fd_is_step, F_is_step⟩ := d.def_ 9 rfl
  obtain ⟨fd_are_turns, F_are_turns⟩ := d.def_ 10 rfl
  obtain ⟨fd_is_turn, F_is_turn⟩ := d.def_ 11 rfl
  obtain ⟨fd_letters_of, F_letters_of⟩ := d.def_ 12 rfl
  obtain ⟨fd_states_of, F_states_of⟩ := d.def_ 13 rfl
  obtain ⟨fd_run, F_run⟩ := d.def_ 14 rfl
  obtain ⟨fd_lengths_of, F_lengths_of⟩ := d.def_ 15 rfl
  obtain ⟨fd_check_within, F_check_within⟩ := d.def_ 16 rfl
  obtain ⟨fd_digits_needed, F_digits_needed⟩ := d.def_ 17 rfl
  obtain ⟨fd_digits_that_run_over, F_digits_that_run_over⟩ := d.def_ 18 rfl
  obtain ⟨fd_handing_steps, F_handing_steps⟩ := d.def_ 19 rfl
  obtain ⟨fd_adding_machine, F_adding_machine⟩ := d.def_ 20 rfl
  obtain ⟨fd_counting_machine, F_counting_machine⟩ := d.def_ 21 rfl
  obtain ⟨fd_tower, F_tower⟩ := d.def_ 22 rfl
  obtain ⟨fd__law_pen, F__law_pen⟩ := d.def_ 23 rfl
  obtain ⟨fd__law_draw, F__law_draw⟩ := d.def_ 24 rfl
  obtain ⟨fd__law_pick, F__law_pick⟩ := d.def_ 25 rfl
  obtain ⟨fd__law_sh_digits, F__law_sh_digits⟩ := d.def_ 26 rfl
  obtain ⟨fd__law_sh_row, F__law_sh_row⟩ := d.def_ 27 rfl
  obtain ⟨fd__law_sh_number, F__law_sh_number⟩ := d.def_ 28 rfl
  obtain ⟨fd__law_refused, F__law_refused⟩ := d.def_ 29 rfl
  obtain ⟨fd__law_tower_right, F__law_tower_right⟩ := d.def_ 30 rfl
  obtain ⟨fd_law, F_law⟩ := d.def_ 31 rfl
  obtain ⟨fd_BadNumber___init__, F_BadNumber___init__⟩ := d.def_ 32 rfl
  obtain ⟨fd_TooMany___init__, F_TooMany___init__⟩ := d.def_ 33 rfl
  obtain ⟨fd_Reach___init__, F_Reach___init__⟩ := d.def_ 34 rfl
  obtain ⟨fd_Reach__add_letter, F_Reach__add_letter⟩ := d.def_ 35 rfl
  obtain ⟨fd_Reach__add_state, F_Reach__add_state⟩ := d.def_ 36 rfl
  obtain ⟨fd_Reach__look_at, F_Reach__look_at⟩ := d.def_ 37 rfl
  obtain ⟨fd_Reach__look_at_step, F_Reach__look_at_step⟩ := d.def_ 38 rfl
  obtain ⟨fd_Reach__look_at_turn, F_Reach__look_at_turn⟩ := d.def_ 39 rfl
  obtain ⟨fd_Sweeps___init__, F_Sweeps___init__⟩ := d.def_ 40 rfl
  obtain ⟨fd_Walker___init__, F_Walker___init__⟩ := d.def_ 41 rfl
  obtain ⟨fd_Walker_sweep, F_Walker_sweep⟩ := d.def_ 42 rfl
  obtain ⟨fd_Walker__turn, F_Walker__turn⟩ := d.def_ 43 rfl
  have M_BadNumber___init__ := He.meth_ok (d.fact 56 (f := .meth "BadNumber" "__init__") rfl)
  have M_TooMany___init__ := He.meth_ok (d.fact 57 (f := .meth "TooMany" "__init__") rfl)
  have K_Reach := He.mkr_ok (d.fact 59 (f := .mkr "Reach") rfl)
  have M_Reach__add_letter := He.meth_ok (d.fact 60 (f := .meth "Reach" "_add_letter") rfl)
  have M_Reach__add_state := He.meth_ok (d.fact 61 (f := .meth "Reach" "_add_state") rfl)
  have M_Reach__look_at := He.meth_ok (d.fact 62 (f := .meth "Reach" "_look_at") rfl)
  have M_Reach__look_at_step := He.meth_ok (d.fact 63 (f := .meth "Reach" "_look_at_step") rfl)
  have M_Reach__look_at_turn := He.meth_ok (d.fact 64 (f := .meth "Reach" "_look_at_turn") rfl)
  have K_Sweeps := He.mkr_ok (d.fact 72 (f := .mkr "Sweeps") rfl)
  have K_Walker := He.mkr_ok (d.fact 80 (f := .mkr "Walker") rfl)
  have M_Walker_sweep := He.meth_ok (d.fact 81 (f := .meth "Walker" "sweep") rfl)
  have M_Walker__turn := He.meth_ok (d.fact 82 (f := .meth "Walker" "_turn") rfl)
  have RF : ReF K (He.ga K "Reach") := ⟨He.cls_ok (d.fact 58 (f := .cls "Reach") rfl), He.noat_ok (d.fact 65 (f := .noat "Reach" "_steps") rfl), He.noat_ok (d.fact 66 (f := .noat "Reach" "_turns") rfl), He.noat_ok (d.fact 67 (f := .noat "Reach" "_todo") rfl), He.noat_ok (d.fact 68 (f := .noat "Reach" "letters") rfl), He.noat_ok (d.fact 69 (f := .noat "Reach" "states") rfl), He.noat_ok (d.fact 70 (f := .noat "Reach" "missing") rfl)⟩
  have SF : SwF K (He.ga K "Sweeps") := ⟨He.cls_ok (d.fact 71 (f := .cls "Sweeps") rfl), He.noat_ok (d.fact 73 (f := .noat "Sweeps" "first") rfl), He.noat_ok (d.fact 74 (f := .noat "Sweeps" "begin") rfl), He.noat_ok (d.fact 75 (f := .noat "Sweeps" "steps") rfl), He.noat_ok (d.fact 76 (f := .noat "Sweeps" "turns") rfl), He.noat_ok (d.fact 77 (f := .noat "Sweeps" "letters") rfl), He.noat_ok (d.fact 78 (f := .noat "Sweeps" "states") rfl)⟩
  have WF : WkF K (He.ga K "Walker") := ⟨He.cls_ok (d.fact 79 (f := .cls "Walker") rfl), He.noat_ok (d.fact 83 (f := .noat "Walker" "_sweeps") rfl), He.noat_ok (d.fact 84 (f := .noat "Walker" "direction") rfl), He.noat_ok (d.fact 85 (f := .noat "Walker" "state") rfl)⟩
  have e := hfa.symm.trans g_law
  cases e
  refine ⟨fd_law, fun s v => FunD.bindsA (ps := ["_law_script"]) F_law (fun _ _ _ _ _ _ us hl => match us, hl with | [_], _ => rfl) s [v] rfl, fun base _ _ tb => ?_⟩
  have E_BadNumber : Er P w K mg base "BadNumber" (He.ga K "BadNumber") ["what", "number"] := er_of (by simp [errs]) (by simp [flds]) q g_BadNumber M_BadNumber___init__ (ok_BadNumber F_BadNumber___init__ (ex_xc q _ (in_cs (by simp [errs]))) (fun y hy => ex_no q _ (in_cs (by simp [errs])) y (by revert hy; revert y; simp [flds])))
    (FunD.bindsN F_BadNumber___init__ fun _ _ _ _ _ _ us hl => match us, hl with | [_, _, _], _ => rfl)
  have X_BadNumber : Ct K mg "BadNumber" (He.ga K "BadNumber") ["what", "number"] := ct_of (by simp [errs]) (by simp [flds]) q g_BadNumber
  have E_TooMany : Er P w K mg base "TooMany" (He.ga K "TooMany") ["what", "many", "limit"] := er_of (by simp [errs]) (by simp [flds]) q g_TooMany M_TooMany___init__ (ok_TooMany F_TooMany___init__ (ex_xc q _ (in_cs (by simp [errs]))) (fun y hy => ex_no q _ (in_cs (by simp [errs])) y (by revert hy; revert y; simp [flds])))
    (FunD.bindsN F_TooMany___init__ fun _ _ _ _ _ _ us hl => match us, hl with | [_, _, _, _], _ => rfl)
  have X_TooMany : Ct K mg "TooMany" (He.ga K "TooMany") ["what", "many", "limit"] := ct_of (by simp [errs]) (by simp [flds]) q g_TooMany
  have nBT : PySem.W.exmOne K (.ref (He.ga K "BadNumber")) (.ref (He.ga K "TooMany")) = some false := by
    rw [ex_emd q _ (in_cs (by simp [errs])) _ (in_cs (by simp [errs]))]
    exact congrArg some (beq_eq_false_iff_ne.mpr r4)
  have hD := dat_at r1
  have hDs := dirs_sq hD
  have hO : ∀ b, KDct K w (He.ga K "OTHER_DIRECTION") (wayS b) (.str (wayS (!b))) := fun b => match b with
    | true => kd_of kO r3
    | false => kd_of kO r2
  have G_datum : FnOk P w K mg base CX0 2 _ _ ["value"] (spSym K) := ok_datum F_is_datum T F_is_integer g_is_integer
  have G_symbol := ok_symbol (P := P) (w := w) (mg := mg) (base := base) F_is_symbol F_is_datum g_is_datum G_datum
  have G_tupof : FnOk P w K mg base CX0 1 _ _ ["many", "value"] (spTup K) := ok_tupof F_is_tuple_of T
  have G_dir : FnOk P w K mg base CX0 1 _ _ ["value"] (spDir K) := ok_dir F_is_direction g_DIRECTIONS hD
  have G_ord : FnOk P w K mg base CX0 1 _ _ ["direction", "columns"] (spOrd K) := ok_ord F_in_order T
  have tb1 := tb (He.cT K ("by_repr", none)) (by simp [csT])
  have in1 : ((He.cT K ("by_repr", none)).2, ("by_repr" ++ ".<locals>." ++ "<lambda>" : Str)) ∈ qs K := by simp [qs]
  have un1 : ∀ p ∈ qs K, p.1 = (He.cT K ("by_repr", none)).2 → p.2 = ("by_repr" ++ ".<locals>." ++ "<lambda>" : Str) := fun p hp _ => by
    unfold qs at hp
    simp only [List.mem_cons, List.not_mem_nil, or_false] at hp
    obtain rfl := hp
    rfl
  have G_by : GFn P w K mg base CX0 4 _ _ ["values"] (spBy K w (qs K)) := ok_by F_by_repr T rfl tb1 in1 un1
  have G_addS : FnOk P w K mg base CX0 1 _ _ ["self", "direction", "state"] (spAddS K w (He.ga K "Reach")) := ok_addS F_Reach__add_state RF
  have G_lookS : FnOk P w K mg base CX0 2 _ _ ["self", "key"] (spLookS K w (He.ga K "Reach")) := ok_lookS F_Reach__look_at_step RF M_Reach__add_state F_Reach__add_state M_Reach__add_letter F_Reach__add_letter g_DIRECTIONS hDs
  have G_lookT : FnOk P w K mg base CX0 2 _ _ ["self", "key"] (spLookT K w (He.ga K "Reach")) := ok_lookT F_Reach__look_at_turn RF M_Reach__add_state F_Reach__add_state M_Reach__add_letter F_Reach__add_letter g_DIRECTIONS hDs g_OTHER_DIRECTION hO
  have G_look : FnOk P w K mg base CX0 3 _ _ ["self", "key"] (spLook K w (He.ga K "Reach")) := ok_look F_Reach__look_at T RF M_Reach__look_at_step F_Reach__look_at_step G_lookS M_Reach__look_at_turn F_Reach__look_at_turn G_lookT
  have G_reach : FnOk P w K mg base CX0 4 _ _ ["self", "first", "begin", "steps", "turns"] (spRe K w (He.ga K "Reach")) := ok_reach F_Reach___init__ RF M_Reach__add_state F_Reach__add_state M_Reach__add_letter F_Reach__add_letter g_DIRECTIONS hDs M_Reach__look_at F_Reach__look_at G_look
  have G_isStep : FnOk P w K mg base CX0 4 _ _ ["key", "told"] (spStep K) := ok_isStep F_is_step F_is_tuple_of g_is_tuple_of G_tupof F_is_direction g_is_direction G_dir F_is_symbol g_is_symbol G_symbol
  have G_isTurn : FnOk P w K mg base CX0 4 _ _ ["key", "told"] (spTurn K) := ok_isTurn F_is_turn F_is_tuple_of g_is_tuple_of G_tupof F_is_direction g_is_direction G_dir F_is_symbol g_is_symbol G_symbol
  have G_areSteps : FnOk P w K mg base CX0 5 _ _ ["steps"] (spSteps K w) := ok_areSteps F_are_steps T F_is_step g_is_step G_isStep
  have G_areTurns : FnOk P w K mg base CX0 5 _ _ ["turns"] (spTurns K w) := ok_areTurns F_are_turns T F_is_turn g_is_turn G_isTurn
  have G_first : FnOk P w K mg base CX0 4 _ _ ["first"] (spFirst K) := ok_first F_is_first T F_is_symbol g_is_symbol G_symbol
  have G_sweeps : GFn P w K mg base CX0 6 _ _ ["self", "first", "begin", "steps", "turns"] (spSw K w (He.ga K "Sweeps") (qs K)) := ok_sweeps F_Sweeps___init__ T SF RF F_is_first g_is_first G_first F_is_symbol g_is_symbol G_symbol F_are_steps g_are_steps G_areSteps F_are_turns g_are_turns G_areTurns F_Reach___init__ K_Reach G_reach g_Reach F_by_repr g_by_repr G_by
  have G_turnW : FnOk P w K mg base CX0 1 _ _ ["self", "state"] (spTurnW K w (He.ga K "Walker") (He.ga K "Sweeps")) := ok_turnW F_Walker__turn WF SF g_OTHER_DIRECTION hO
  have G_sweep : FnOk P w K mg base CX0 2 _ _ ["self", "word"] (spSweep K w (He.ga K "Walker") (He.ga K "Sweeps")) := ok_sweep F_Walker_sweep WF SF F_in_order g_in_order G_ord M_Walker__turn F_Walker__turn G_turnW
  have G_run : FnOk P w K mg base (L2N.CX P w) 3 _ _ ["sweeps", "most"] (spRun K w (He.ga K "Sweeps") (He.ga K "BadNumber") (He.ga K "TooMany")) := ok_run F_run T WF SF F_is_integer g_is_integer E_BadNumber E_TooMany F_Walker___init__ K_Walker g_Walker M_Walker_sweep F_Walker_sweep G_sweep
  have hDg := dig_sq (dat_at rD)
  have hLt := let_sq (dat_at rL)
  have G_lx : FnOk P w K mg base (L2N.CX P w) 4 _ _ ["sweeps", "most"] (spLx K w (He.ga K "Sweeps") (He.ga K "BadNumber") (He.ga K "TooMany")) := ok_lx F_lengths_of T F_run g_run G_run
  have G_dr : FnOk P w K mg base CX0 2 _ _ ["many"] (spDr K) := ok_dr F_digits_that_run_over T F_digits_needed g_digits_needed g_DIGITS hDg
  have G_cw : FnOk P w K mg base (L2.CX P w) 3 _ _ ["what", "number", "low", "high"] (spCx K (He.ga K "BadNumber")) := ok_cx F_check_within T F_is_integer g_is_integer E_BadNumber
  have G_hs : FnOk P w K mg base CX0 1 _ _ ["nodes"] (spHs K w) := ok_hs F_handing_steps g_LETTERS hLt
  have G_am : GFn P w K mg base CX0 8 _ _ ["first", "grown", "turn"] (spAm K w (He.ga K "Sweeps") (qs K)) := ok_am F_adding_machine F_handing_steps g_handing_steps G_hs F_Sweeps___init__ K_Sweeps g_Sweeps G_sweeps
  have G_cm : GFn P w K mg base CX0 9 _ _ ["rows", "padding"] (spCm K w (He.ga K "Sweeps") (qs K)) := ok_cm F_counting_machine F_handing_steps g_handing_steps G_hs F_Sweeps___init__ K_Sweeps g_Sweeps G_sweeps F_digits_that_run_over g_digits_that_run_over G_dr F_adding_machine g_adding_machine G_am
  have G_tw : GFn P w K mg base (L2.CX P w) 10 _ _ ["rows"] (spTw K w (He.ga K "Sweeps") (He.ga K "BadNumber") (qs K)) := ok_tw F_tower T F_check_within g_check_within G_cw g_MOST_TOWER_ROWS F_counting_machine g_counting_machine G_cm
  have G_dirH : L2H.FnH P w K mg base CX0 1 _ _ ["value"] (spDir K) := ok_dirH F_is_direction g_DIRECTIONS hD
  have G_lo : L2H.FnH P w K mg base CX0 1 _ _ ["sweeps"] (spLo K w (He.ga K "Sweeps")) := ok_loH F_letters_of SF
  have G_so : L2H.FnH P w K mg base CX0 2 _ _ ["sweeps", "direction"] (spSo K w (He.ga K "Sweeps")) := ok_soH F_states_of SF F_is_direction g_is_direction G_dirH
  have G_rf : GFn P w K mg base CX0 11 _ _ ["_law_rows"] (spRf K (qs K)) := ok_rf F__law_refused T X_BadNumber F_tower g_tower G_tw
  have G_rt : GFn P w K mg base CX0 11 _ _ ["_law_rows"] (spRt K (qs K)) := ok_rt F__law_tower_right T X_TooMany F_tower g_tower G_tw F__law_sh_digits g__law_sh_digits F__law_sh_number g__law_sh_number F__law_sh_row g__law_sh_row F_run g_run G_run F_lengths_of g_lengths_of G_lx F_states_of g_states_of G_so F_letters_of g_letters_of G_lo
  exact ok_law F_law T SF F__law_pen g__law_pen F__law_draw g__law_draw F__law_pick g__law_pick F__law_tower_right g__law_tower_right G_rt F__law_refused g__law_refused G_rf F_tower g_tower G_tw
end
end K38

set_option Elab.async false
set_option linter.all false
set_option maxRecDepth 100000
set_option maxHeartbeats 0
open PySem PySem.W PySem.Calls PyProof.Rows


theorem PySem.Challenge.cw_tilesregrow_k38_whole_towers_holds : PySem.Challenge.rw_tilesregrow_k38_whole_towers.Holds := by
  w_on; o_law; k_head
  case hw => w_witness2
  k_fill
  refine Tr.law_walkT (l := PySem.Challenge.rw_tilesregrow_k38_whole_towers) (n := 63) (k := 12) (x := "_law_script") rfl (by decide) (by kernel_rfl) ⟨rfl, by decide, by decide⟩ ?F
  intro w mg fa h Y G hmg0
  have KX := PySem.W.km_in_of Y
  have TB := PySem.W.km_tabs_of Y
  have hmg : mg ("law" : PySem.Str) = some (.ref fa) := hmg0
  obtain ⟨fd, hb, hF⟩ := K38.facts (P := (PySem.Challenge.rw_tilesregrow_k38_whole_towers).prog) (w := w) KX G hmg (show He.obsD K38.fa K38.fn _ = He.valD K38.fn by kernel_rfl) (by kernel_rfl) (by kernel_rfl)
  refine ⟨_, fd, K38.spLaw _ (K38.qs _), K38.csT _, KX, fun p hp => ?_, fun p hp => ?_, fun p hp => ?_, hb, fun H a ns hl hz hS => ⟨a, ns, rfl, hS, hl, K38.qs_tabs hz, fun _ => rfl⟩, hF⟩
  · obtain rfl := List.mem_singleton.mp hp
    exact TB _ (List.elem_iff.mp (by kernel_rfl))
  · obtain rfl := List.mem_singleton.mp hp
    kernel_rfl
  · obtain rfl := List.mem_singleton.mp hp
    kernel_rfl

