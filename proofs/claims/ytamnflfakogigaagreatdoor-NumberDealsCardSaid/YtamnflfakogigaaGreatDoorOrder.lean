import Derived.Test.YtamnflfakogigaaGreatDoorM12
set_option linter.all false
namespace Go.Proofs.YtamnflfakogigaaGreatDoor
open Go.RowKit

/-- Each of the numbers from 0 to the length less 1 once. -/
structure IsPerm (n : Nat) (l : List Int) : Prop where
  len : l.length = n
  rng : ∀ (i : Nat) (x : Int), l[i]? = some x → 0 ≤ x ∧ x < n
  inj : ∀ (i j : Nat) (x : Int), l[i]? = some x → l[j]? = some x → i = j

theorem swapL_get {l : List Int} {i j k : Nat} (hi : i < l.length) (hj : j < l.length) : (swapL l i j)[k]? = if k = j then l[i]? else if k = i then l[j]? else l[k]? := by
  unfold swapL
  rw [List.getElem?_set]
  by_cases h1 : j = k
  · subst h1
    rw [if_pos rfl, if_pos rfl, if_pos (by simpa using hj)]
    rw [List.getD_eq_getElem?_getD, List.getElem?_eq_getElem hi]; rfl
  · rw [if_neg h1, if_neg (Ne.symm h1), List.getElem?_set]
    by_cases h2 : i = k
    · subst h2
      rw [if_pos rfl, if_pos rfl, if_pos hi, List.getD_eq_getElem?_getD, List.getElem?_eq_getElem hj]; rfl
    · rw [if_neg h2, if_neg (Ne.symm h2)]

theorem IsPerm.swap {n : Nat} {l : List Int} (h : IsPerm n l) {i j : Nat} (hi : i < n) (hj : j < n) : IsPerm n (swapL l i j) := by
  have hi' : i < l.length := by rw [h.len]; exact hi
  have hj' : j < l.length := by rw [h.len]; exact hj
  refine ⟨by rw [swapL_length]; exact h.len, ?_, ?_⟩
  · intro k x hk
    rw [swapL_get hi' hj'] at hk
    split at hk
    · exact h.rng _ _ hk
    · split at hk
      · exact h.rng _ _ hk
      · exact h.rng _ _ hk
  · intro a b x ha hb
    rw [swapL_get hi' hj'] at ha hb
    split at ha <;> split at hb <;> (try split at ha) <;> (try split at hb) <;> (have := h.inj _ _ _ ha hb; omega)

theorem drawGo_perm {n : Nat} : ∀ (i x : Nat) (l : List Int), i < n → IsPerm n l → IsPerm n (drawGo i x l) := by
  intro i
  induction i with
  | zero => intro x l _ h; exact h
  | succ i ih =>
    intro x l hi h
    rw [drawGo]
    exact ih _ _ (by omega) (h.swap hi (by have := Nat.mod_lt (lcg x) (show 0 < i + 2 by omega); omega))

theorem range_perm (n : Nat) : IsPerm n ((List.range n).map fun (j : Nat) => (j : Int)) := by
  have hg : ∀ (i : Nat) (x : Int), ((List.range n).map fun (j : Nat) => (j : Int))[i]? = some x → i < n ∧ x = (i : Int) := by
    intro i x h
    rw [List.getElem?_map] at h
    by_cases hi : i < n
    · rw [List.getElem?_range hi] at h
      exact ⟨hi, by simpa using h.symm⟩
    · rw [List.getElem?_eq_none (by simpa using hi)] at h
      cases h
  refine ⟨by simp, fun i x h => ?_, fun i j x h1 h2 => ?_⟩
  · obtain ⟨h3, rfl⟩ := hg i x h; omega
  · obtain ⟨h3, h4⟩ := hg i x h1
    obtain ⟨h5, h6⟩ := hg j x h2
    omega
theorem drawList_perm (key n : Nat) : IsPerm n (drawList key n) := by
  rcases Nat.eq_zero_or_pos n with rfl | h
  · exact range_perm 0
  · exact drawGo_perm _ _ _ (by omega) (range_perm n)

/-- What lies above is not touched. -/
theorem drawGo_top : ∀ (i x : Nat) (l : List Int) (k : Nat), i < k → k < l.length → (drawGo i x l)[k]? = l[k]? := by
  intro i
  induction i with
  | zero => intro x l k _ _; rfl
  | succ i ih =>
    intro x l k hk hl
    have hm := Nat.mod_lt (lcg x) (show 0 < i + 2 by omega)
    rw [drawGo, ih _ _ _ (by omega) (by rw [swapL_length]; exact hl), swapL_get (by omega) (by omega), if_neg (by omega), if_neg (by omega)]
theorem drawList_last {key n : Nat} (h : 2 ≤ n) : (drawList key n)[n - 1]? = some ((lcg key % n : Nat) : Int) := by
  obtain ⟨m, rfl⟩ : ∃ m, n = m + 2 := ⟨n - 2, by omega⟩
  have hm := Nat.mod_lt (lcg key) (show 0 < m + 2 by omega)
  have hl : ((List.range (m + 2)).map fun (j : Nat) => (j : Int)).length = m + 2 := by simp
  unfold drawList
  rw [show m + 2 - 1 = m + 1 by omega, drawGo, drawGo_top _ _ _ _ (by omega) (by rw [swapL_length, hl]; omega), swapL_get (by rw [hl]; omega) (by rw [hl]; omega)]
  split
  · rename_i he
    rw [List.getElem?_map, List.getElem?_range (by omega), ← he]; rfl
  · rw [if_pos rfl, List.getElem?_map, List.getElem?_range (by omega)]; rfl
end Go.Proofs.YtamnflfakogigaaGreatDoor
