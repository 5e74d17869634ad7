/-
  Plain facts on rows whose elements change places: a range that is exchanged with another one, a row that is turned round a place, and when two sorted parts make a sorted whole. For the library's stable sort. No program is named here.
-/
import Derived.Test.YtfoaaamcpknjnahKit
namespace Go.Proofs.Ytfoaaamcpknjnah.Stab
open Go.RowKit
set_option linter.unusedVariables false
variable {α : Type}

/-- a row is told by its places: d k is what stands at place k -/
def swp (d : Nat → α) (i j : Nat) : Nat → α := fun k => if k = i then d j else if k = j then d i else d k
/-- n places from a on and n from b on exchanged, the first i of them so far -/
def swr (d : Nat → α) (a b : Nat) : Nat → Nat → α
  | 0 => d
  | i + 1 => swp (swr d a b i) (a + i) (b + i)
/-- what stood in [a, m) and what stood in [m, b) have changed places -/
def rot (d : Nat → α) (a m b : Nat) : Nat → α := fun k => if a ≤ k ∧ k < a + (b - m) then d (k + (m - a)) else if a + (b - m) ≤ k ∧ k < b then d (k - (b - m)) else d k

theorem swr_at (d : Nat → α) (a b : Nat) : ∀ n, (a + n ≤ b ∨ b + n ≤ a) → ∀ k, swr d a b n k = if a ≤ k ∧ k < a + n then d (b + (k - a)) else if b ≤ k ∧ k < b + n then d (a + (k - b)) else d k
  | 0, _, k => by
    rw [swr, if_neg (by omega), if_neg (by omega)]
  | n + 1, h, k => by
    have ih := swr_at d a b n (by omega)
    rw [swr, swp]
    by_cases h1 : k = a + n
    · rw [if_pos h1, if_pos (by omega), ih, if_neg (by omega), if_neg (by omega)]
      congr 1; omega
    · rw [if_neg h1]
      by_cases h2 : k = b + n
      · rw [if_pos h2, if_neg (by omega), if_pos (by omega), ih, if_neg (by omega), if_neg (by omega)]
        congr 1; omega
      · rw [if_neg h2, ih]
        by_cases h3 : a ≤ k ∧ k < a + n
        · rw [if_pos h3, if_pos (by omega)]
        · rw [if_neg h3]
          by_cases h4 : b ≤ k ∧ k < b + n
          · rw [if_pos h4, if_neg (by omega), if_pos (by omega)]
          · rw [if_neg h4, if_neg (by omega), if_neg (by omega)]

/-- the three steps of the turning -/
theorem rot_gt (d : Nat → α) (m i j : Nat) (h : j < i) (hm : i ≤ m) : rot (swr d (m - i) m j) (m - (i - j)) m (m + j) = rot d (m - i) m (m + j) := by
  funext k
  have hs := swr_at d (m - i) m j (by omega)
  unfold rot
  by_cases h1 : m - i ≤ k ∧ k < m - i + (m + j - m)
  · rw [if_pos h1, if_neg (by omega), if_neg (by omega), hs, if_pos (by omega)]
    congr 1; omega
  · rw [if_neg h1]
    by_cases h2 : m - (i - j) ≤ k ∧ k < m - (i - j) + (m + j - m)
    · rw [if_pos h2, hs, if_neg (by omega), if_pos (by omega), if_pos (by omega)]
      congr 1; omega
    · rw [if_neg h2]
      by_cases h3 : m - (i - j) + (m + j - m) ≤ k ∧ k < m + j
      · rw [if_pos h3, hs, if_neg (by omega), if_neg (by omega), if_pos (by omega)]
      · rw [if_neg h3, hs, if_neg (by omega), if_neg (by omega), if_neg (by omega)]
theorem rot_lt (d : Nat → α) (m i j : Nat) (h : i < j) (hm : i ≤ m) : rot (swr d (m - i) (m + j - i) i) (m - i) m (m + (j - i)) = rot d (m - i) m (m + j) := by
  funext k
  have hs := swr_at d (m - i) (m + j - i) i (by omega)
  unfold rot
  by_cases h1 : m - i ≤ k ∧ k < m - i + (m + (j - i) - m)
  · rw [if_pos h1, if_pos (by omega), hs, if_neg (by omega)]
    by_cases h2 : m + j - i ≤ k + (m - (m - i)) ∧ k + (m - (m - i)) < m + j - i + i
    · omega
    · rw [if_neg h2]
  · rw [if_neg h1]
    by_cases h3 : m - i + (m + (j - i) - m) ≤ k ∧ k < m + (j - i)
    · rw [if_pos h3, if_pos (by omega), hs, if_pos (by omega)]
      congr 1; omega
    · rw [if_neg h3, hs]
      by_cases h4 : m + j - i ≤ k ∧ k < m + j - i + i
      · rw [if_neg (by omega), if_pos h4, if_neg (by omega), if_pos (by omega)]
        congr 1; omega
      · rw [if_neg (by omega), if_neg h4, if_neg (by omega), if_neg (by omega)]
theorem rot_eq (d : Nat → α) (m i : Nat) (hm : i ≤ m) : swr d (m - i) m i = rot d (m - i) m (m + i) := by
  funext k
  rw [swr_at d (m - i) m i (by omega), rot]
  by_cases h1 : m - i ≤ k ∧ k < m - i + i
  · rw [if_pos h1, if_pos (by omega)]; congr 1; omega
  · rw [if_neg h1]
    by_cases h2 : m ≤ k ∧ k < m + i
    · rw [if_pos h2, if_neg (by omega), if_pos (by omega)]; congr 1; omega
    · rw [if_neg h2, if_neg (by omega), if_neg (by omega)]

/-- places a to b as a list -/
def seg (d : Nat → α) (a b : Nat) : List α := (List.range (b - a)).map fun i => d (a + i)
/-- d' is d but that in [a, b) things may have changed places -/
structure Moved (a b : Nat) (d d' : Nat → α) : Prop where
  out : ∀ k, ¬ (a ≤ k ∧ k < b) → d' k = d k
  perm : (seg d' a b).Perm (seg d a b)
theorem Moved.refl (a b : Nat) (d : Nat → α) : Moved a b d d := ⟨fun _ _ => rfl, List.Perm.refl _⟩
theorem Moved.trans {a b : Nat} {d d' d'' : Nat → α} (h : Moved a b d d') (k : Moved a b d' d'') : Moved a b d d'' :=
  ⟨fun i hi => (k.out i hi).trans (h.out i hi), k.perm.trans h.perm⟩
theorem seg_length (d : Nat → α) (a b : Nat) : (seg d a b).length = b - a := by simp [seg]
theorem seg_split (d : Nat → α) (a m b : Nat) (h1 : a ≤ m) (h2 : m ≤ b) : seg d a b = seg d a m ++ seg d m b := by
  apply List.ext_getElem
  · simp [seg]; omega
  · intro i h3 h4
    rw [List.getElem_append]
    simp only [seg, List.getElem_map, List.getElem_range, List.length_map, List.length_range]
    split
    · rfl
    · congr 1; omega
theorem seg_congr {d d' : Nat → α} {a b : Nat} (h : ∀ k, a ≤ k → k < b → d' k = d k) : seg d' a b = seg d a b := by
  apply List.ext_getElem (by simp [seg])
  intro i h1 h2
  have : i < b - a := by simpa [seg] using h1
  simp only [seg, List.getElem_map, List.getElem_range]
  exact h _ (by omega) (by omega)
theorem mem_seg {d : Nat → α} {a b : Nat} {x : α} : x ∈ seg d a b ↔ ∃ k, a ≤ k ∧ k < b ∧ d k = x := by
  simp only [seg, List.mem_map, List.mem_range]
  constructor
  · rintro ⟨i, hi, rfl⟩; exact ⟨a + i, by omega, by omega, rfl⟩
  · rintro ⟨k, h1, h2, rfl⟩; exact ⟨k - a, by omega, by congr 1; omega⟩
theorem Moved.mem {a b : Nat} {d d' : Nat → α} (h : Moved a b d d') {k : Nat} (h1 : a ≤ k) (h2 : k < b) : ∃ j, a ≤ j ∧ j < b ∧ d j = d' k := by
  have : d' k ∈ seg d' a b := mem_seg.2 ⟨k, h1, h2, rfl⟩
  exact mem_seg.1 (h.perm.mem_iff.1 this)
/-- a part that was moved, within a whole -/
theorem Moved.wider {a b a' b' : Nat} {d d' : Nat → α} (h : Moved a b d d') (h1 : a' ≤ a) (h2 : a ≤ b) (h3 : b ≤ b') : Moved a' b' d d' := by
  refine ⟨fun k hk => h.out k (by omega), ?_⟩
  rw [seg_split d' a' a b' h1 (by omega), seg_split d a' a b' h1 (by omega), seg_split d' a b b' h2 h3, seg_split d a b b' h2 h3]
  rw [seg_congr (d := d) (d' := d') (a := a') (b := a) (fun k _ hk => h.out k (by omega)), seg_congr (d := d) (d' := d') (a := b) (b := b') (fun k hk _ => h.out k (by omega))]
  exact (h.perm.append_right _).append_left _
theorem seg_rot (d : Nat → α) (a m b : Nat) (h1 : a ≤ m) (h2 : m ≤ b) : seg (rot d a m b) a b = seg d m b ++ seg d a m := by
  apply List.ext_getElem
  · simp [seg]; omega
  · intro i h3 h4
    have hi : i < b - a := by simpa [seg] using h3
    rw [List.getElem_append]
    simp only [seg, List.getElem_map, List.getElem_range, List.length_map, List.length_range, rot]
    by_cases h : i < b - m
    · rw [dif_pos h, if_pos (by omega)]; congr 1; omega
    · rw [dif_neg h, if_neg (by omega), if_pos (by omega)]; congr 1; omega
theorem moved_rot (d : Nat → α) (a m b : Nat) (h1 : a ≤ m) (h2 : m ≤ b) : Moved a b d (rot d a m b) := by
  refine ⟨fun k hk => ?_, ?_⟩
  · rw [rot, if_neg (by omega), if_neg (by omega)]
  · rw [seg_rot d a m b h1 h2, seg_split d a m b h1 h2]
    exact List.perm_append_comm
theorem rot_one (d : Nat → α) (i : Nat) : rot d i (i + 1) (i + 2) = swp d i (i + 1) := by
  funext k
  rw [rot, swp]
  by_cases h1 : k = i
  · rw [if_pos (by omega), if_pos h1]; congr 1; omega
  · rw [if_neg (by omega), if_neg h1]
    by_cases h2 : k = i + 1
    · rw [if_pos (by omega), if_pos h2]; congr 1; omega
    · rw [if_neg (by omega), if_neg h2]
theorem moved_swp (d : Nat → α) (i a b : Nat) (h1 : a ≤ i) (h2 : i + 2 ≤ b) : Moved a b d (swp d i (i + 1)) := by
  have := (moved_rot d i (i + 1) (i + 2) (by omega) (by omega)).wider h1 (by omega) h2
  rwa [rot_one] at this

variable (lt : α → α → Prop)
/-- sorted, each one below all that stand behind it -/
def Srt (d : Nat → α) (a b : Nat) : Prop := ∀ i j, a ≤ i → i < j → j < b → lt (d i) (d j)
theorem Srt.sub {lt : α → α → Prop} {d : Nat → α} {a b a' b' : Nat} (h : Srt lt d a b) (h1 : a ≤ a') (h2 : b' ≤ b) : Srt lt d a' b' := fun i j hi hij hj => h i j (by omega) hij (by omega)
theorem Srt.congr {lt : α → α → Prop} {d d' : Nat → α} {a b : Nat} (h : Srt lt d a b) (he : ∀ k, a ≤ k → k < b → d' k = d k) : Srt lt d' a b := fun i j hi hij hj => by
  rw [he i hi (by omega), he j (by omega) hj]; exact h i j hi hij hj
/-- two sorted parts, all of the first below all of the second -/
theorem Srt.join {lt : α → α → Prop} {d : Nat → α} {a m b : Nat} (h1 : Srt lt d a m) (h2 : Srt lt d m b) (h : ∀ i j, a ≤ i → i < m → m ≤ j → j < b → lt (d i) (d j)) : Srt lt d a b := by
  intro i j hi hij hj
  by_cases c1 : j < m
  · exact h1 i j hi hij c1
  · by_cases c2 : i < m
    · exact h i j hi c2 (by omega) hj
    · exact h2 i j (by omega) hij hj

/-- THE STEP OF THE MERGE. Both runs are sorted; start parts the first, stop (= mid + m - start) the second, so that what is ahead is below what is behind; both are turned round m: then, once both halves are sorted, the whole is. -/
theorem merge_step {lt : α → α → Prop} (tr : ∀ x y z, lt x y → lt y z → lt x z) {d d1 d2 : Nat → α} {a start m stop b mid : Nat} (h1 : a ≤ start) (h2 : start ≤ m) (h3 : m ≤ stop) (h4 : stop ≤ b) (hmid : mid + m = start + stop)
    (sL : Srt lt d a m) (sR : Srt lt d m b) (cL : a < start → stop < b → lt (d (start - 1)) (d stop)) (cR : start < m → m < stop → lt (d (stop - 1)) (d start))
    (m1 : Moved a mid (rot d start m stop) d1) (s1 : Srt lt d1 a mid) (m2 : Moved mid b d1 d2) (s2 : Srt lt d2 mid b) : Srt lt d2 a b ∧ Moved a b d d2 := by
  have hmm : start ≤ mid ∧ mid ≤ stop := by omega
  constructor
  · refine Srt.join (m := mid) (s1.congr fun k _ hk => m2.out k (by omega)) s2 ?_
    intro i j hi him hjm hj
    rw [m2.out i (by omega)]
    obtain ⟨p, hp1, hp2, hp⟩ := m1.mem hi him
    obtain ⟨q, hq1, hq2, hq⟩ := m2.mem hjm hj
    rw [← hp, ← hq, m1.out q (by omega)]
    -- p is of L1 or R1, q of L2 or R2
    have eP : rot d start m stop p = if p < start then d p else d (p + (m - start)) := by
      unfold rot
      by_cases c : p < start
      · rw [if_neg (by omega), if_neg (by omega), if_pos c]
      · rw [if_pos (by omega), if_neg c]
    have eQ : rot d start m stop q = if q < stop then d (q - (stop - m)) else d q := by
      unfold rot
      by_cases c : q < stop
      · rw [if_neg (by omega), if_pos (by omega), if_pos c]
      · rw [if_neg (by omega), if_neg (by omega), if_neg c]
    rw [eP, eQ]
    by_cases c1 : p < start
    · rw [if_pos c1]
      by_cases c2 : q < stop
      · rw [if_pos c2]; exact sL _ _ hp1 (by omega) (by omega)
      · rw [if_neg c2]
        have e1 : lt (d (start - 1)) (d stop) := cL (by omega) (by omega)
        have e2 : d p = d (start - 1) ∨ lt (d p) (d (start - 1)) := by
          by_cases c : p = start - 1
          · left; rw [c]
          · right; exact sL _ _ hp1 (by omega) (by omega)
        have e3 : d stop = d q ∨ lt (d stop) (d q) := by
          by_cases c : stop = q
          · left; rw [c]
          · right; exact sR _ _ (by omega) (by omega) (by omega)
        rcases e2 with e2 | e2 <;> rcases e3 with e3 | e3
        · rw [e2, ← e3]; exact e1
        · rw [e2]; exact tr _ _ _ e1 e3
        · rw [← e3]; exact tr _ _ _ e2 e1
        · exact tr _ _ _ e2 (tr _ _ _ e1 e3)
    · rw [if_neg c1]
      by_cases c2 : q < stop
      · rw [if_pos c2]
        have e1 : lt (d (stop - 1)) (d start) := cR (by omega) (by omega)
        have e2 : d (p + (m - start)) = d (stop - 1) ∨ lt (d (p + (m - start))) (d (stop - 1)) := by
          by_cases c : p + (m - start) = stop - 1
          · left; rw [c]
          · right; exact sR _ _ (by omega) (by omega) (by omega)
        have e3 : d start = d (q - (stop - m)) ∨ lt (d start) (d (q - (stop - m))) := by
          by_cases c : start = q - (stop - m)
          · left; rw [← c]
          · right; exact sL _ _ h1 (by omega) (by omega)
        rcases e2 with e2 | e2 <;> rcases e3 with e3 | e3
        · rw [e2, ← e3]; exact e1
        · rw [e2]; exact tr _ _ _ e1 e3
        · rw [← e3]; exact tr _ _ _ e2 e1
        · exact tr _ _ _ e2 (tr _ _ _ e1 e3)
      · rw [if_neg c2]; exact sR _ _ (by omega) (by omega) (by omega)
  · exact (((moved_rot d start m stop h2 h3).wider h1 (by omega) h4).trans (m1.wider (Nat.le_refl _) (by omega) (by omega))).trans (m2.wider (by omega) (by omega) (Nat.le_refl _))
end Go.Proofs.Ytfoaaamcpknjnah.Stab
