/-
  Plain facts on rows whose elements change places: a range that is exchanged with another one, a row that is turned round a place, and when two sorted parts make a sorted whole. For the library's stable sort. No program is named here.
-/
import Derived.Test.YtfoaaamcpknjnadGreatQ0
import Derived.Test.YtfoaaamcpknjnadGreatQ2
import Derived.Test.YtfoaaamcpknjnadGreatQ1
namespace Go.Proofs.YtfoaaamcpknjnadGreat.Stab
open Go.RowKit
set_option linter.unusedVariables false
variable {α : Type}

/-- a row is told by its places: d k is what stands at place k -/
def swp (d : Nat → α) (i j : Nat) : Nat → α := fun k => if k = i then d j else if k = j then d i else d k
/-- n places from a on and n from b on exchanged, the first i of them so far -/
def swr (d : Nat → α) (a b : Nat) : Nat → Nat → α
  | 0 => d
  | i + 1 => swp (swr d a b i) (a + i) (b + i)
/-- what stood in [a, m) and what stood in [m, b) have changed places -/
def rot (d : Nat → α) (a m b : Nat) : Nat → α := fun k => if a ≤ k ∧ k < a + (b - m) then d (k + (m - a)) else if a + (b - m) ≤ k ∧ k < b then d (k - (b - m)) else d k

theorem swr_at (d : Nat → α) (a b : Nat) : ∀ n, (a + n ≤ b ∨ b + n ≤ a) → ∀ k, swr d a b n k = if a ≤ k ∧ k < a + n then d (b + (k - a)) else if b ≤ k ∧ k < b + n then d (a + (k - b)) else d k
  | 0, _, k => by
    rw [swr, if_neg (by omega), if_neg (by omega)]
  | n + 1, h, k => by
    have ih := swr_at d a b n (by omega)
    rw [swr, swp]
    by_cases h1 : k = a + n
    · rw [if_pos h1, if_pos (by omega), ih, if_neg (by omega), if_neg (by omega)]
      congr 1; omega
    · rw [if_neg h1]
      by_cases h2 : k = b + n
      · rw [if_pos h2, if_neg (by omega), if_pos (by omega), ih, if_neg (by omega), if_neg (by omega)]
        congr 1; omega
      · rw [if_neg h2, ih]
        by_cases h3 : a ≤ k ∧ k < a + n
        · rw [if_pos h3, if_pos (by omega)]
        · rw [if_neg h3]
          by_cases h4 : b ≤ k ∧ k < b + n
          · rw [if_pos h4, if_neg (by omega), if_pos (by omega)]
          · rw [if_neg h4, if_neg (by omega), if_neg (by omega)]

/-- the three steps of the turning -/
theorem rot_gt (d : Nat → α) (m i j : Nat) (h : j < i) (hm : i ≤ m) : rot (swr d (m - i) m j) (m - (i - j)) m (m + j) = rot d (m - i) m (m + j) := by
  funext k
  have hs := swr_at d (m - i) m j (by omega)
  unfold rot
  by_cases h1 : m - i ≤ k ∧ k < m - i + (m + j - m)
  · rw [if_pos h1, if_neg (by omega), if_neg (by omega), hs, if_pos (by omega)]
    congr 1; omega
  · rw [if_neg h1]
    by_cases h2 : m - (i - j) ≤ k ∧ k < m - (i - j) + (m + j - m)
    · rw [if_pos h2, hs, if_neg (by omega), if_pos (by omega), if_pos (by omega)]
      congr 1; omega
    · rw [if_neg h2]
      by_cases h3 : m - (i - j) + (m + j - m) ≤ k ∧ k < m + j
      · rw [if_pos h3, hs, if_neg (by omega), if_neg (by omega), if_pos (by omega)]
      · rw [if_neg h3, hs, if_neg (by omega), if_neg (by omega), if_neg (by omega)]
theorem rot_lt (d : Nat → α) (m i j : Nat) (h : i < j) (hm : i ≤ m) : rot (swr d (m - i) (m + j - i) i) (m - i) m (m + (j - i)) = rot d (m - i) m (m + j) := by
  funext k
  have hs := swr_at d (m - i) (m + j - i) i (by omega)
  unfold rot
  by_cases h1 : m - i ≤ k ∧ k < m - i + (m + (j - i) - m)
  · rw [if_pos h1, if_pos (by omega), hs, if_neg (by omega)]
    by_cases h2 : m + j - i ≤ k + (m - (m - i)) ∧ k + (m - (m - i)) < m + j - i + i
    · omega
    · rw [if_neg h2]
  · rw [if_neg h1]
    by_cases h3 : m - i + (m + (j - i) - m) ≤ k ∧ k < m + (j - i)
    · rw [if_pos h3, if_pos (by omega), hs, if_pos (by omega)]
      congr 1; omega
    · rw [if_neg h3, hs]
      by_cases h4 : m + j - i ≤ k ∧ k < m + j - i + i
      · rw [if_neg (by omega), if_pos h4, if_neg (by omega), if_pos (by omega)]
        congr 1; omega
      · rw [if_neg (by omega), if_neg h4, if_neg (by omega), if_neg (by omega)]
theorem rot_eq (d : Nat → α) (m i : Nat) (hm : i ≤ m) : swr d (m - i) m i = rot d (m - i) m (m + i) := by
  funext k
  rw [swr_at d (m - i) m i (by omega), rot]
  by_cases h1 : m - i ≤ k ∧ k < m - i + i
  · rw [if_pos h1, if_pos (by omega)]; congr 1; omega
  · rw [if_neg h1]
    by_cases h2 : m ≤ k ∧ k < m + i
    · rw [if_pos h2, if_neg (by omega), if_pos (by omega)]; congr 1; omega
    · rw [if_neg h2, if_neg (by omega), if_neg (by omega)]

/-- places a to b as a list -/
def seg (d : Nat → α) (a b : Nat) : List α := (List.range (b - a)).map fun i => d (a + i)
/-- d' is d but that in [a, b) things may have changed places -/
structure Moved (a b : Nat) (d d' : Nat → α) : Prop where
  out : ∀ k, ¬ (a ≤ k ∧ k < b) → d' k = d k
  perm : (seg d' a b).Perm (seg d a b)
theorem Moved.refl (a b : Nat) (d : Nat → α) : Moved a b d d := ⟨fun _ _ => rfl, List.Perm.refl _⟩
theorem Moved.trans {a b : Nat} {d d' d'' : Nat → α} (h : Moved a b d d') (k : Moved a b d' d'') : Moved a b d d'' :=
  ⟨fun i hi => (k.out i hi).trans (h.out i hi), k.perm.trans h.perm⟩
theorem seg_length (d : Nat → α) (a b : Nat) : (seg d a b).length = b - a := by simp [seg]
theorem seg_split (d : Nat → α) (a m b : Nat) (h1 : a ≤ m) (h2 : m ≤ b) : seg d a b = seg d a m ++ seg d m b := by
  apply List.ext_getElem
  · simp [seg]; omega
  · intro i h3 h4
    rw [List.getElem_append]
    simp only [seg, List.getElem_map, List.getElem_range, List.length_map, List.length_range]
    split
    · rfl
    · congr 1; omega
theorem seg_congr {d d' : Nat → α} {a b : Nat} (h : ∀ k, a ≤ k → k < b → d' k = d k) : seg d' a b = seg d a b := by
  apply List.ext_getElem (by simp [seg])
  intro i h1 h2
  have : i < b - a := by simpa [seg] using h1
  simp only [seg, List.getElem_map, List.getElem_range]
  exact h _ (by omega) (by omega)
theorem mem_seg {d : Nat → α} {a b : Nat} {x : α} : x ∈ seg d a b ↔ ∃ k, a ≤ k ∧ k < b ∧ d k = x := by
  simp only [seg, List.mem_map, List.mem_range]
  constructor
  · rintro ⟨i, hi, rfl⟩; exact ⟨a + i, by omega, by omega, rfl⟩
  · rintro ⟨k, h1, h2, rfl⟩; exact ⟨k - a, by omega, by congr 1; omega⟩
theorem Moved.mem {a b : Nat} {d d' : Nat → α} (h : Moved a b d d') {k : Nat} (h1 : a ≤ k) (h2 : k < b) : ∃ j, a ≤ j ∧ j < b ∧ d j = d' k := by
  have : d' k ∈ seg d' a b := mem_seg.2 ⟨k, h1, h2, rfl⟩
  exact mem_seg.1 (h.perm.mem_iff.1 this)
/-- a part that was moved, within a whole -/
theorem Moved.wider {a b a' b' : Nat} {d d' : Nat → α} (h : Moved a b d d') (h1 : a' ≤ a) (h2 : a ≤ b) (h3 : b ≤ b') : Moved a' b' d d' := by
  refine ⟨fun k hk => h.out k (by omega), ?_⟩
  rw [seg_split d' a' a b' h1 (by omega), seg_split d a' a b' h1 (by omega), seg_split d' a b b' h2 h3, seg_split d a b b' h2 h3]
  rw [seg_congr (d := d) (d' := d') (a := a') (b := a) (fun k _ hk => h.out k (by omega)), seg_congr (d := d) (d' := d') (a := b) (b := b') (fun k hk _ => h.out k (by omega))]
  exact (h.perm.append_right _).append_left _
theorem seg_rot (d : Nat → α) (a m b : Nat) (h1 : a ≤ m) (h2 : m ≤ b) : seg (rot d a m b) a b = seg d m b ++ seg d a m := by
  apply List.ext_getElem
  · simp [seg]; omega
  · intro i h3 h4
    have hi : i < b - a := by simpa [seg] using h3
    rw [List.getElem_append]
    simp only [seg, List.getElem_map, List.getElem_range, List.length_map, List.length_range, rot]
    by_cases h : i < b - m
    · rw [dif_pos h, if_pos (by omega)]; congr 1; omega
    · rw [dif_neg h, if_neg (by omega), if_pos (by omega)]; congr 1; omega
theorem moved_rot (d : Nat → α) (a m b : Nat) (h1 : a ≤ m) (h2 : m ≤ b) : Moved a b d (rot d a m b) := by
  refine ⟨fun k hk => ?_, ?_⟩
  · rw [rot, if_neg (by omega), if_neg (by omega)]
  · rw [seg_rot d a m b h1 h2, seg_split d a m b h1 h2]
    exact List.perm_append_comm
theorem rot_one (d : Nat → α) (i : Nat) : rot d i (i + 1) (i + 2) = swp d i (i + 1) := by
  funext k
  rw [rot, swp]
  by_cases h1 : k = i
  · rw [if_pos (by omega), if_pos h1]; congr 1; omega
  · rw [if_neg (by omega), if_neg h1]
    by_cases h2 : k = i + 1
    · rw [if_pos (by omega), if_pos h2]; congr 1; omega
    · rw [if_neg (by omega), if_neg h2]
theorem moved_swp (d : Nat → α) (i a b : Nat) (h1 : a ≤ i) (h2 : i + 2 ≤ b) : Moved a b d (swp d i (i + 1)) := by
  have := (moved_rot d i (i + 1) (i + 2) (by omega) (by omega)).wider h1 (by omega) h2
  rwa [rot_one] at this

variable (lt : α → α → Prop)
/-- sorted, each one below all that stand behind it -/
def Srt (d : Nat → α) (a b : Nat) : Prop := ∀ i j, a ≤ i → i < j → j < b → lt (d i) (d j)
theorem Srt.sub {lt : α → α → Prop} {d : Nat → α} {a b a' b' : Nat} (h : Srt lt d a b) (h1 : a ≤ a') (h2 : b' ≤ b) : Srt lt d a' b' := fun i j hi hij hj => h i j (by omega) hij (by omega)
theorem Srt.congr {lt : α → α → Prop} {d d' : Nat → α} {a b : Nat} (h : Srt lt d a b) (he : ∀ k, a ≤ k → k < b → d' k = d k) : Srt lt d' a b := fun i j hi hij hj => by
  rw [he i hi (by omega), he j (by omega) hj]; exact h i j hi hij hj
/-- two sorted parts, all of the first below all of the second -/
theorem Srt.join {lt : α → α → Prop} {d : Nat → α} {a m b : Nat} (h1 : Srt lt d a m) (h2 : Srt lt d m b) (h : ∀ i j, a ≤ i → i < m → m ≤ j → j < b → lt (d i) (d j)) : Srt lt d a b := by
  intro i j hi hij hj
  by_cases c1 : j < m
  · exact h1 i j hi hij c1
  · by_cases c2 : i < m
    · exact h i j hi c2 (by omega) hj
    · exact h2 i j (by omega) hij hj

/-- THE STEP OF THE MERGE. Both runs are sorted; start parts the first, stop (= mid + m - start) the second, so that what is ahead is below what is behind; both are turned round m: then, once both halves are sorted, the whole is. -/
theorem merge_step {lt : α → α → Prop} (tr : ∀ x y z, lt x y → lt y z → lt x z) {d d1 d2 : Nat → α} {a start m stop b mid : Nat} (h1 : a ≤ start) (h2 : start ≤ m) (h3 : m ≤ stop) (h4 : stop ≤ b) (hmid : mid + m = start + stop)
    (sL : Srt lt d a m) (sR : Srt lt d m b) (cL : a < start → stop < b → lt (d (start - 1)) (d stop)) (cR : start < m → m < stop → lt (d (stop - 1)) (d start))
    (m1 : Moved a mid (rot d start m stop) d1) (s1 : Srt lt d1 a mid) (m2 : Moved mid b d1 d2) (s2 : Srt lt d2 mid b) : Srt lt d2 a b ∧ Moved a b d d2 := by
  have hmm : start ≤ mid ∧ mid ≤ stop := by omega
  constructor
  · refine Srt.join (m := mid) (s1.congr fun k _ hk => m2.out k (by omega)) s2 ?_
    intro i j hi him hjm hj
    rw [m2.out i (by omega)]
    obtain ⟨p, hp1, hp2, hp⟩ := m1.mem hi him
    obtain ⟨q, hq1, hq2, hq⟩ := m2.mem hjm hj
    rw [← hp, ← hq, m1.out q (by omega)]
    -- p is of L1 or R1, q of L2 or R2
    have eP : rot d start m stop p = if p < start then d p else d (p + (m - start)) := by
      unfold rot
      by_cases c : p < start
      · rw [if_neg (by omega), if_neg (by omega), if_pos c]
      · rw [if_pos (by omega), if_neg c]
    have eQ : rot d start m stop q = if q < stop then d (q - (stop - m)) else d q := by
      unfold rot
      by_cases c : q < stop
      · rw [if_neg (by omega), if_pos (by omega), if_pos c]
      · rw [if_neg (by omega), if_neg (by omega), if_neg c]
    rw [eP, eQ]
    by_cases c1 : p < start
    · rw [if_pos c1]
      by_cases c2 : q < stop
      · rw [if_pos c2]; exact sL _ _ hp1 (by omega) (by omega)
      · rw [if_neg c2]
        have e1 : lt (d (start - 1)) (d stop) := cL (by omega) (by omega)
        have e2 : d p = d (start - 1) ∨ lt (d p) (d (start - 1)) := by
          by_cases c : p = start - 1
          · left; rw [c]
          · right; exact sL _ _ hp1 (by omega) (by omega)
        have e3 : d stop = d q ∨ lt (d stop) (d q) := by
          by_cases c : stop = q
          · left; rw [c]
          · right; exact sR _ _ (by omega) (by omega) (by omega)
        rcases e2 with e2 | e2 <;> rcases e3 with e3 | e3
        · rw [e2, ← e3]; exact e1
        · rw [e2]; exact tr _ _ _ e1 e3
        · rw [← e3]; exact tr _ _ _ e2 e1
        · exact tr _ _ _ e2 (tr _ _ _ e1 e3)
    · rw [if_neg c1]
      by_cases c2 : q < stop
      · rw [if_pos c2]
        have e1 : lt (d (stop - 1)) (d start) := cR (by omega) (by omega)
        have e2 : d (p + (m - start)) = d (stop - 1) ∨ lt (d (p + (m - start))) (d (stop - 1)) := by
          by_cases c : p + (m - start) = stop - 1
          · left; rw [c]
          · right; exact sR _ _ (by omega) (by omega) (by omega)
        have e3 : d start = d (q - (stop - m)) ∨ lt (d start) (d (q - (stop - m))) := by
          by_cases c : start = q - (stop - m)
          · left; rw [← c]
          · right; exact sL _ _ h1 (by omega) (by omega)
        rcases e2 with e2 | e2 <;> rcases e3 with e3 | e3
        · rw [e2, ← e3]; exact e1
        · rw [e2]; exact tr _ _ _ e1 e3
        · rw [← e3]; exact tr _ _ _ e2 e1
        · exact tr _ _ _ e2 (tr _ _ _ e1 e3)
      · rw [if_neg c2]; exact sR _ _ (by omega) (by omega) (by omega)
  · exact (((moved_rot d start m stop h2 h3).wider h1 (by omega) h4).trans (m1.wider (Nat.le_refl _) (by omega) (by omega))).trans (m2.wider (by omega) (by omega) (Nat.le_refl _))
end Go.Proofs.YtfoaaamcpknjnadGreat.Stab

/-
  Plain facts for the library's merge of two sorted runs: what is left to be shown of each of its steps. No program is named here.
-/
namespace Go.Proofs.YtfoaaamcpknjnadGreat.Stab
open Go.RowKit
set_option linter.unusedVariables false

/-- by the first number, and of one first number by the second -/
def lx (x y : Int × Int) : Prop := x.1 < y.1 ∨ (x.1 = y.1 ∧ x.2 < y.2)
theorem lx_trans (x y z : Int × Int) (h : lx x y) (k : lx y z) : lx x z := by unfold lx at *; omega
/-- all of the first run came ahead of all of the second -/
def Cross (d : Nat → Int × Int) (a m b : Nat) : Prop := ∀ i j, a ≤ i → i < m → m ≤ j → j < b → (d i).2 < (d j).2
theorem cross_less {x y : Int × Int} (h : x.2 < y.2) : (decide (y.1 < x.1) = true → lx y x) ∧ (decide (y.1 < x.1) = false → lx x y) := by
  unfold lx
  constructor
  · intro e; have := of_decide_eq_true e; omega
  · intro e; have := of_decide_eq_false e; omega

theorem rot_left (d : Nat → Int × Int) (m b : Nat) : rot d m m b = d := by
  funext k; unfold rot
  by_cases h : m ≤ k ∧ k < m + (b - m)
  · rw [if_pos h]; congr 1; omega
  · rw [if_neg h, if_neg (by omega)]
theorem rot_right (d : Nat → Int × Int) (a m : Nat) : rot d a m m = d := by
  funext k; unfold rot
  rw [if_neg (by omega)]
  by_cases h : a + (m - m) ≤ k ∧ k < m
  · rw [if_pos h]; congr 1; omega
  · rw [if_neg h]

/-- what the turning leaves: two pairs of runs -/
theorem merge_parts {d : Nat → Int × Int} {a start m stop b mid : Nat} (h1 : a ≤ start) (h2 : start ≤ m) (h3 : m ≤ stop) (h4 : stop ≤ b) (hmid : mid + m = start + stop) (sL : Srt lx d a m) (sR : Srt lx d m b) (hc : Cross d a m b) :
    (Srt lx (rot d start m stop) a start ∧ Srt lx (rot d start m stop) start mid ∧ Cross (rot d start m stop) a start mid) ∧ (Srt lx (rot d start m stop) mid stop ∧ Srt lx (rot d start m stop) stop b ∧ Cross (rot d start m stop) mid stop b) := by
  have e1 : ∀ k, k < start → rot d start m stop k = d k := fun k hk => by unfold rot; rw [if_neg (by omega), if_neg (by omega)]
  have e2 : ∀ k, start ≤ k → k < mid → rot d start m stop k = d (k + (m - start)) := fun k hk hk2 => by unfold rot; rw [if_pos (by omega)]
  have e3 : ∀ k, mid ≤ k → k < stop → rot d start m stop k = d (k - (stop - m)) := fun k hk hk2 => by unfold rot; rw [if_neg (by omega), if_pos (by omega)]
  have e4 : ∀ k, stop ≤ k → rot d start m stop k = d k := fun k hk => by unfold rot; rw [if_neg (by omega), if_neg (by omega)]
  refine ⟨⟨?_, ?_, ?_⟩, ?_, ?_, ?_⟩
  · intro i j hi hij hj; rw [e1 i (by omega), e1 j hj]; exact sL i j hi hij (by omega)
  · intro i j hi hij hj; rw [e2 i hi (by omega), e2 j (by omega) hj]; exact sR _ _ (by omega) (by omega) (by omega)
  · intro i j hi hi2 hj hj2; rw [e1 i hi2, e2 j hj hj2]; exact hc _ _ hi (by omega) (by omega) (by omega)
  · intro i j hi hij hj; rw [e3 i hi (by omega), e3 j (by omega) hj]; exact sL _ _ (by omega) (by omega) (by omega)
  · intro i j hi hij hj; rw [e4 i hi, e4 j (by omega)]; exact sR i j (by omega) hij hj
  · intro i j hi hi2 hj hj2; rw [e3 i hi hi2, e4 j hj]; exact hc _ _ (by omega) (by omega) (by omega) hj2
theorem Cross.congr {d d' : Nat → Int × Int} {a m b : Nat} (h : Cross d a m b) (he : ∀ k, a ≤ k → k < b → d' k = d k) : Cross d' a m b := fun i j hi hi2 hj hj2 => by
  rw [he i hi (by omega), he j (by omega) hj2]; exact h i j hi hi2 hj hj2

/-- one element ahead of a sorted run goes behind all that are below it -/
theorem ins_first {d : Nat → Int × Int} {a i b : Nat} (h1 : a < i) (h2 : i ≤ b) (sR : Srt lx d (a + 1) b) (hlo : a + 1 < i → lx (d (i - 1)) (d a)) (hhi : i < b → lx (d a) (d i)) : Srt lx (rot d a (a + 1) i) a b := by
  have e1 : ∀ k, a ≤ k → k < i - 1 → rot d a (a + 1) i k = d (k + 1) := fun k hk hk2 => by unfold rot; rw [if_pos (by omega)]; congr 1; omega
  have e2 : rot d a (a + 1) i (i - 1) = d a := by unfold rot; rw [if_neg (by omega), if_pos (by omega)]; congr 1; omega
  have e3 : ∀ k, i ≤ k → rot d a (a + 1) i k = d k := fun k hk => by unfold rot; rw [if_neg (by omega), if_neg (by omega)]
  have below : ∀ k, a + 1 ≤ k → k < i → lx (d k) (d a) := by
    intro k hk hk2
    by_cases c : k = i - 1
    · rw [c]; exact hlo (by omega)
    · exact lx_trans _ _ _ (sR k (i - 1) hk (by omega) (by omega)) (hlo (by omega))
  have above : ∀ k, i ≤ k → k < b → lx (d a) (d k) := by
    intro k hk hk2
    by_cases c : k = i
    · rw [c]; exact hhi (by omega)
    · exact lx_trans _ _ _ (hhi (by omega)) (sR i k (by omega) (by omega) hk2)
  intro p q hp hpq hq
  by_cases c1 : p < i - 1
  · rw [e1 p hp c1]
    by_cases c2 : q < i - 1
    · rw [e1 q (by omega) c2]; exact sR _ _ (by omega) (by omega) (by omega)
    · by_cases c3 : q = i - 1
      · rw [c3, e2]; exact below _ (by omega) (by omega)
      · rw [e3 q (by omega)]; exact sR _ _ (by omega) (by omega) hq
  · by_cases c2 : p = i - 1
    · rw [c2, e2, e3 q (by omega)]; exact above q (by omega) hq
    · rw [e3 p (by omega), e3 q (by omega)]; exact sR _ _ (by omega) hpq hq
/-- one element behind a sorted run goes ahead of all that are above it -/
theorem ins_last {d : Nat → Int × Int} {a i m : Nat} (h1 : a ≤ i) (h2 : i ≤ m) (sL : Srt lx d a m) (hlo : a < i → lx (d (i - 1)) (d m)) (hhi : i < m → lx (d m) (d i)) : Srt lx (rot d i m (m + 1)) a (m + 1) := by
  have e1 : ∀ k, k < i → rot d i m (m + 1) k = d k := fun k hk => by unfold rot; rw [if_neg (by omega), if_neg (by omega)]
  have e2 : rot d i m (m + 1) i = d m := by unfold rot; rw [if_pos (by omega)]; congr 1; omega
  have e3 : ∀ k, i < k → k ≤ m → rot d i m (m + 1) k = d (k - 1) := fun k hk hk2 => by unfold rot; rw [if_neg (by omega), if_pos (by omega)]; congr 1; omega
  have below : ∀ k, a ≤ k → k < i → lx (d k) (d m) := by
    intro k hk hk2
    by_cases c : k = i - 1
    · rw [c]; exact hlo (by omega)
    · exact lx_trans _ _ _ (sL k (i - 1) hk (by omega) (by omega)) (hlo (by omega))
  have above : ∀ k, i ≤ k → k < m → lx (d m) (d k) := by
    intro k hk hk2
    by_cases c : k = i
    · rw [c]; exact hhi (by omega)
    · exact lx_trans _ _ _ (hhi (by omega)) (sL i k h1 (by omega) hk2)
  intro p q hp hpq hq
  by_cases c1 : p < i
  · rw [e1 p c1]
    by_cases c2 : q < i
    · rw [e1 q c2]; exact sL _ _ hp hpq (by omega)
    · by_cases c3 : q = i
      · rw [c3, e2]; exact below p hp c1
      · rw [e3 q (by omega) (by omega)]; exact sL _ _ hp (by omega) (by omega)
  · by_cases c2 : p = i
    · rw [c2, e2, e3 q (by omega) (by omega)]; exact above _ (by omega) (by omega)
    · rw [e3 p (by omega) (by omega), e3 q (by omega) (by omega)]; exact sL _ _ (by omega) (by omega) (by omega)
/-- the exchanges that bring it there -/
theorem rot_up (d : Nat → Int × Int) (a k : Nat) (h : a ≤ k) : swp (rot d a (a + 1) (k + 1)) k (k + 1) = rot d a (a + 1) (k + 1 + 1) := by
  funext q; unfold swp rot
  by_cases c1 : q = k
  · rw [if_pos c1, if_neg (by omega), if_neg (by omega), if_pos (by omega)]; congr 1; omega
  · rw [if_neg c1]
    by_cases c2 : q = k + 1
    · rw [if_pos c2, if_neg (by omega), if_pos (by omega), if_neg (by omega), if_pos (by omega)]; congr 1; omega
    · rw [if_neg c2]
      by_cases c3 : a ≤ q ∧ q < k
      · rw [if_pos (by omega), if_pos (by omega)]
      · rw [if_neg (by omega), if_neg (by omega), if_neg (by omega), if_neg (by omega)]
theorem rot_down (d : Nat → Int × Int) (k m : Nat) (h0 : 0 < k) (h : k ≤ m) : swp (rot d k m (m + 1)) k (k - 1) = rot d (k - 1) m (m + 1) := by
  funext q; unfold swp rot
  by_cases c1 : q = k
  · rw [if_pos c1, if_neg (by omega), if_neg (by omega), if_neg (by omega), if_pos (by omega)]; congr 1; omega
  · rw [if_neg c1]
    by_cases c2 : q = k - 1
    · rw [if_pos c2, if_pos (by omega), if_pos (by omega)]; congr 1; omega
    · rw [if_neg c2]
      by_cases c3 : k < q ∧ q ≤ m
      · rw [if_neg (by omega), if_pos (by omega), if_neg (by omega), if_pos (by omega)]
      · rw [if_neg (by omega), if_neg (by omega), if_neg (by omega), if_neg (by omega)]
end Go.Proofs.YtfoaaamcpknjnadGreat.Stab

/-
  Codes as texts of noughts and ones, by adding one: plain facts.
-/
namespace Go.Proofs.YtfoaaamcpknjnadGreat
open Go.RowKit
set_option linter.unusedVariables false

/-- n bits of a number, the highest first -/
def hb (c : Nat) : Nat → List Bool
  | 0 => []
  | n + 1 => hb (c / 2) n ++ [decide (c % 2 = 1)]
theorem hb_length : ∀ n c, (hb c n).length = n
  | 0, _ => rfl
  | n + 1, c => by simp [hb, hb_length n]
theorem hb_zero : ∀ n, hb 0 n = List.replicate n false
  | 0 => rfl
  | n + 1 => by rw [hb, Nat.zero_div, hb_zero n, List.replicate_succ']; rfl
theorem hb_pad (c n : Nat) : ∀ d, hb (c * 2 ^ d) (n + d) = hb c n ++ List.replicate d false
  | 0 => by simp
  | d + 1 => by
    have e : c * 2 ^ (d + 1) = 2 * (c * 2 ^ d) := by rw [Nat.pow_succ]; rw [← Nat.mul_assoc, Nat.mul_comm]
    rw [show n + (d + 1) = (n + d) + 1 by omega, hb, e]
    have e1 : 2 * (c * 2 ^ d) / 2 = c * 2 ^ d := by omega
    have e2 : 2 * (c * 2 ^ d) % 2 = 0 := by omega
    rw [e1, e2, hb_pad c n d, List.replicate_succ', List.append_assoc]
    rfl
/-- one more: the last nought becomes a one, and all behind it noughts -/
theorem hb_inc : ∀ n c, c + 1 < 2 ^ n → ∃ a t, hb c n = a ++ false :: List.replicate t true ∧ hb (c + 1) n = a ++ true :: List.replicate t false
  | 0, c, h => by simp at h
  | n + 1, c, h => by
    rw [Nat.pow_succ] at h
    by_cases hc : c % 2 = 0
    · refine ⟨hb (c / 2) n, 0, ?_, ?_⟩
      · rw [hb, hc]; rfl
      · rw [hb, show (c + 1) / 2 = c / 2 by omega, show (c + 1) % 2 = 1 by omega]; rfl
    · obtain ⟨a, t, h1, h2⟩ := hb_inc n (c / 2) (by omega)
      refine ⟨a, t + 1, ?_, ?_⟩
      · rw [hb, h1, show c % 2 = 1 by omega, List.replicate_succ', List.append_assoc]; rfl
      · rw [hb, show (c + 1) / 2 = c / 2 + 1 by omega, h2, show (c + 1) % 2 = 0 by omega, List.replicate_succ', List.append_assoc]; rfl

/-- the places that have a length, with it, among the first k -/
def usedP (l : List Int) : Nat → List (Int × Int)
  | 0 => []
  | k + 1 => usedP l k ++ (if 0 < l.getD k 0 then [(l.getD k 0, (k : Int))] else [])
def wt (x : Int × Int) : Nat := 2 ^ (15 - x.1.toNat)
instance (x y : Int × Int) : Decidable (Stab.lx x y) := by unfold Stab.lx; infer_instance
/-- what those take together that stand ahead of p -/
def bsum (p : Int × Int) : List (Int × Int) → Nat
  | [] => 0
  | x :: r => (if Stab.lx x p then wt x else 0) + bsum p r
theorem bsum_append (p : Int × Int) : ∀ xs ys, bsum p (xs ++ ys) = bsum p xs + bsum p ys
  | [], ys => by simp [bsum]
  | x :: r, ys => by simp only [List.cons_append, bsum, bsum_append p r ys]; omega
theorem bsum_perm (p : Int × Int) {xs ys : List (Int × Int)} (h : xs.Perm ys) : bsum p xs = bsum p ys := by
  induction h with
  | nil => rfl
  | cons x _ ih => simp only [bsum, ih]
  | swap x y l => simp only [bsum]; omega
  | trans _ _ h1 h2 => exact h1.trans h2

theorem taken_upd (c : Nat → Nat) (m : Nat) (hm : 1 ≤ m) (h15 : m ≤ 15) : ∀ j, j ≤ 15 → takenN (upd c m (c m + 1)) j = takenN c j + (if m ≤ j then 2 ^ (15 - m) else 0)
  | 0, _ => by simp [takenN]; omega
  | j + 1, h => by
    have ih := taken_upd c m hm h15 j (by omega)
    rw [takenN, takenN, ih]
    by_cases e : j + 1 = m
    · subst e
      have h1 : ¬ (j + 1 ≤ j) := by omega
      have h2 : 15 - (j + 1) = 14 - j := by omega
      simp only [upd, if_pos, h1, if_false, Nat.le_refl, h2, Nat.add_mul, Nat.one_mul]
      omega
    · simp only [upd, if_neg e]
      by_cases h1 : m ≤ j
      · have h2 : m ≤ j + 1 := by omega
        simp [h1, h2]; omega
      · have h2 : ¬ m ≤ j + 1 := by omega
        simp [h1, h2]
theorem taken_upd0 (c : Nat → Nat) (x : Nat) : ∀ j, takenN (upd c 0 x) j = takenN c j
  | 0 => rfl
  | j + 1 => by rw [takenN, takenN, taken_upd0 c x j]; simp [upd]

theorem bsum_used (l : List Int) (hG : Good l) (n q : Nat) (hn : 1 ≤ n) (hn15 : n ≤ 15) : ∀ k, k ≤ l.length → bsum ((n : Int), (q : Int)) (usedP l k) = takenN (cnt (l.take k)) (n - 1) + cnt (l.take (min k q)) n * 2 ^ (15 - n)
  | 0, _ => by
    have e : ∀ j, takenN (cnt []) j = 0 := fun j => by
      induction j with
      | zero => rfl
      | succ j ih => rw [takenN, ih]; simp [cnt]
    simp [usedP, bsum, e, cnt]
  | k + 1, hk => by
    have ih := bsum_used l hG n q hn hn15 k (by omega)
    have hkl : k < l.length := by omega
    have hok := hG.ok k hkl
    obtain ⟨m, hm⟩ := Int.eq_ofNat_of_zero_le hok.1
    have hc := cnt_next l hkl hm
    have hcm : cnt (l.take (k + 1)) n = cnt (l.take k) n + (if n = m then 1 else 0) := by
      rw [← hc]; simp only [upd]
      by_cases e : n = m
      · subst e; simp
      · simp [e]
    have hmin : cnt (l.take (min (k + 1) q)) n = cnt (l.take (min k q)) n + (if k < q ∧ n = m then 1 else 0) := by
      by_cases hkq : k < q
      · rw [Nat.min_eq_left (by omega), Nat.min_eq_left (by omega), hcm]
        simp [hkq]
      · rw [Nat.min_eq_right (by omega), Nat.min_eq_right (by omega)]
        simp [hkq]
    rw [usedP, bsum_append, ih, hmin, ← hc, hm]
    have h15 : m ≤ 15 := by rw [hm] at hok; omega
    by_cases h0 : m = 0
    · subst h0
      rw [taken_upd0]
      have : ¬ n = 0 := by omega
      simp [bsum, this]
    · rw [taken_upd _ m (by omega) h15 (n - 1) (by omega)]
      have hpos : (0 : Int) < (m : Int) := by omega
      rw [if_pos hpos]
      simp only [bsum, wt, Int.toNat_natCast, Nat.add_zero]
      have hlx : Stab.lx ((m : Int), (k : Int)) ((n : Int), (q : Int)) ↔ (m ≤ n - 1 ∨ (n = m ∧ k < q)) := by unfold Stab.lx; constructor <;> intro h <;> omega
      by_cases h1 : m ≤ n - 1
      · have h2 : ¬ (k < q ∧ n = m) := by omega
        rw [if_pos (hlx.2 (.inl h1)), if_pos h1, if_neg h2, Nat.add_zero]
        omega
      · by_cases h2 : k < q ∧ n = m
        · rw [if_pos (hlx.2 (.inr ⟨h2.2, h2.1⟩)), if_neg h1, if_pos h2, Nat.add_mul, Nat.one_mul, h2.2]
          omega
        · rw [if_neg (fun h => by have := hlx.1 h; omega), if_neg h1, if_neg h2, Nat.add_zero, Nat.add_zero, Nat.add_zero]

/-- a place's code tells what stands ahead of it -/
theorem bsum_code (l : List Int) (hG : Good l) {n q : Nat} (hq : q < l.length) (hx : l.getD q 0 = (n : Int)) (hn : 0 < n) : bsum ((n : Int), (q : Int)) (usedP l l.length) = codeN l q * 2 ^ (15 - n) := by
  have hn15 : n ≤ 15 := by have := (hG.ok q hq).2; omega
  rw [bsum_used l hG n q (by omega) hn15 l.length (Nat.le_refl _), List.take_length, Nat.min_eq_right (by omega)]
  have h := first_taken (cnt l) (n - 1) (by omega)
  have e := codeN_nxt l hx
  unfold nxt at e
  rw [if_neg (by omega)] at e
  rw [e, Nat.add_mul, ← h, show n - 1 + 1 = n by omega, show 14 - (n - 1) = 15 - n by omega]

/-- the sum of the first i -/
def vsum (d : Nat → Int × Int) : Nat → Nat
  | 0 => 0
  | i + 1 => vsum d i + wt (d i)
theorem bsum_seg (d : Nat → Int × Int) (p : Int × Int) : ∀ a b, bsum p (Stab.seg d a (a + b)) = (List.range b).foldl (fun s i => s + if Stab.lx (d (a + i)) p then wt (d (a + i)) else 0) 0
  | a, 0 => by simp [Stab.seg, bsum]
  | a, b + 1 => by
    rw [Stab.seg_split d a (a + b) (a + (b + 1)) (by omega) (by omega), bsum_append, bsum_seg d p a b, List.range_succ, List.foldl_append]
    have : Stab.seg d (a + b) (a + (b + 1)) = [d (a + b)] := by
      unfold Stab.seg
      rw [show a + (b + 1) - (a + b) = 1 by omega]
      simp
    rw [this]
    simp [bsum]
theorem bsum_below (d : Nat → Int × Int) (p : Int × Int) : ∀ i, (∀ j, j < i → Stab.lx (d j) p) → bsum p (Stab.seg d 0 i) = vsum d i
  | 0, _ => by simp [Stab.seg, bsum, vsum]
  | i + 1, h => by
    rw [Stab.seg_split d 0 i (i + 1) (by omega) (by omega), bsum_append, bsum_below d p i (fun j hj => h j (by omega)), vsum]
    have : Stab.seg d i (i + 1) = [d i] := by
      unfold Stab.seg
      rw [show i + 1 - i = 1 by omega]
      simp
    rw [this]
    simp [bsum, h i (by omega)]
theorem bsum_above (d : Nat → Int × Int) (p : Int × Int) (a : Nat) : ∀ b, (∀ j, a ≤ j → j < a + b → ¬ Stab.lx (d j) p) → bsum p (Stab.seg d a (a + b)) = 0
  | 0, _ => by simp [Stab.seg, bsum]
  | b + 1, h => by
    rw [Stab.seg_split d a (a + b) (a + (b + 1)) (by omega) (by omega), bsum_append, bsum_above d p a b (fun j h1 h2 => h j h1 (by omega))]
    have : Stab.seg d (a + b) (a + (b + 1)) = [d (a + b)] := by
      unfold Stab.seg
      rw [show a + (b + 1) - (a + b) = 1 by omega]
      simp
    rw [this]
    simp [bsum, h (a + b) (by omega) (by omega)]
theorem lx_irr (x : Int × Int) : ¬ Stab.lx x x := by unfold Stab.lx; omega
theorem lx_asymm {x y : Int × Int} (h : Stab.lx x y) : ¬ Stab.lx y x := by unfold Stab.lx at *; omega
/-- of a sorted row just those ahead stand ahead -/
theorem bsum_sorted (d : Nat → Int × Int) (N : Nat) (hs : Stab.Srt Stab.lx d 0 N) {i : Nat} (hi : i < N) : bsum (d i) (Stab.seg d 0 N) = vsum d i := by
  rw [Stab.seg_split d 0 i N (by omega) (by omega), bsum_append, bsum_below d (d i) i (fun j hj => hs j i (Nat.zero_le _) hj hi)]
  have := bsum_above d (d i) i (N - i) (fun j h1 h2 => by
    by_cases e : j = i
    · subst e; exact lx_irr _
    · exact lx_asymm (hs i j (Nat.zero_le _) (by omega) (by omega)))
  rw [show i + (N - i) = N by omega] at this
  rw [this, Nat.add_zero]
/-- the text of place q's code -/
def codeT (l : List Int) (q : Nat) : List Bool := hb (codeN l q) (l.getD q 0).toNat
end Go.Proofs.YtfoaaamcpknjnadGreat

/-
  Rows of bits, numbers: of lists alone.
-/
namespace Go.Proofs.YtfoaaamcpknjnadGreat
open Go.RowKit
set_option linter.unusedVariables false
set_option maxRecDepth 100000

def numBits (n : Nat) : Nat → List Bool
  | 0 => []
  | k + 1 => numBits n k ++ [n.testBit k]

theorem numBits_length (n : Nat) : ∀ k, (numBits n k).length = k
  | 0 => rfl
  | k + 1 => by rw [numBits, List.length_append, numBits_length n k]; rfl
theorem bit_div (n k : Nat) : n / 2 ^ k % 2 = if n.testBit k then 1 else 0 := by
  have h := Nat.testBit_eq_decide_div_mod_eq (x := n) (i := k)
  rw [h]
  rcases Nat.mod_two_eq_zero_or_one (n / 2 ^ k) with e | e <;> simp [e]

theorem numBits_getD (n : Nat) : ∀ s i, (numBits n s).getD i false = (decide (i < s) && n.testBit i)
  | 0, i => by simp [numBits]
  | s + 1, i => by
    rw [numBits, List.getD_eq_getElem?_getD]
    by_cases h : i < s
    · rw [List.getElem?_append_left (by rw [numBits_length]; exact h), ← List.getD_eq_getElem?_getD, numBits_getD n s i]
      simp [h, Nat.lt_succ_of_lt h]
    · rw [List.getElem?_append_right (by rw [numBits_length]; omega), numBits_length]
      by_cases e : i = s
      · subst e; simp
      · have h1 : ¬ i < s + 1 := by omega
        have h2 : [n.testBit s][i - s]? = none := List.getElem?_eq_none (by simp; omega)
        rw [h2]; simp [h1]
/-- the number whose bits these are, the lowest one first -/
def numOf : List Bool → Nat
  | [] => 0
  | b :: r => (if b then 1 else 0) + 2 * numOf r

theorem numOf_lt : ∀ l, numOf l < 2 ^ l.length
  | [] => by simp [numOf]
  | b :: r => by
    have := numOf_lt r
    rw [numOf, List.length_cons, Nat.pow_succ]
    split <;> omega
theorem numOf_lt16 {l : List Bool} (h : l.length ≤ 16) : numOf l < 65536 := Nat.lt_of_lt_of_le (numOf_lt l) (pow_le_16 h)
def rowB (xs : List Nat) : Nat → List Bool
  | 0 => []
  | q + 1 => rowB xs q ++ numBits (xs.getD q 0) 8
theorem rowB_length (xs : List Nat) : ∀ q, (rowB xs q).length = 8 * q
  | 0 => rfl
  | q + 1 => by rw [rowB, List.length_append, rowB_length xs q, numBits_length]; omega
theorem rowB_getD (xs : List Nat) : ∀ q i, i < 8 * q → (rowB xs q).getD i false = bitAt xs i
  | 0, i, h => by omega
  | q + 1, i, h => by
    rw [rowB, List.getD_eq_getElem?_getD]
    by_cases e : i < 8 * q
    · rw [List.getElem?_append_left (by rw [rowB_length]; exact e), ← List.getD_eq_getElem?_getD, rowB_getD xs q i e]
    · rw [List.getElem?_append_right (by rw [rowB_length]; omega), rowB_length, ← List.getD_eq_getElem?_getD, numBits_getD, bitAt]
      have e1 : i / 8 = q := by omega
      have e2 : i % 8 = i - 8 * q := by omega
      rw [e1, e2, decide_eq_true (by omega), Bool.true_and]
end Go.Proofs.YtfoaaamcpknjnadGreat
