/-
  Plain facts on rows whose elements change places: a range that is exchanged with another one, a row that is turned round a place, and when two sorted parts make a sorted whole. For the library's stable sort. No program is named here.
-/
import Derived.Test.YtoiioemkibfdcacKit
import Derived.Below
namespace Go.Proofs.Ytoiioemkibfdcac.Stab
open Go.RowKit
set_option linter.unusedVariables false
variable {α : Type}

/-- a row is told by its places: d k is what stands at place k -/
def swp (d : Nat → α) (i j : Nat) : Nat → α := fun k => if k = i then d j else if k = j then d i else d k
/-- n places from a on and n from b on exchanged, the first i of them so far -/
def swr (d : Nat → α) (a b : Nat) : Nat → Nat → α
  | 0 => d
  | i + 1 => swp (swr d a b i) (a + i) (b + i)
/-- what stood in [a, m) and what stood in [m, b) have changed places -/
def rot (d : Nat → α) (a m b : Nat) : Nat → α := fun k => if a ≤ k ∧ k < a + (b - m) then d (k + (m - a)) else if a + (b - m) ≤ k ∧ k < b then d (k - (b - m)) else d k

theorem swr_at (d : Nat → α) (a b : Nat) : ∀ n, (a + n ≤ b ∨ b + n ≤ a) → ∀ k, swr d a b n k = if a ≤ k ∧ k < a + n then d (b + (k - a)) else if b ≤ k ∧ k < b + n then d (a + (k - b)) else d k
  | 0, _, k => by
    rw [swr, if_neg (by omega), if_neg (by omega)]
  | n + 1, h, k => by
    have ih := swr_at d a b n (by omega)
    rw [swr, swp]
    by_cases h1 : k = a + n
    · rw [if_pos h1, if_pos (by omega), ih, if_neg (by omega), if_neg (by omega)]
      congr 1; omega
    · rw [if_neg h1]
      by_cases h2 : k = b + n
      · rw [if_pos h2, if_neg (by omega), if_pos (by omega), ih, if_neg (by omega), if_neg (by omega)]
        congr 1; omega
      · rw [if_neg h2, ih]
        by_cases h3 : a ≤ k ∧ k < a + n
        · rw [if_pos h3, if_pos (by omega)]
        · rw [if_neg h3]
          by_cases h4 : b ≤ k ∧ k < b + n
          · rw [if_pos h4, if_neg (by omega), if_pos (by omega)]
          · rw [if_neg h4, if_neg (by omega), if_neg (by omega)]

/-- the three steps of the turning -/
theorem rot_gt (d : Nat → α) (m i j : Nat) (h : j < i) (hm : i ≤ m) : rot (swr d (m - i) m j) (m - (i - j)) m (m + j) = rot d (m - i) m (m + j) := by
  funext k
  have hs := swr_at d (m - i) m j (by omega)
  unfold rot
  by_cases h1 : m - i ≤ k ∧ k < m - i + (m + j - m)
  · rw [if_pos h1, if_neg (by omega), if_neg (by omega), hs, if_pos (by omega)]
    congr 1; omega
  · rw [if_neg h1]
    by_cases h2 : m - (i - j) ≤ k ∧ k < m - (i - j) + (m + j - m)
    · rw [if_pos h2, hs, if_neg (by omega), if_pos (by omega), if_pos (by omega)]
      congr 1; omega
    · rw [if_neg h2]
      by_cases h3 : m - (i - j) + (m + j - m) ≤ k ∧ k < m + j
      · rw [if_pos h3, hs, if_neg (by omega), if_neg (by omega), if_pos (by omega)]
      · rw [if_neg h3, hs, if_neg (by omega), if_neg (by omega), if_neg (by omega)]
theorem rot_lt (d : Nat → α) (m i j : Nat) (h : i < j) (hm : i ≤ m) : rot (swr d (m - i) (m + j - i) i) (m - i) m (m + (j - i)) = rot d (m - i) m (m + j) := by
  funext k
  have hs := swr_at d (m - i) (m + j - i) i (by omega)
  unfold rot
  by_cases h1 : m - i ≤ k ∧ k < m - i + (m + (j - i) - m)
  · rw [if_pos h1, if_pos (by omega), hs, if_neg (by omega)]
    by_cases h2 : m + j - i ≤ k + (m - (m - i)) ∧ k + (m - (m - i)) < m + j - i + i
    · omega
    · rw [if_neg h2]
  · rw [if_neg h1]
    by_cases h3 : m - i + (m + (j - i) - m) ≤ k ∧ k < m + (j - i)
    · rw [if_pos h3, if_pos (by omega), hs, if_pos (by omega)]
      congr 1; omega
    · rw [if_neg h3, hs]
      by_cases h4 : m + j - i ≤ k ∧ k < m + j - i + i
      · rw [if_neg (by omega), if_pos h4, if_neg (by omega), if_pos (by omega)]
        congr 1; omega
      · rw [if_neg (by omega), if_neg h4, if_neg (by omega), if_neg (by omega)]
theorem rot_eq (d : Nat → α) (m i : Nat) (hm : i ≤ m) : swr d (m - i) m i = rot d (m - i) m (m + i) := by
  funext k
  rw [swr_at d (m - i) m i (by omega), rot]
  by_cases h1 : m - i ≤ k ∧ k < m - i + i
  · rw [if_pos h1, if_pos (by omega)]; congr 1; omega
  · rw [if_neg h1]
    by_cases h2 : m ≤ k ∧ k < m + i
    · rw [if_pos h2, if_neg (by omega), if_pos (by omega)]; congr 1; omega
    · rw [if_neg h2, if_neg (by omega), if_neg (by omega)]

/-- places a to b as a list -/
def seg (d : Nat → α) (a b : Nat) : List α := (List.range (b - a)).map fun i => d (a + i)
/-- d' is d but that in [a, b) things may have changed places -/
structure Moved (a b : Nat) (d d' : Nat → α) : Prop where
  out : ∀ k, ¬ (a ≤ k ∧ k < b) → d' k = d k
  perm : (seg d' a b).Perm (seg d a b)
theorem Moved.refl (a b : Nat) (d : Nat → α) : Moved a b d d := ⟨fun _ _ => rfl, List.Perm.refl _⟩
theorem Moved.trans {a b : Nat} {d d' d'' : Nat → α} (h : Moved a b d d') (k : Moved a b d' d'') : Moved a b d d'' :=
  ⟨fun i hi => (k.out i hi).trans (h.out i hi), k.perm.trans h.perm⟩
theorem seg_length (d : Nat → α) (a b : Nat) : (seg d a b).length = b - a := by simp [seg]
theorem seg_split (d : Nat → α) (a m b : Nat) (h1 : a ≤ m) (h2 : m ≤ b) : seg d a b = seg d a m ++ seg d m b := by
  apply List.ext_getElem
  · simp [seg]; omega
  · intro i h3 h4
    rw [List.getElem_append]
    simp only [seg, List.getElem_map, List.getElem_range, List.length_map, List.length_range]
    split
    · rfl
    · congr 1; omega
theorem seg_congr {d d' : Nat → α} {a b : Nat} (h : ∀ k, a ≤ k → k < b → d' k = d k) : seg d' a b = seg d a b := by
  apply List.ext_getElem (by simp [seg])
  intro i h1 h2
  have : i < b - a := by simpa [seg] using h1
  simp only [seg, List.getElem_map, List.getElem_range]
  exact h _ (by omega) (by omega)
theorem mem_seg {d : Nat → α} {a b : Nat} {x : α} : x ∈ seg d a b ↔ ∃ k, a ≤ k ∧ k < b ∧ d k = x := by
  simp only [seg, List.mem_map, List.mem_range]
  constructor
  · rintro ⟨i, hi, rfl⟩; exact ⟨a + i, by omega, by omega, rfl⟩
  · rintro ⟨k, h1, h2, rfl⟩; exact ⟨k - a, by omega, by congr 1; omega⟩
theorem Moved.mem {a b : Nat} {d d' : Nat → α} (h : Moved a b d d') {k : Nat} (h1 : a ≤ k) (h2 : k < b) : ∃ j, a ≤ j ∧ j < b ∧ d j = d' k := by
  have : d' k ∈ seg d' a b := mem_seg.2 ⟨k, h1, h2, rfl⟩
  exact mem_seg.1 (h.perm.mem_iff.1 this)
/-- a part that was moved, within a whole -/
theorem Moved.wider {a b a' b' : Nat} {d d' : Nat → α} (h : Moved a b d d') (h1 : a' ≤ a) (h2 : a ≤ b) (h3 : b ≤ b') : Moved a' b' d d' := by
  refine ⟨fun k hk => h.out k (by omega), ?_⟩
  rw [seg_split d' a' a b' h1 (by omega), seg_split d a' a b' h1 (by omega), seg_split d' a b b' h2 h3, seg_split d a b b' h2 h3]
  rw [seg_congr (d := d) (d' := d') (a := a') (b := a) (fun k _ hk => h.out k (by omega)), seg_congr (d := d) (d' := d') (a := b) (b := b') (fun k hk _ => h.out k (by omega))]
  exact (h.perm.append_right _).append_left _
theorem seg_rot (d : Nat → α) (a m b : Nat) (h1 : a ≤ m) (h2 : m ≤ b) : seg (rot d a m b) a b = seg d m b ++ seg d a m := by
  apply List.ext_getElem
  · simp [seg]; omega
  · intro i h3 h4
    have hi : i < b - a := by simpa [seg] using h3
    rw [List.getElem_append]
    simp only [seg, List.getElem_map, List.getElem_range, List.length_map, List.length_range, rot]
    by_cases h : i < b - m
    · rw [dif_pos h, if_pos (by omega)]; congr 1; omega
    · rw [dif_neg h, if_neg (by omega), if_pos (by omega)]; congr 1; omega
theorem moved_rot (d : Nat → α) (a m b : Nat) (h1 : a ≤ m) (h2 : m ≤ b) : Moved a b d (rot d a m b) := by
  refine ⟨fun k hk => ?_, ?_⟩
  · rw [rot, if_neg (by omega), if_neg (by omega)]
  · rw [seg_rot d a m b h1 h2, seg_split d a m b h1 h2]
    exact List.perm_append_comm
theorem rot_one (d : Nat → α) (i : Nat) : rot d i (i + 1) (i + 2) = swp d i (i + 1) := by
  funext k
  rw [rot, swp]
  by_cases h1 : k = i
  · rw [if_pos (by omega), if_pos h1]; congr 1; omega
  · rw [if_neg (by omega), if_neg h1]
    by_cases h2 : k = i + 1
    · rw [if_pos (by omega), if_pos h2]; congr 1; omega
    · rw [if_neg (by omega), if_neg h2]
theorem moved_swp (d : Nat → α) (i a b : Nat) (h1 : a ≤ i) (h2 : i + 2 ≤ b) : Moved a b d (swp d i (i + 1)) := by
  have := (moved_rot d i (i + 1) (i + 2) (by omega) (by omega)).wider h1 (by omega) h2
  rwa [rot_one] at this

variable (lt : α → α → Prop)
/-- sorted, each one below all that stand behind it -/
def Srt (d : Nat → α) (a b : Nat) : Prop := ∀ i j, a ≤ i → i < j → j < b → lt (d i) (d j)
theorem Srt.sub {lt : α → α → Prop} {d : Nat → α} {a b a' b' : Nat} (h : Srt lt d a b) (h1 : a ≤ a') (h2 : b' ≤ b) : Srt lt d a' b' := fun i j hi hij hj => h i j (by omega) hij (by omega)
theorem Srt.congr {lt : α → α → Prop} {d d' : Nat → α} {a b : Nat} (h : Srt lt d a b) (he : ∀ k, a ≤ k → k < b → d' k = d k) : Srt lt d' a b := fun i j hi hij hj => by
  rw [he i hi (by omega), he j (by omega) hj]; exact h i j hi hij hj
/-- two sorted parts, all of the first below all of the second -/
theorem Srt.join {lt : α → α → Prop} {d : Nat → α} {a m b : Nat} (h1 : Srt lt d a m) (h2 : Srt lt d m b) (h : ∀ i j, a ≤ i → i < m → m ≤ j → j < b → lt (d i) (d j)) : Srt lt d a b := by
  intro i j hi hij hj
  by_cases c1 : j < m
  · exact h1 i j hi hij c1
  · by_cases c2 : i < m
    · exact h i j hi c2 (by omega) hj
    · exact h2 i j (by omega) hij hj

/-- THE STEP OF THE MERGE. Both runs are sorted; start parts the first, stop (= mid + m - start) the second, so that what is ahead is below what is behind; both are turned round m: then, once both halves are sorted, the whole is. -/
theorem merge_step {lt : α → α → Prop} (tr : ∀ x y z, lt x y → lt y z → lt x z) {d d1 d2 : Nat → α} {a start m stop b mid : Nat} (h1 : a ≤ start) (h2 : start ≤ m) (h3 : m ≤ stop) (h4 : stop ≤ b) (hmid : mid + m = start + stop)
    (sL : Srt lt d a m) (sR : Srt lt d m b) (cL : a < start → stop < b → lt (d (start - 1)) (d stop)) (cR : start < m → m < stop → lt (d (stop - 1)) (d start))
    (m1 : Moved a mid (rot d start m stop) d1) (s1 : Srt lt d1 a mid) (m2 : Moved mid b d1 d2) (s2 : Srt lt d2 mid b) : Srt lt d2 a b ∧ Moved a b d d2 := by
  have hmm : start ≤ mid ∧ mid ≤ stop := by omega
  constructor
  · refine Srt.join (m := mid) (s1.congr fun k _ hk => m2.out k (by omega)) s2 ?_
    intro i j hi him hjm hj
    rw [m2.out i (by omega)]
    obtain ⟨p, hp1, hp2, hp⟩ := m1.mem hi him
    obtain ⟨q, hq1, hq2, hq⟩ := m2.mem hjm hj
    rw [← hp, ← hq, m1.out q (by omega)]
    -- p is of L1 or R1, q of L2 or R2
    have eP : rot d start m stop p = if p < start then d p else d (p + (m - start)) := by
      unfold rot
      by_cases c : p < start
      · rw [if_neg (by omega), if_neg (by omega), if_pos c]
      · rw [if_pos (by omega), if_neg c]
    have eQ : rot d start m stop q = if q < stop then d (q - (stop - m)) else d q := by
      unfold rot
      by_cases c : q < stop
      · rw [if_neg (by omega), if_pos (by omega), if_pos c]
      · rw [if_neg (by omega), if_neg (by omega), if_neg c]
    rw [eP, eQ]
    by_cases c1 : p < start
    · rw [if_pos c1]
      by_cases c2 : q < stop
      · rw [if_pos c2]; exact sL _ _ hp1 (by omega) (by omega)
      · rw [if_neg c2]
        have e1 : lt (d (start - 1)) (d stop) := cL (by omega) (by omega)
        have e2 : d p = d (start - 1) ∨ lt (d p) (d (start - 1)) := by
          by_cases c : p = start - 1
          · left; rw [c]
          · right; exact sL _ _ hp1 (by omega) (by omega)
        have e3 : d stop = d q ∨ lt (d stop) (d q) := by
          by_cases c : stop = q
          · left; rw [c]
          · right; exact sR _ _ (by omega) (by omega) (by omega)
        rcases e2 with e2 | e2 <;> rcases e3 with e3 | e3
        · rw [e2, ← e3]; exact e1
        · rw [e2]; exact tr _ _ _ e1 e3
        · rw [← e3]; exact tr _ _ _ e2 e1
        · exact tr _ _ _ e2 (tr _ _ _ e1 e3)
    · rw [if_neg c1]
      by_cases c2 : q < stop
      · rw [if_pos c2]
        have e1 : lt (d (stop - 1)) (d start) := cR (by omega) (by omega)
        have e2 : d (p + (m - start)) = d (stop - 1) ∨ lt (d (p + (m - start))) (d (stop - 1)) := by
          by_cases c : p + (m - start) = stop - 1
          · left; rw [c]
          · right; exact sR _ _ (by omega) (by omega) (by omega)
        have e3 : d start = d (q - (stop - m)) ∨ lt (d start) (d (q - (stop - m))) := by
          by_cases c : start = q - (stop - m)
          · left; rw [← c]
          · right; exact sL _ _ h1 (by omega) (by omega)
        rcases e2 with e2 | e2 <;> rcases e3 with e3 | e3
        · rw [e2, ← e3]; exact e1
        · rw [e2]; exact tr _ _ _ e1 e3
        · rw [← e3]; exact tr _ _ _ e2 e1
        · exact tr _ _ _ e2 (tr _ _ _ e1 e3)
      · rw [if_neg c2]; exact sR _ _ (by omega) (by omega) (by omega)
  · exact (((moved_rot d start m stop h2 h3).wider h1 (by omega) h4).trans (m1.wider (Nat.le_refl _) (by omega) (by omega))).trans (m2.wider (by omega) (by omega) (Nat.le_refl _))
end Go.Proofs.Ytoiioemkibfdcac.Stab

/-
  Plain facts for the library's merge of two sorted runs: what is left to be shown of each of its steps. No program is named here.
-/
namespace Go.Proofs.Ytoiioemkibfdcac.Stab
open Go.RowKit
set_option linter.unusedVariables false

/-- by the first number, and of one first number by the second -/
def lx (x y : Int × Int) : Prop := x.1 < y.1 ∨ (x.1 = y.1 ∧ x.2 < y.2)
theorem lx_trans (x y z : Int × Int) (h : lx x y) (k : lx y z) : lx x z := by unfold lx at *; omega
/-- all of the first run came ahead of all of the second -/
def Cross (d : Nat → Int × Int) (a m b : Nat) : Prop := ∀ i j, a ≤ i → i < m → m ≤ j → j < b → (d i).2 < (d j).2
theorem cross_less {x y : Int × Int} (h : x.2 < y.2) : (decide (y.1 < x.1) = true → lx y x) ∧ (decide (y.1 < x.1) = false → lx x y) := by
  unfold lx
  constructor
  · intro e; have := of_decide_eq_true e; omega
  · intro e; have := of_decide_eq_false e; omega

theorem rot_left (d : Nat → Int × Int) (m b : Nat) : rot d m m b = d := by
  funext k; unfold rot
  by_cases h : m ≤ k ∧ k < m + (b - m)
  · rw [if_pos h]; congr 1; omega
  · rw [if_neg h, if_neg (by omega)]
theorem rot_right (d : Nat → Int × Int) (a m : Nat) : rot d a m m = d := by
  funext k; unfold rot
  rw [if_neg (by omega)]
  by_cases h : a + (m - m) ≤ k ∧ k < m
  · rw [if_pos h]; congr 1; omega
  · rw [if_neg h]

/-- what the turning leaves: two pairs of runs -/
theorem merge_parts {d : Nat → Int × Int} {a start m stop b mid : Nat} (h1 : a ≤ start) (h2 : start ≤ m) (h3 : m ≤ stop) (h4 : stop ≤ b) (hmid : mid + m = start + stop) (sL : Srt lx d a m) (sR : Srt lx d m b) (hc : Cross d a m b) :
    (Srt lx (rot d start m stop) a start ∧ Srt lx (rot d start m stop) start mid ∧ Cross (rot d start m stop) a start mid) ∧ (Srt lx (rot d start m stop) mid stop ∧ Srt lx (rot d start m stop) stop b ∧ Cross (rot d start m stop) mid stop b) := by
  have e1 : ∀ k, k < start → rot d start m stop k = d k := fun k hk => by unfold rot; rw [if_neg (by omega), if_neg (by omega)]
  have e2 : ∀ k, start ≤ k → k < mid → rot d start m stop k = d (k + (m - start)) := fun k hk hk2 => by unfold rot; rw [if_pos (by omega)]
  have e3 : ∀ k, mid ≤ k → k < stop → rot d start m stop k = d (k - (stop - m)) := fun k hk hk2 => by unfold rot; rw [if_neg (by omega), if_pos (by omega)]
  have e4 : ∀ k, stop ≤ k → rot d start m stop k = d k := fun k hk => by unfold rot; rw [if_neg (by omega), if_neg (by omega)]
  refine ⟨⟨?_, ?_, ?_⟩, ?_, ?_, ?_⟩
  · intro i j hi hij hj; rw [e1 i (by omega), e1 j hj]; exact sL i j hi hij (by omega)
  · intro i j hi hij hj; rw [e2 i hi (by omega), e2 j (by omega) hj]; exact sR _ _ (by omega) (by omega) (by omega)
  · intro i j hi hi2 hj hj2; rw [e1 i hi2, e2 j hj hj2]; exact hc _ _ hi (by omega) (by omega) (by omega)
  · intro i j hi hij hj; rw [e3 i hi (by omega), e3 j (by omega) hj]; exact sL _ _ (by omega) (by omega) (by omega)
  · intro i j hi hij hj; rw [e4 i hi, e4 j (by omega)]; exact sR i j (by omega) hij hj
  · intro i j hi hi2 hj hj2; rw [e3 i hi hi2, e4 j hj]; exact hc _ _ (by omega) (by omega) (by omega) hj2
theorem Cross.congr {d d' : Nat → Int × Int} {a m b : Nat} (h : Cross d a m b) (he : ∀ k, a ≤ k → k < b → d' k = d k) : Cross d' a m b := fun i j hi hi2 hj hj2 => by
  rw [he i hi (by omega), he j (by omega) hj2]; exact h i j hi hi2 hj hj2

/-- one element ahead of a sorted run goes behind all that are below it -/
theorem ins_first {d : Nat → Int × Int} {a i b : Nat} (h1 : a < i) (h2 : i ≤ b) (sR : Srt lx d (a + 1) b) (hlo : a + 1 < i → lx (d (i - 1)) (d a)) (hhi : i < b → lx (d a) (d i)) : Srt lx (rot d a (a + 1) i) a b := by
  have e1 : ∀ k, a ≤ k → k < i - 1 → rot d a (a + 1) i k = d (k + 1) := fun k hk hk2 => by unfold rot; rw [if_pos (by omega)]; congr 1; omega
  have e2 : rot d a (a + 1) i (i - 1) = d a := by unfold rot; rw [if_neg (by omega), if_pos (by omega)]; congr 1; omega
  have e3 : ∀ k, i ≤ k → rot d a (a + 1) i k = d k := fun k hk => by unfold rot; rw [if_neg (by omega), if_neg (by omega)]
  have below : ∀ k, a + 1 ≤ k → k < i → lx (d k) (d a) := by
    intro k hk hk2
    by_cases c : k = i - 1
    · rw [c]; exact hlo (by omega)
    · exact lx_trans _ _ _ (sR k (i - 1) hk (by omega) (by omega)) (hlo (by omega))
  have above : ∀ k, i ≤ k → k < b → lx (d a) (d k) := by
    intro k hk hk2
    by_cases c : k = i
    · rw [c]; exact hhi (by omega)
    · exact lx_trans _ _ _ (hhi (by omega)) (sR i k (by omega) (by omega) hk2)
  intro p q hp hpq hq
  by_cases c1 : p < i - 1
  · rw [e1 p hp c1]
    by_cases c2 : q < i - 1
    · rw [e1 q (by omega) c2]; exact sR _ _ (by omega) (by omega) (by omega)
    · by_cases c3 : q = i - 1
      · rw [c3, e2]; exact below _ (by omega) (by omega)
      · rw [e3 q (by omega)]; exact sR _ _ (by omega) (by omega) hq
  · by_cases c2 : p = i - 1
    · rw [c2, e2, e3 q (by omega)]; exact above q (by omega) hq
    · rw [e3 p (by omega), e3 q (by omega)]; exact sR _ _ (by omega) hpq hq
/-- one element behind a sorted run goes ahead of all that are above it -/
theorem ins_last {d : Nat → Int × Int} {a i m : Nat} (h1 : a ≤ i) (h2 : i ≤ m) (sL : Srt lx d a m) (hlo : a < i → lx (d (i - 1)) (d m)) (hhi : i < m → lx (d m) (d i)) : Srt lx (rot d i m (m + 1)) a (m + 1) := by
  have e1 : ∀ k, k < i → rot d i m (m + 1) k = d k := fun k hk => by unfold rot; rw [if_neg (by omega), if_neg (by omega)]
  have e2 : rot d i m (m + 1) i = d m := by unfold rot; rw [if_pos (by omega)]; congr 1; omega
  have e3 : ∀ k, i < k → k ≤ m → rot d i m (m + 1) k = d (k - 1) := fun k hk hk2 => by unfold rot; rw [if_neg (by omega), if_pos (by omega)]; congr 1; omega
  have below : ∀ k, a ≤ k → k < i → lx (d k) (d m) := by
    intro k hk hk2
    by_cases c : k = i - 1
    · rw [c]; exact hlo (by omega)
    · exact lx_trans _ _ _ (sL k (i - 1) hk (by omega) (by omega)) (hlo (by omega))
  have above : ∀ k, i ≤ k → k < m → lx (d m) (d k) := by
    intro k hk hk2
    by_cases c : k = i
    · rw [c]; exact hhi (by omega)
    · exact lx_trans _ _ _ (hhi (by omega)) (sL i k h1 (by omega) hk2)
  intro p q hp hpq hq
  by_cases c1 : p < i
  · rw [e1 p c1]
    by_cases c2 : q < i
    · rw [e1 q c2]; exact sL _ _ hp hpq (by omega)
    · by_cases c3 : q = i
      · rw [c3, e2]; exact below p hp c1
      · rw [e3 q (by omega) (by omega)]; exact sL _ _ hp (by omega) (by omega)
  · by_cases c2 : p = i
    · rw [c2, e2, e3 q (by omega) (by omega)]; exact above _ (by omega) (by omega)
    · rw [e3 p (by omega) (by omega), e3 q (by omega) (by omega)]; exact sL _ _ (by omega) (by omega) (by omega)
/-- the exchanges that bring it there -/
theorem rot_up (d : Nat → Int × Int) (a k : Nat) (h : a ≤ k) : swp (rot d a (a + 1) (k + 1)) k (k + 1) = rot d a (a + 1) (k + 1 + 1) := by
  funext q; unfold swp rot
  by_cases c1 : q = k
  · rw [if_pos c1, if_neg (by omega), if_neg (by omega), if_pos (by omega)]; congr 1; omega
  · rw [if_neg c1]
    by_cases c2 : q = k + 1
    · rw [if_pos c2, if_neg (by omega), if_pos (by omega), if_neg (by omega), if_pos (by omega)]; congr 1; omega
    · rw [if_neg c2]
      by_cases c3 : a ≤ q ∧ q < k
      · rw [if_pos (by omega), if_pos (by omega)]
      · rw [if_neg (by omega), if_neg (by omega), if_neg (by omega), if_neg (by omega)]
theorem rot_down (d : Nat → Int × Int) (k m : Nat) (h0 : 0 < k) (h : k ≤ m) : swp (rot d k m (m + 1)) k (k - 1) = rot d (k - 1) m (m + 1) := by
  funext q; unfold swp rot
  by_cases c1 : q = k
  · rw [if_pos c1, if_neg (by omega), if_neg (by omega), if_neg (by omega), if_pos (by omega)]; congr 1; omega
  · rw [if_neg c1]
    by_cases c2 : q = k - 1
    · rw [if_pos c2, if_pos (by omega), if_pos (by omega)]; congr 1; omega
    · rw [if_neg c2]
      by_cases c3 : k < q ∧ q ≤ m
      · rw [if_neg (by omega), if_pos (by omega), if_neg (by omega), if_pos (by omega)]
      · rw [if_neg (by omega), if_neg (by omega), if_neg (by omega), if_neg (by omega)]
end Go.Proofs.Ytoiioemkibfdcac.Stab

/-
  Numbers and their bits: what Go's operators do to them, and what rows of bits say. No program is named here.
-/
namespace Go.Proofs.Ytoiioemkibfdcac
open Go.RowKit
set_option linter.unusedVariables false
set_option linter.unusedSimpArgs false

theorem ofInt_i64 (a : Nat) (ha : a < 4611686018427387904) : (BitVec.ofInt 64 (a : Int)).toNat = a := by
  rw [BitVec.ofInt_natCast, BitVec.toNat_ofNat]; exact Nat.mod_eq_of_lt (by omega)
theorem wrap_i64_nat (a : Nat) (ha : a < 4611686018427387904) : IntKind.i64.wrap (a : Int) = (a : Int) := by
  rw [IntKind.wrap_i64]; omega
theorem i64_and_nat (a b : Nat) (ha : a < 4611686018427387904) (hb : b < 4611686018427387904) : bits .and .i64 (a : Int) (b : Int) = ((a &&& b : Nat) : Int) := by
  have hx : a &&& b < 2 ^ 62 := Nat.and_lt_two_pow _ (by omega)
  show IntKind.i64.wrap ((BitVec.ofInt 64 (a : Int) &&& BitVec.ofInt 64 (b : Int)).toNat : Int) = _
  rw [BitVec.toNat_and, ofInt_i64 a ha, ofInt_i64 b hb]
  exact wrap_i64_nat _ (by omega)
theorem i64_or_nat (a b : Nat) (ha : a < 4611686018427387904) (hb : b < 4611686018427387904) : bits .or .i64 (a : Int) (b : Int) = ((a ||| b : Nat) : Int) := by
  have hx : a ||| b < 2 ^ 62 := Nat.or_lt_two_pow (by omega) (by omega)
  show IntKind.i64.wrap ((BitVec.ofInt 64 (a : Int) ||| BitVec.ofInt 64 (b : Int)).toNat : Int) = _
  rw [BitVec.toNat_or, ofInt_i64 a ha, ofInt_i64 b hb]
  exact wrap_i64_nat _ (by omega)

theorem div_pow_cast (n k : Nat) : (n : Int) / 2 ^ k = ((n / 2 ^ k : Nat) : Int) := by
  push_cast; rfl
theorem i64_bit (n k : Nat) (hn : n < 4611686018427387904) : bits .and .i64 ((n : Int) / 2 ^ k) 1 = ((n / 2 ^ k % 2 : Nat) : Int) := by
  rw [div_pow_cast]
  have h : n / 2 ^ k ≤ n := Nat.div_le_self _ _
  have := i64_and_nat (n / 2 ^ k) 1 (by omega) (by omega)
  rw [Nat.and_one_is_mod] at this
  exact this
theorem u8_bit (n k : Nat) (hn : n < 256) : bits .and .u8 ((n : Int) / 2 ^ k) 1 = ((n / 2 ^ k % 2 : Nat) : Int) := by
  rw [div_pow_cast]
  have h : n / 2 ^ k ≤ n := Nat.div_le_self _ _
  have := u8_and_nat (n / 2 ^ k) 1 (by omega) (by omega)
  rw [Nat.and_one_is_mod] at this
  exact this

theorem pow_le_16 {k : Nat} (h : k ≤ 16) : 2 ^ k ≤ 65536 := Nat.pow_le_pow_right (j := 16) (by decide) h
theorem pow_le_7 {k : Nat} (h : k ≤ 7) : 2 ^ k ≤ 128 := Nat.pow_le_pow_right (j := 7) (by decide) h
theorem bit_mul_le {x p q : Nat} (h : p ≤ q) : x % 2 * p ≤ q := by
  rcases Nat.mod_two_eq_zero_or_one x with e | e <;> rw [e] <;> omega

theorem turn_step (m n k : Nat) (hm : m < 65536) (hn : n < 65536) :
    bits .or .i64 ((m : Int) * 2) (bits .and .i64 ((n : Int) / 2 ^ k) 1) = ((m * 2 ||| n / 2 ^ k % 2 : Nat) : Int) := by
  rw [i64_bit n k (by omega)]
  have := i64_or_nat (m * 2) (n / 2 ^ k % 2) (by omega) (by omega)
  rw [← this]
  push_cast; rfl
theorem take_step (m x r k : Nat) (hm : m < 65536) (hx : x < 256) (hk : k < 16) :
    bits .or .i64 (m : Int) (wrap64 (wrap64 (bits .and .u8 ((x : Int) / 2 ^ r) 1) * 2 ^ k)) = ((m ||| x / 2 ^ r % 2 * 2 ^ k : Nat) : Int) := by
  rw [u8_bit x r hx]
  have h1 : wrap64 ((x / 2 ^ r % 2 : Nat) : Int) = ((x / 2 ^ r % 2 : Nat) : Int) := by unfold wrap64; omega
  have h2 := bit_mul_le (x := x / 2 ^ r) (pow_le_16 (k := k) (by omega))
  have h3 : wrap64 (((x / 2 ^ r % 2 : Nat) : Int) * 2 ^ k) = ((x / 2 ^ r % 2 * 2 ^ k : Nat) : Int) := by
    have e : (((x / 2 ^ r % 2 : Nat) : Int) * 2 ^ k) = ((x / 2 ^ r % 2 * 2 ^ k : Nat) : Int) := by push_cast; rfl
    rw [e]
    unfold wrap64; omega
  rw [h1, h3]
  exact i64_or_nat _ _ (by omega) (by omega)
theorem put_step (x n k r : Nat) (hx : x < 256) (hn : n < 65536) (hr : r < 8) :
    bits .or .u8 (x : Int) (bits .and .i64 ((n : Int) / 2 ^ k) 1 % 256 * 2 ^ r % 256) = ((x ||| n / 2 ^ k % 2 * 2 ^ r : Nat) : Int) := by
  rw [i64_bit n k (by omega)]
  have h2 := bit_mul_le (x := n / 2 ^ k) (pow_le_7 (k := r) (by omega))
  have e : (((n / 2 ^ k % 2 : Nat) : Int) % 256 * 2 ^ r % 256) = ((n / 2 ^ k % 2 * 2 ^ r : Nat) : Int) := by
    have e1 : ((n / 2 ^ k % 2 : Nat) : Int) % 256 = ((n / 2 ^ k % 2 : Nat) : Int) := by omega
    have e2 : (((n / 2 ^ k % 2 : Nat) : Int) * 2 ^ r) = ((n / 2 ^ k % 2 * 2 ^ r : Nat) : Int) := by push_cast; rfl
    rw [e1, e2]
    omega
  rw [e]
  exact u8_or_nat _ _ hx (by omega)

theorem testBit_bit (n k r i : Nat) : (n / 2 ^ k % 2 * 2 ^ r).testBit i = (decide (i = r) && n.testBit k) := by
  rw [Nat.testBit_mul_two_pow]
  have h : ∀ j, (n / 2 ^ k % 2).testBit j = (decide (j = 0) && n.testBit k) := by
    intro j
    have := Nat.testBit_mod_two_pow (n / 2 ^ k) 1 j
    rw [Nat.pow_one] at this
    rw [this, Nat.testBit_div_two_pow]
    by_cases hj : j = 0
    · subst hj; simp
    · simp [hj]
  rw [h]
  by_cases hi : i = r
  · subst hi; simp
  · by_cases hl : r ≤ i
    · have : i - r ≠ 0 := by omega
      simp [hi, this]
    · simp [hi, hl]

/-- the number that has been turned round behind k bits -/
def turnL (n : Nat) : Nat → Nat
  | 0 => 0
  | k + 1 => turnL n k * 2 ||| n / 2 ^ k % 2
theorem turnL_bit (n : Nat) : ∀ k i, (turnL n k).testBit i = (decide (i < k) && n.testBit (k - 1 - i))
  | 0, i => by simp [turnL]
  | k + 1, i => by
    have h1 := testBit_bit n k 0 i
    rw [Nat.pow_zero, Nat.mul_one] at h1
    have h2 := Nat.testBit_mul_two_pow (turnL n k) i 1
    rw [Nat.pow_one] at h2
    rw [turnL, Nat.testBit_or, h1, h2, turnL_bit n k (i - 1)]
    by_cases hi : i = 0
    · subst hi; simp
    · have e : k + 1 - 1 - i = k - 1 - (i - 1) := by omega
      have e2 : (i - 1 < k) = (i < k + 1) := by apply propext; omega
      have e3 : 1 ≤ i := by omega
      rw [e]
      simp only [e2, hi, e3, decide_true, Bool.true_and, decide_false, Bool.false_and, Bool.or_false]
theorem turnL_lt (n k : Nat) : turnL n k < 2 ^ k := by
  apply Nat.lt_pow_two_of_testBit
  intro i hi
  rw [turnL_bit]
  have : ¬ i < k := by omega
  simp [this]
theorem turn_turn (n s : Nat) (h : n < 2 ^ s) : turnL (turnL n s) s = n := by
  apply Nat.eq_of_testBit_eq
  intro i
  rw [turnL_bit, turnL_bit]
  by_cases hi : i < s
  · have h1 : s - 1 - i < s := by omega
    have h2 : s - 1 - (s - 1 - i) = i := by omega
    simp [hi, h1, h2]
  · have : n.testBit i = false := Nat.testBit_lt_two_pow (Nat.lt_of_lt_of_le h (Nat.pow_le_pow_right (by decide) (by omega)))
    simp [hi, this]

/-- bit k of a row of bytes -/
def bitAt (xs : List Nat) (k : Nat) : Bool := (xs.getD (k / 8) 0).testBit (k % 8)

/-- the number of k bits that stands in a row from bit 'p' on -/
def takeL (xs : List Nat) (p : Nat) : Nat → Nat
  | 0 => 0
  | k + 1 => takeL xs p k ||| xs.getD ((p + k) / 8) 0 / 2 ^ ((p + k) % 8) % 2 * 2 ^ k
theorem takeL_bit (xs : List Nat) (p : Nat) : ∀ k i, (takeL xs p k).testBit i = (decide (i < k) && bitAt xs (p + i))
  | 0, i => by simp [takeL]
  | k + 1, i => by
    rw [takeL, Nat.testBit_or, takeL_bit xs p k i, testBit_bit]
    by_cases hi : i = k
    · subst hi; simp [bitAt]
    · have e : (i < k + 1) = (i < k) := by apply propext; omega
      simp [hi, e]
theorem takeL_lt (xs : List Nat) (p k : Nat) : takeL xs p k < 2 ^ k := by
  apply Nat.lt_pow_two_of_testBit
  intro i hi
  rw [takeL_bit]
  have : ¬ i < k := by omega
  simp [this]

/-- a row behind the first k bits of n were laid from bit 'p' on -/
def putL (xs : List Nat) (p n : Nat) : Nat → List Nat
  | 0 => xs
  | k + 1 => (putL xs p n k).set ((p + k) / 8) ((putL xs p n k).getD ((p + k) / 8) 0 ||| n / 2 ^ k % 2 * 2 ^ ((p + k) % 8))
theorem putL_length (xs : List Nat) (p n : Nat) : ∀ k, (putL xs p n k).length = xs.length
  | 0 => rfl
  | k + 1 => by rw [putL, List.length_set, putL_length xs p n k]
theorem getD_set (xs : List Nat) (i j v : Nat) : (xs.set i v).getD j 0 = if i = j ∧ i < xs.length then v else xs.getD j 0 := by
  rw [List.getD_eq_getElem?_getD, List.getElem?_set, List.getD_eq_getElem?_getD]
  by_cases e : i = j
  · subst e
    by_cases h : i < xs.length
    · simp [h]
    · simp [h]
  · simp [e]
theorem putL_lt (xs : List Nat) (p n : Nat) (h : ∀ j, xs.getD j 0 < 256) : ∀ k j, (putL xs p n k).getD j 0 < 256
  | 0, j => h j
  | k + 1, j => by
    rw [putL, getD_set]
    by_cases c : (p + k) / 8 = j ∧ (p + k) / 8 < (putL xs p n k).length
    · rw [if_pos c]
      have h1 := putL_lt xs p n h k ((p + k) / 8)
      have h2 := bit_mul_le (x := n / 2 ^ k) (pow_le_7 (k := (p + k) % 8) (by omega))
      exact Nat.or_lt_two_pow (n := 8) h1 (by omega)
    · rw [if_neg c]
      exact putL_lt xs p n h k j
theorem putL_bit (xs : List Nat) (p n : Nat) : ∀ k i, p + k ≤ 8 * xs.length → bitAt (putL xs p n k) i = (bitAt xs i || (decide (p ≤ i ∧ i < p + k) && n.testBit (i - p)))
  | 0, i, _ => by
    have : decide (p ≤ i ∧ i < p + 0) = false := decide_eq_false (by omega)
    rw [putL, this]; simp
  | k + 1, i, hk => by
    have ih := putL_bit xs p n k i (by omega)
    unfold bitAt at *
    rw [putL, getD_set, putL_length]
    have hlt : (p + k) / 8 < xs.length := by omega
    by_cases c : (p + k) / 8 = i / 8
    · rw [if_pos ⟨c, hlt⟩, Nat.testBit_or, testBit_bit, c, ih]
      by_cases e : i = p + k
      · have e1 : decide (p ≤ i ∧ i < p + k) = false := decide_eq_false (by omega)
        have e2 : decide (p ≤ i ∧ i < p + (k + 1)) = true := decide_eq_true (by omega)
        have e3 : i % 8 = (p + k) % 8 := by rw [e]
        have e4 : i - p = k := by omega
        rw [e1, e2, e3, e4]; simp
      · have e1 : (p ≤ i ∧ i < p + (k + 1)) = (p ≤ i ∧ i < p + k) := by apply propext; omega
        have e2 : ¬ i % 8 = (p + k) % 8 := by omega
        simp [e1, e2]
    · rw [if_neg (fun h => c h.1), ih]
      have e1 : (p ≤ i ∧ i < p + (k + 1)) = (p ≤ i ∧ i < p + k) := by apply propext; omega
      simp [e1]

/-- rows of bytes are one if their bits are -/
theorem bytes_ext {xs ys : List Nat} (hl : xs.length = ys.length) (hx : ∀ j, xs.getD j 0 < 256) (hy : ∀ j, ys.getD j 0 < 256) (h : ∀ k, k < 8 * xs.length → bitAt xs k = bitAt ys k) : xs = ys := by
  apply List.ext_getElem hl
  intro j h1 h2
  have e1 : xs.getD j 0 = xs[j] := by simp [List.getD, h1]
  have e2 : ys.getD j 0 = ys[j] := by simp [List.getD, h2]
  rw [← e1, ← e2]
  apply Nat.eq_of_testBit_eq
  intro i
  by_cases hi : i < 8
  · have := h (8 * j + i) (by omega)
    unfold bitAt at this
    have d1 : (8 * j + i) / 8 = j := by omega
    have d2 : (8 * j + i) % 8 = i := by omega
    rwa [d1, d2] at this
  · have p8 : 2 ^ 8 ≤ 2 ^ i := Nat.pow_le_pow_right (by decide) (by omega)
    rw [Nat.testBit_lt_two_pow (Nat.lt_of_lt_of_le (hx j) p8), Nat.testBit_lt_two_pow (Nat.lt_of_lt_of_le (hy j) p8)]
end Go.Proofs.Ytoiioemkibfdcac

/-
  Plain facts on codes by their lengths: how many places have a length, what they take together, the first code of each length; no code begins another one.
-/
namespace Go.Proofs.Ytoiioemkibfdcac
open Go.RowKit
set_option linter.unusedVariables false

/-- sixteen numbers as the model's array -/
def arr (c : Nat → Nat) : Array Value := ((List.range 16).map fun n => Value.int .i64 ((c n : Nat) : Int)).toArray
theorem arr_size (c : Nat → Nat) : (arr c).size = 16 := by simp [arr]
theorem arr_at (c : Nat → Nat) {j : Nat} (h : j < 16) : (arr c)[j]? = some (.int .i64 ((c j : Nat) : Int)) := by simp [arr, h]
theorem arr_one (c : Nat → Nat) : (arr c).all (·.oneCell') = true := by
  rw [Array.all_eq_true]
  intro i hi
  simp [arr, Value.oneCell']
def upd (c : Nat → Nat) (j x : Nat) : Nat → Nat := fun n => if n = j then x else c n
theorem arr_set (c : Nat → Nat) (j x : Nat) : (arr c).setIfInBounds j (.int .i64 ((x : Nat) : Int)) = arr (upd c j x) := by
  apply Array.ext_getElem?
  intro i
  rw [Array.getElem?_setIfInBounds]
  by_cases h : i < 16
  · rw [arr_at _ h, arr_size, arr_at _ h]
    by_cases e : j = i
    · subst e; simp [h, upd]
    · simp [e, upd, Ne.symm e]
  · rw [arr_size]
    have h1 : ∀ f, (arr f)[i]? = none := fun f => by simp [arr_size]; omega
    rw [h1, h1]
    by_cases e : j = i
    · subst e; simp [h]
    · simp [e]

/-- how many of l have the length n -/
def cnt (l : List Int) (n : Nat) : Nat := l.count (n : Int)
/-- what the lengths up to k take of 2 ^ 15 -/
def takenN (c : Nat → Nat) : Nat → Nat
  | 0 => 0
  | k + 1 => takenN c k + c (k + 1) * 2 ^ (14 - k)
/-- the code of the first place of each length -/
def firstN (c : Nat → Nat) : Nat → Nat
  | 0 => 0
  | 1 => 0
  | n + 2 => 2 * (firstN c (n + 1) + c (n + 1))

theorem cnt_le (l : List Int) (n : Nat) : cnt l n ≤ l.length := List.count_le_length
theorem cnt_zero (n : Nat) : cnt [] n = 0 := rfl

theorem takenN_le (c : Nat → Nat) {m : Nat} (h : ∀ n, c n ≤ m) : ∀ k, takenN c k ≤ k * (m * 32768)
  | 0 => by simp [takenN]
  | k + 1 => by
    have h1 := takenN_le c h k
    have h2 : c (k + 1) * 2 ^ (14 - k) ≤ m * 32768 := Nat.mul_le_mul (h _) (by
      have := Nat.pow_le_pow_right (n := 2) (by decide) (show 14 - k ≤ 15 by omega)
      omega)
    rw [takenN, Nat.succ_mul]
    omega

/-- what is taken and the first codes go together -/
theorem first_taken (c : Nat → Nat) : ∀ k, k ≤ 14 → firstN c (k + 1) * 2 ^ (14 - k) = takenN c k
  | 0, _ => by simp [firstN, takenN]
  | k + 1, h => by
    have ih := first_taken c k (by omega)
    have e : 14 - k = (14 - (k + 1)) + 1 := by omega
    rw [takenN, ← ih, firstN, e, Nat.pow_succ]
    generalize 2 ^ (14 - (k + 1)) = p
    rw [← Nat.add_mul, Nat.mul_comm p 2, ← Nat.mul_assoc, Nat.mul_comm 2]
theorem taken_mono (c : Nat → Nat) {j k : Nat} (h : j ≤ k) : takenN c j ≤ takenN c k := by
  induction h with
  | refl => exact Nat.le_refl _
  | step _ ih => exact Nat.le_trans ih (Nat.le_add_right _ _)
/-- of a code that is one each length has room -/
theorem first_room (c : Nat → Nat) (h : takenN c 15 ≤ 32768) {n : Nat} (h1 : 1 ≤ n) (h2 : n ≤ 15) : firstN c n + c n ≤ 2 ^ n := by
  obtain ⟨k, rfl⟩ : ∃ k, n = k + 1 := ⟨n - 1, by omega⟩
  have e := first_taken c k (by omega)
  have m := taken_mono c (show k + 1 ≤ 15 by omega)
  rw [takenN] at m
  have m2 : (firstN c (k + 1) + c (k + 1)) * 2 ^ (14 - k) ≤ 2 ^ (k + 1) * 2 ^ (14 - k) := by
    rw [Nat.add_mul, e, ← Nat.pow_add]
    have : k + 1 + (14 - k) = 15 := by omega
    rw [this]
    omega
  exact Nat.le_of_mul_le_mul_right m2 (Nat.pow_pos (by decide))
/-- a longer length begins behind all codes of a shorter one -/
theorem first_far (c : Nat → Nat) (m : Nat) (h1 : 1 ≤ m) : ∀ d, 1 ≤ d → (firstN c m + c m) * 2 ^ d ≤ firstN c (m + d)
  | 0, h => by omega
  | d + 1, _ => by
    obtain ⟨k, rfl⟩ : ∃ k, m = k + 1 := ⟨m - 1, by omega⟩
    have e : firstN c (k + 1 + (d + 1)) = 2 * (firstN c (k + 1 + d) + c (k + 1 + d)) := by
      have : k + 1 + (d + 1) = (k + d) + 2 := by omega
      have h3 : k + 1 + d = (k + d) + 1 := by omega
      rw [this, firstN, h3]
    rw [e, Nat.pow_succ]
    by_cases hd : d = 0
    · subst hd; simp; omega
    · have := first_far c (k + 1) h1 d (by omega)
      rw [← Nat.mul_assoc]
      omega
end Go.Proofs.Ytoiioemkibfdcac

/-
  Lengths and their codes, of lists alone: what count, Codes, the reader's places say.
-/
namespace Go.Proofs.Ytoiioemkibfdcac
set_option linter.unusedVariables false

def okLen (n : Int) : Bool := decide (0 ≤ n ∧ n ≤ 15)
theorem okLen_true {n : Int} (h : okLen n = true) : 0 ≤ n ∧ n ≤ 15 := of_decide_eq_true h
theorem okLen_false {n : Int} (h : okLen n = false) : ¬ (0 ≤ n ∧ n ≤ 15) := of_decide_eq_false h

theorem cnt_next (l : List Int) {k n : Nat} (hk : k < l.length) (hx : l.getD k 0 = (n : Int)) : upd (cnt (l.take k)) n (cnt (l.take k) n + 1) = cnt (l.take (k + 1)) := by
  funext m
  have e : l[k] = (n : Int) := by simpa [List.getD, hk] using hx
  simp only [upd, cnt]
  rw [List.take_succ_eq_append_getElem hk, List.count_append, e]
  by_cases h : m = n
  · subst h; simp
  · have : ((n : Int) == (m : Int)) = false := by rw [beq_eq_false_iff_ne]; omega
    simp [h, List.count_cons, this]

/-- Check's error -/
def errL (l : List Int) : Int := if 288 < l.length then 2 else if ∃ j, j < l.length ∧ okLen (l.getD j 0) = false then 3 else if 32768 < takenN (cnt l) 15 then 8 else 0
/-- what count answers besides -/
def cntE (l : List Int) : Nat → Nat := if errL l = 0 then cnt l else fun _ => 0

/-- what Check's OK says -/
structure Good (l : List Int) : Prop where
  len : l.length ≤ 288
  ok : ∀ j, j < l.length → 0 ≤ l.getD j 0 ∧ l.getD j 0 ≤ 15
  room : takenN (cnt l) 15 ≤ 32768

theorem errL_good {l : List Int} (h : errL l = 0) : Good l := by
  unfold errL at h
  split at h
  · cases h
  · split at h
    · cases h
    · split at h
      · cases h
      · rename_i h1 h2 h3
        refine ⟨by omega, fun j hj => ?_, by omega⟩
        cases e : okLen (l.getD j 0) with
        | true => exact okLen_true e
        | false => exact absurd ⟨j, hj, e⟩ h2
theorem good_errL {l : List Int} (h : Good l) : errL l = 0 := by
  unfold errL
  rw [if_neg (by have := h.len; omega), if_neg, if_neg (by have := h.room; omega)]
  rintro ⟨j, hj, e⟩
  exact okLen_false e (h.ok j hj)

/-- the code of place i -/
def codeN (l : List Int) (i : Nat) : Nat := if (l.getD i 0).toNat = 0 then 0 else firstN (cnt l) (l.getD i 0).toNat + cnt (l.take i) (l.getD i 0).toNat
/-- the codes behind k places -/
def codL (l : List Int) : Nat → List Nat
  | 0 => List.replicate l.length 0
  | k + 1 => (codL l k).set k (codeN l k)
theorem codL_length (l : List Int) : ∀ k, (codL l k).length = l.length
  | 0 => by simp [codL]
  | k + 1 => by rw [codL, List.length_set, codL_length l k]
theorem codL_at (l : List Int) {j : Nat} (hj : j < l.length) : ∀ k, (codL l k).getD j 0 = if j < k then codeN l j else 0
  | 0 => by simp [codL, List.getD, hj]
  | k + 1 => by
    have ih := codL_at l hj k
    simp only [codL, List.getD_eq_getElem?_getD, List.getElem?_set, codL_length] at ih ⊢
    by_cases e : k = j
    · subst e; simp [hj]
    · rw [if_neg e, ih]
      by_cases h : j < k
      · have : j < k + 1 := by omega
        simp [h, this]
      · have : ¬ j < k + 1 := by omega
        simp [h, this]
theorem codL_nil : ∀ k, codL [] k = []
  | 0 => rfl
  | k + 1 => by rw [codL, codL_nil k]; rfl
theorem codL_keep (l : List Int) (k : Nat) (h : codeN l k = 0) : codL l (k + 1) = codL l k := by
  rw [codL, h]
  by_cases hk : k < l.length
  · have e := codL_at l hk k
    rw [if_neg (by omega)] at e
    have hk2 : k < (codL l k).length := by rw [codL_length]; exact hk
    have e2 : (codL l k)[k] = 0 := by simpa [List.getD, hk2] using e
    apply List.ext_getElem?
    intro i
    rw [List.getElem?_set]
    by_cases hi : k = i
    · subst hi; simp [hk2, e2]
    · simp [hi]
  · rw [List.set_eq_of_length_le (by rw [codL_length]; omega)]
/-- the next code of each length behind k places -/
def nxt (l : List Int) (k : Nat) : Nat → Nat := fun n => if n = 0 then 0 else firstN (cnt l) n + cnt (l.take k) n
theorem nxt_zero (l : List Int) (n : Nat) : nxt l 0 n = firstN (cnt l) n := by
  unfold nxt
  by_cases e : n = 0
  · subst e; rfl
  · simp [e, cnt]
theorem nxt_next (l : List Int) {k n : Nat} (hk : k < l.length) (hx : l.getD k 0 = (n : Int)) (hn : 0 < n) : upd (nxt l k) n (nxt l k n + 1) = nxt l (k + 1) := by
  have h := cnt_next l hk hx
  funext m
  have hm := congrFun h m
  simp only [upd, nxt] at hm ⊢
  by_cases e : m = n
  · subst e
    have : ¬ m = 0 := by omega
    simp [this] at hm ⊢; omega
  · simp [e] at hm ⊢
    rw [hm]
theorem nxt_keep (l : List Int) {k : Nat} (hk : k < l.length) (hx : l.getD k 0 = ((0 : Nat) : Int)) : nxt l k = nxt l (k + 1) := by
  have h := cnt_next l hk hx
  funext m
  have hm := congrFun h m
  simp only [upd, nxt] at hm ⊢
  by_cases e : m = 0
  · simp [e]
  · simp [e] at hm ⊢
    rw [hm]
theorem codeN_nxt (l : List Int) {k n : Nat} (hx : l.getD k 0 = (n : Int)) : codeN l k = nxt l k n := by
  unfold codeN nxt; rw [hx, Int.toNat_natCast]

theorem cntE_good {l : List Int} (h : Good l) : cntE l = cnt l := by unfold cntE; rw [good_errL h]; rfl

/-- what Full answers where Check's answer is OK -/
def fullB (l : List Int) : Bool := decide ((cnt l 1 = 1 ∧ cnt l 0 + 1 = l.length) ∨ takenN (cnt l) 15 = 32768)

theorem cnt_take_lt (l : List Int) {k n : Nat} (hk : k < l.length) (hx : l.getD k 0 = (n : Int)) : cnt (l.take k) n < cnt l n := by
  have h := congrFun (cnt_next l hk hx) n
  simp only [upd, if_pos] at h
  have h2 : cnt (l.take (k + 1)) n ≤ cnt l n := by
    unfold cnt
    exact List.Sublist.count_le _ (List.take_sublist _ _)
  omega
theorem code_lt (l : List Int) (h : Good l) {k n : Nat} (hk : k < l.length) (hx : l.getD k 0 = (n : Int)) (hn : 0 < n) : firstN (cnt l) n ≤ codeN l k ∧ codeN l k < firstN (cnt l) n + cnt l n ∧ codeN l k < 2 ^ n := by
  have h1 := codeN_nxt l hx
  have h2 := cnt_take_lt l hk hx
  have h3 : n ≤ 15 := by have := (h.ok k hk).2; omega
  have h4 := first_room (cnt l) h.room (n := n) (by omega) h3
  unfold nxt at h1
  rw [if_neg (by omega)] at h1
  omega
/-- the places of length m among the first k -/
def plcK (l : List Int) (m : Nat) : Nat → List Nat
  | 0 => []
  | k + 1 => plcK l m k ++ (if l.getD k 0 = (m : Int) then [k] else [])
theorem plcK_length (l : List Int) (m : Nat) : ∀ k, k ≤ l.length → (plcK l m k).length = cnt (l.take k) m
  | 0, _ => by simp [plcK, cnt]
  | k + 1, hk => by
    have ih := plcK_length l m k (by omega)
    have hk' : k < l.length := by omega
    rw [plcK, List.length_append, ih, cnt, cnt, List.take_succ_eq_append_getElem hk', List.count_append]
    have e : l.getD k 0 = l[k] := by simp [List.getD, hk']
    rw [e]
    by_cases h : l[k] = (m : Int)
    · simp [h]
    · simp [h]
theorem plcK_pre (l : List Int) (m : Nat) : ∀ k d, ∃ r, plcK l m (k + d) = plcK l m k ++ r
  | k, 0 => ⟨[], by simp⟩
  | k, d + 1 => by
    obtain ⟨r, hr⟩ := plcK_pre l m k d
    refine ⟨r ++ (if l.getD (k + d) 0 = (m : Int) then [k + d] else []), ?_⟩
    rw [← Nat.add_assoc, plcK, hr, List.append_assoc]
/-- place p stands where as many of its length are ahead of it -/
theorem plcK_at (l : List Int) {m p : Nat} (hp : p < l.length) (hx : l.getD p 0 = (m : Int)) : (plcK l m l.length)[cnt (l.take p) m]? = some p := by
  obtain ⟨r, hr⟩ := plcK_pre l m (p + 1) (l.length - (p + 1))
  rw [show p + 1 + (l.length - (p + 1)) = l.length by omega] at hr
  rw [hr, plcK, if_pos hx]
  have h := plcK_length l m p (by omega)
  rw [List.append_assoc, List.getElem?_append_right (by omega), h]
  simp

/-- the bit at place p of a row -/
def bitL (bs : List Nat) (p : Nat) : Nat := bs.getD (p / 8) 0 / 2 ^ (p % 8) % 2

/-- the k bits from place p on, highest first -/
def codeAt (bs : List Nat) (p : Nat) : Nat → Nat
  | 0 => 0
  | k + 1 => 2 * codeAt bs p k + bitL bs (p + k)
theorem bitL_lt (bs : List Nat) (p : Nat) : bitL bs p < 2 := Nat.mod_lt _ (by decide)
theorem codeAt_lt (bs : List Nat) (p : Nat) : ∀ k, codeAt bs p k < 2 ^ k
  | 0 => by simp [codeAt]
  | k + 1 => by
    have h1 := codeAt_lt bs p k
    have h2 := bitL_lt bs (p + k)
    rw [codeAt, Nat.pow_succ]
    omega
/-- the k bits from p on are the code of a place of length k -/
def Hit (l : List Int) (bs : List Nat) (p k : Nat) : Prop := firstN (cnt l) k ≤ codeAt bs p k ∧ codeAt bs p k < firstN (cnt l) k + cnt l k
/-- what reading one place at p comes to -/
def Outcome (l : List Int) (bs : List Nat) (p x : Nat) (err : Int) (p' : Nat) : Prop :=
  (∃ k, 1 ≤ k ∧ k ≤ 15 ∧ (∀ j, 1 ≤ j → j < k → ¬ Hit l bs p j) ∧ p + k ≤ 8 * bs.length ∧ Hit l bs p k ∧ p' = p + k ∧ err = 0 ∧ (plcK l k l.length)[codeAt bs p k - firstN (cnt l) k]? = some x) ∨
  (∃ k, k < 15 ∧ (∀ j, 1 ≤ j → j ≤ k → ¬ Hit l bs p j) ∧ p + k = 8 * bs.length ∧ p' = p + k ∧ err = 7 ∧ x = 0) ∨
  ((∀ j, 1 ≤ j → j ≤ 15 → ¬ Hit l bs p j) ∧ p + 15 ≤ 8 * bs.length ∧ p' = p + 15 ∧ err = 8 ∧ x = 0)

theorem plc_some (l : List Int) {k i : Nat} (hi : i < cnt l k) : ∃ x, (plcK l k l.length)[i]? = some x := by
  have hl := plcK_length l k l.length (Nat.le_refl _)
  rw [List.take_length] at hl
  exact ⟨(plcK l k l.length)[i], by simp⟩

theorem testBit_nat (c i : Nat) : (c.testBit i).toNat = c / 2 ^ i % 2 := by
  rw [Nat.testBit_eq_decide_div_mod_eq]
  have := Nat.mod_lt (c / 2 ^ i) (show 0 < 2 by decide)
  by_cases h : c / 2 ^ i % 2 = 1
  · simp [h]
  · have h0 : c / 2 ^ i % 2 = 0 := by omega
    simp [h0]
theorem bitL_at (bs : List Nat) (q : Nat) : bitL bs q = (bitAt bs q).toNat := by unfold bitL bitAt; rw [testBit_nat]

/-- no code begins another one -/
theorem prefix_free (l : List Int) (hG : Good l) {i k m n : Nat} (hi : i < l.length) (hk : k < l.length) (hm : l.getD i 0 = (m : Int)) (hn : l.getD k 0 = (n : Int)) (hik : i ≠ k) (h0 : 0 < m) (hmn : m ≤ n) : codeN l k / 2 ^ (n - m) ≠ codeN l i := by
  obtain ⟨a1, a2, a3⟩ := code_lt l hG hi hm h0
  obtain ⟨b1, b2, b3⟩ := code_lt l hG hk hn (by omega)
  by_cases e : m = n
  · subst e
    rw [Nat.sub_self, Nat.pow_zero, Nat.div_one]
    intro h
    have e1 := plcK_at l hi hm
    have e2 := plcK_at l hk hn
    have d1 := codeN_nxt l hm
    have d2 := codeN_nxt l hn
    unfold nxt at d1 d2
    rw [if_neg (by omega)] at d1 d2
    have : cnt (l.take i) m = cnt (l.take k) m := by omega
    rw [this, e2] at e1
    exact hik (Option.some.inj e1).symm
  · have hf := first_far (cnt l) m (by omega) (n - m) (by omega)
    rw [show m + (n - m) = n by omega] at hf
    have h4 : firstN (cnt l) m + cnt l m ≤ codeN l k / 2 ^ (n - m) := (Nat.le_div_iff_mul_le (Nat.pow_pos (by decide))).2 (by omega)
    omega

/-- by a code that leaves no room some bits are always met -/
theorem full_met (l : List Int) (hf : takenN (cnt l) 15 = 32768) (bs : List Nat) (p : Nat) : ¬ ∀ j, 1 ≤ j → j ≤ 15 → ¬ Hit l bs p j := by
  intro hno
  have step : ∀ j, j ≤ 14 → firstN (cnt l) (j + 1) + cnt l (j + 1) ≤ codeAt bs p (j + 1) := by
    intro j
    induction j with
    | zero =>
      intro _
      have h := hno 1 (by omega) (by omega)
      unfold Hit at h
      have : firstN (cnt l) 1 = 0 := rfl
      rw [Nat.zero_add]
      omega
    | succ j ih =>
      intro hj
      have h1 := ih (by omega)
      have h := hno (j + 2) (by omega) (by omega)
      unfold Hit at h
      have e : firstN (cnt l) (j + 2) = 2 * (firstN (cnt l) (j + 1) + cnt l (j + 1)) := rfl
      have e2 : codeAt bs p (j + 2) = 2 * codeAt bs p (j + 1) + bitL bs (p + (j + 1)) := rfl
      rw [show j + 1 + 1 = j + 2 by omega]
      omega
  have h := step 14 (by omega)
  have h2 := codeAt_lt bs p 15
  have h3 := first_taken (cnt l) 14 (by omega)
  have h4 : takenN (cnt l) 15 = takenN (cnt l) 14 + cnt l 15 * 2 ^ (14 - 14) := rfl
  rw [Nat.sub_self, Nat.pow_zero, Nat.mul_one] at h3 h4
  have h5 : (2 : Nat) ^ 15 = 32768 := by decide
  rw [h5] at h2
  have h6 : 14 + 1 = 15 := rfl
  rw [h6] at h h3
  omega

end Go.Proofs.Ytoiioemkibfdcac

/-
  Codes as texts of noughts and ones, by adding one: plain facts.
-/
namespace Go.Proofs.Ytoiioemkibfdcac
open Go.RowKit
set_option linter.unusedVariables false

/-- n bits of a number, the highest first -/
def hb (c : Nat) : Nat → List Bool
  | 0 => []
  | n + 1 => hb (c / 2) n ++ [decide (c % 2 = 1)]
theorem hb_length : ∀ n c, (hb c n).length = n
  | 0, _ => rfl
  | n + 1, c => by simp [hb, hb_length n]
theorem hb_zero : ∀ n, hb 0 n = List.replicate n false
  | 0 => rfl
  | n + 1 => by rw [hb, Nat.zero_div, hb_zero n, List.replicate_succ']; rfl
theorem hb_pad (c n : Nat) : ∀ d, hb (c * 2 ^ d) (n + d) = hb c n ++ List.replicate d false
  | 0 => by simp
  | d + 1 => by
    have e : c * 2 ^ (d + 1) = 2 * (c * 2 ^ d) := by rw [Nat.pow_succ]; rw [← Nat.mul_assoc, Nat.mul_comm]
    rw [show n + (d + 1) = (n + d) + 1 by omega, hb, e]
    have e1 : 2 * (c * 2 ^ d) / 2 = c * 2 ^ d := by omega
    have e2 : 2 * (c * 2 ^ d) % 2 = 0 := by omega
    rw [e1, e2, hb_pad c n d, List.replicate_succ', List.append_assoc]
    rfl
/-- one more: the last nought becomes a one, and all behind it noughts -/
theorem hb_inc : ∀ n c, c + 1 < 2 ^ n → ∃ a t, hb c n = a ++ false :: List.replicate t true ∧ hb (c + 1) n = a ++ true :: List.replicate t false
  | 0, c, h => by simp at h
  | n + 1, c, h => by
    rw [Nat.pow_succ] at h
    by_cases hc : c % 2 = 0
    · refine ⟨hb (c / 2) n, 0, ?_, ?_⟩
      · rw [hb, hc]; rfl
      · rw [hb, show (c + 1) / 2 = c / 2 by omega, show (c + 1) % 2 = 1 by omega]; rfl
    · obtain ⟨a, t, h1, h2⟩ := hb_inc n (c / 2) (by omega)
      refine ⟨a, t + 1, ?_, ?_⟩
      · rw [hb, h1, show c % 2 = 1 by omega, List.replicate_succ', List.append_assoc]; rfl
      · rw [hb, show (c + 1) / 2 = c / 2 + 1 by omega, h2, show (c + 1) % 2 = 0 by omega, List.replicate_succ', List.append_assoc]; rfl

/-- the places that have a length, with it, among the first k -/
def usedP (l : List Int) : Nat → List (Int × Int)
  | 0 => []
  | k + 1 => usedP l k ++ (if 0 < l.getD k 0 then [(l.getD k 0, (k : Int))] else [])
def wt (x : Int × Int) : Nat := 2 ^ (15 - x.1.toNat)
instance (x y : Int × Int) : Decidable (Stab.lx x y) := by unfold Stab.lx; infer_instance
/-- what those take together that stand ahead of p -/
def bsum (p : Int × Int) : List (Int × Int) → Nat
  | [] => 0
  | x :: r => (if Stab.lx x p then wt x else 0) + bsum p r
theorem bsum_append (p : Int × Int) : ∀ xs ys, bsum p (xs ++ ys) = bsum p xs + bsum p ys
  | [], ys => by simp [bsum]
  | x :: r, ys => by simp only [List.cons_append, bsum, bsum_append p r ys]; omega
theorem bsum_perm (p : Int × Int) {xs ys : List (Int × Int)} (h : xs.Perm ys) : bsum p xs = bsum p ys := by
  induction h with
  | nil => rfl
  | cons x _ ih => simp only [bsum, ih]
  | swap x y l => simp only [bsum]; omega
  | trans _ _ h1 h2 => exact h1.trans h2

theorem taken_upd (c : Nat → Nat) (m : Nat) (hm : 1 ≤ m) (h15 : m ≤ 15) : ∀ j, j ≤ 15 → takenN (upd c m (c m + 1)) j = takenN c j + (if m ≤ j then 2 ^ (15 - m) else 0)
  | 0, _ => by simp [takenN]; omega
  | j + 1, h => by
    have ih := taken_upd c m hm h15 j (by omega)
    rw [takenN, takenN, ih]
    by_cases e : j + 1 = m
    · subst e
      have h1 : ¬ (j + 1 ≤ j) := by omega
      have h2 : 15 - (j + 1) = 14 - j := by omega
      simp only [upd, if_pos, h1, if_false, Nat.le_refl, h2, Nat.add_mul, Nat.one_mul]
      omega
    · simp only [upd, if_neg e]
      by_cases h1 : m ≤ j
      · have h2 : m ≤ j + 1 := by omega
        simp [h1, h2]; omega
      · have h2 : ¬ m ≤ j + 1 := by omega
        simp [h1, h2]
theorem taken_upd0 (c : Nat → Nat) (x : Nat) : ∀ j, takenN (upd c 0 x) j = takenN c j
  | 0 => rfl
  | j + 1 => by rw [takenN, takenN, taken_upd0 c x j]; simp [upd]

theorem bsum_used (l : List Int) (hG : Good l) (n q : Nat) (hn : 1 ≤ n) (hn15 : n ≤ 15) : ∀ k, k ≤ l.length → bsum ((n : Int), (q : Int)) (usedP l k) = takenN (cnt (l.take k)) (n - 1) + cnt (l.take (min k q)) n * 2 ^ (15 - n)
  | 0, _ => by
    have e : ∀ j, takenN (cnt []) j = 0 := fun j => by
      induction j with
      | zero => rfl
      | succ j ih => rw [takenN, ih]; simp [cnt]
    simp [usedP, bsum, e, cnt]
  | k + 1, hk => by
    have ih := bsum_used l hG n q hn hn15 k (by omega)
    have hkl : k < l.length := by omega
    have hok := hG.ok k hkl
    obtain ⟨m, hm⟩ := Int.eq_ofNat_of_zero_le hok.1
    have hc := cnt_next l hkl hm
    have hcm : cnt (l.take (k + 1)) n = cnt (l.take k) n + (if n = m then 1 else 0) := by
      rw [← hc]; simp only [upd]
      by_cases e : n = m
      · subst e; simp
      · simp [e]
    have hmin : cnt (l.take (min (k + 1) q)) n = cnt (l.take (min k q)) n + (if k < q ∧ n = m then 1 else 0) := by
      by_cases hkq : k < q
      · rw [Nat.min_eq_left (by omega), Nat.min_eq_left (by omega), hcm]
        simp [hkq]
      · rw [Nat.min_eq_right (by omega), Nat.min_eq_right (by omega)]
        simp [hkq]
    rw [usedP, bsum_append, ih, hmin, ← hc, hm]
    have h15 : m ≤ 15 := by rw [hm] at hok; omega
    by_cases h0 : m = 0
    · subst h0
      rw [taken_upd0]
      have : ¬ n = 0 := by omega
      simp [bsum, this]
    · rw [taken_upd _ m (by omega) h15 (n - 1) (by omega)]
      have hpos : (0 : Int) < (m : Int) := by omega
      rw [if_pos hpos]
      simp only [bsum, wt, Int.toNat_natCast, Nat.add_zero]
      have hlx : Stab.lx ((m : Int), (k : Int)) ((n : Int), (q : Int)) ↔ (m ≤ n - 1 ∨ (n = m ∧ k < q)) := by unfold Stab.lx; constructor <;> intro h <;> omega
      by_cases h1 : m ≤ n - 1
      · have h2 : ¬ (k < q ∧ n = m) := by omega
        rw [if_pos (hlx.2 (.inl h1)), if_pos h1, if_neg h2, Nat.add_zero]
        omega
      · by_cases h2 : k < q ∧ n = m
        · rw [if_pos (hlx.2 (.inr ⟨h2.2, h2.1⟩)), if_neg h1, if_pos h2, Nat.add_mul, Nat.one_mul, h2.2]
          omega
        · rw [if_neg (fun h => by have := hlx.1 h; omega), if_neg h1, if_neg h2, Nat.add_zero, Nat.add_zero, Nat.add_zero]

/-- a place's code tells what stands ahead of it -/
theorem bsum_code (l : List Int) (hG : Good l) {n q : Nat} (hq : q < l.length) (hx : l.getD q 0 = (n : Int)) (hn : 0 < n) : bsum ((n : Int), (q : Int)) (usedP l l.length) = codeN l q * 2 ^ (15 - n) := by
  have hn15 : n ≤ 15 := by have := (hG.ok q hq).2; omega
  rw [bsum_used l hG n q (by omega) hn15 l.length (Nat.le_refl _), List.take_length, Nat.min_eq_right (by omega)]
  have h := first_taken (cnt l) (n - 1) (by omega)
  have e := codeN_nxt l hx
  unfold nxt at e
  rw [if_neg (by omega)] at e
  rw [e, Nat.add_mul, ← h, show n - 1 + 1 = n by omega, show 14 - (n - 1) = 15 - n by omega]

/-- the sum of the first i -/
def vsum (d : Nat → Int × Int) : Nat → Nat
  | 0 => 0
  | i + 1 => vsum d i + wt (d i)
theorem bsum_seg (d : Nat → Int × Int) (p : Int × Int) : ∀ a b, bsum p (Stab.seg d a (a + b)) = (List.range b).foldl (fun s i => s + if Stab.lx (d (a + i)) p then wt (d (a + i)) else 0) 0
  | a, 0 => by simp [Stab.seg, bsum]
  | a, b + 1 => by
    rw [Stab.seg_split d a (a + b) (a + (b + 1)) (by omega) (by omega), bsum_append, bsum_seg d p a b, List.range_succ, List.foldl_append]
    have : Stab.seg d (a + b) (a + (b + 1)) = [d (a + b)] := by
      unfold Stab.seg
      rw [show a + (b + 1) - (a + b) = 1 by omega]
      simp
    rw [this]
    simp [bsum]
theorem bsum_below (d : Nat → Int × Int) (p : Int × Int) : ∀ i, (∀ j, j < i → Stab.lx (d j) p) → bsum p (Stab.seg d 0 i) = vsum d i
  | 0, _ => by simp [Stab.seg, bsum, vsum]
  | i + 1, h => by
    rw [Stab.seg_split d 0 i (i + 1) (by omega) (by omega), bsum_append, bsum_below d p i (fun j hj => h j (by omega)), vsum]
    have : Stab.seg d i (i + 1) = [d i] := by
      unfold Stab.seg
      rw [show i + 1 - i = 1 by omega]
      simp
    rw [this]
    simp [bsum, h i (by omega)]
theorem bsum_above (d : Nat → Int × Int) (p : Int × Int) (a : Nat) : ∀ b, (∀ j, a ≤ j → j < a + b → ¬ Stab.lx (d j) p) → bsum p (Stab.seg d a (a + b)) = 0
  | 0, _ => by simp [Stab.seg, bsum]
  | b + 1, h => by
    rw [Stab.seg_split d a (a + b) (a + (b + 1)) (by omega) (by omega), bsum_append, bsum_above d p a b (fun j h1 h2 => h j h1 (by omega))]
    have : Stab.seg d (a + b) (a + (b + 1)) = [d (a + b)] := by
      unfold Stab.seg
      rw [show a + (b + 1) - (a + b) = 1 by omega]
      simp
    rw [this]
    simp [bsum, h (a + b) (by omega) (by omega)]
theorem lx_irr (x : Int × Int) : ¬ Stab.lx x x := by unfold Stab.lx; omega
theorem lx_asymm {x y : Int × Int} (h : Stab.lx x y) : ¬ Stab.lx y x := by unfold Stab.lx at *; omega
/-- of a sorted row just those ahead stand ahead -/
theorem bsum_sorted (d : Nat → Int × Int) (N : Nat) (hs : Stab.Srt Stab.lx d 0 N) {i : Nat} (hi : i < N) : bsum (d i) (Stab.seg d 0 N) = vsum d i := by
  rw [Stab.seg_split d 0 i N (by omega) (by omega), bsum_append, bsum_below d (d i) i (fun j hj => hs j i (Nat.zero_le _) hj hi)]
  have := bsum_above d (d i) i (N - i) (fun j h1 h2 => by
    by_cases e : j = i
    · subst e; exact lx_irr _
    · exact lx_asymm (hs i j (Nat.zero_le _) (by omega) (by omega)))
  rw [show i + (N - i) = N by omega] at this
  rw [this, Nat.add_zero]
/-- the text of place q's code -/
def codeT (l : List Int) (q : Nat) : List Bool := hb (codeN l q) (l.getD q 0).toNat
end Go.Proofs.Ytoiioemkibfdcac

/-
  Rows of bits, numbers: of lists alone.
-/
namespace Go.Proofs.Ytoiioemkibfdcac
open Go.RowKit
set_option linter.unusedVariables false
set_option maxRecDepth 100000

def numBits (n : Nat) : Nat → List Bool
  | 0 => []
  | k + 1 => numBits n k ++ [n.testBit k]

theorem numBits_length (n : Nat) : ∀ k, (numBits n k).length = k
  | 0 => rfl
  | k + 1 => by rw [numBits, List.length_append, numBits_length n k]; rfl
theorem bit_div (n k : Nat) : n / 2 ^ k % 2 = if n.testBit k then 1 else 0 := by
  have h := Nat.testBit_eq_decide_div_mod_eq (x := n) (i := k)
  rw [h]
  rcases Nat.mod_two_eq_zero_or_one (n / 2 ^ k) with e | e <;> simp [e]

theorem numBits_getD (n : Nat) : ∀ s i, (numBits n s).getD i false = (decide (i < s) && n.testBit i)
  | 0, i => by simp [numBits]
  | s + 1, i => by
    rw [numBits, List.getD_eq_getElem?_getD]
    by_cases h : i < s
    · rw [List.getElem?_append_left (by rw [numBits_length]; exact h), ← List.getD_eq_getElem?_getD, numBits_getD n s i]
      simp [h, Nat.lt_succ_of_lt h]
    · rw [List.getElem?_append_right (by rw [numBits_length]; omega), numBits_length]
      by_cases e : i = s
      · subst e; simp
      · have h1 : ¬ i < s + 1 := by omega
        have h2 : [n.testBit s][i - s]? = none := List.getElem?_eq_none (by simp; omega)
        rw [h2]; simp [h1]
/-- the number whose bits these are, the lowest one first -/
def numOf : List Bool → Nat
  | [] => 0
  | b :: r => (if b then 1 else 0) + 2 * numOf r

theorem numOf_lt : ∀ l, numOf l < 2 ^ l.length
  | [] => by simp [numOf]
  | b :: r => by
    have := numOf_lt r
    rw [numOf, List.length_cons, Nat.pow_succ]
    split <;> omega
theorem numOf_lt16 {l : List Bool} (h : l.length ≤ 16) : numOf l < 65536 := Nat.lt_of_lt_of_le (numOf_lt l) (pow_le_16 h)
def rowB (xs : List Nat) : Nat → List Bool
  | 0 => []
  | q + 1 => rowB xs q ++ numBits (xs.getD q 0) 8
theorem rowB_length (xs : List Nat) : ∀ q, (rowB xs q).length = 8 * q
  | 0 => rfl
  | q + 1 => by rw [rowB, List.length_append, rowB_length xs q, numBits_length]; omega
theorem rowB_getD (xs : List Nat) : ∀ q i, i < 8 * q → (rowB xs q).getD i false = bitAt xs i
  | 0, i, h => by omega
  | q + 1, i, h => by
    rw [rowB, List.getD_eq_getElem?_getD]
    by_cases e : i < 8 * q
    · rw [List.getElem?_append_left (by rw [rowB_length]; exact e), ← List.getD_eq_getElem?_getD, rowB_getD xs q i e]
    · rw [List.getElem?_append_right (by rw [rowB_length]; omega), rowB_length, ← List.getD_eq_getElem?_getD, numBits_getD, bitAt]
      have e1 : i / 8 = q := by omega
      have e2 : i % 8 = i - 8 * q := by omega
      rw [e1, e2, decide_eq_true (by omega), Bool.true_and]
end Go.Proofs.Ytoiioemkibfdcac

/-
  What the document's own reader of blocks says, of bits alone.
-/
namespace Go.Proofs.Ytoiioemkibfdcac
set_option linter.unusedVariables false

/-- where the reader is: its place, the bytes said, the kinds said, what is wrong -/
structure US where
  p : Nat
  out : List Nat
  ks : List Nat
  e : Int

def uget (row : List Bool) (n : Nat) (u : US) : Nat × US :=
  if u.e = 0 then (if row.length < u.p + n then (0, { u with e := 7 }) else (numOf ((row.drop u.p).take n), { u with p := u.p + n })) else (0, u)
def uwrong (x : Int) (u : US) : US := if u.e = 0 then { u with e := x } else u
def usay (c : Nat) (u : US) : US := if u.e = 0 then (if u.out.length = 3000 then { u with e := 2 } else { u with out := u.out ++ [c] }) else u

/-- the place whose code these bits are -/
def findC (l : List Int) (s : List Bool) : Option Nat := (List.range l.length).find? (fun q => decide (codeT l q = s))
def nextF (l : List Int) (row : List Bool) (p : Nat) : Nat → Nat → Nat × Nat × Int
  | 0, _ => (0, 0, 8)
  | f + 1, n => if row.length < p + n then (0, 0, 7) else match findC l ((row.drop p).take n) with
    | some q => (q, n, 0)
    | none => nextF l row p f (n + 1)
def nextR (l : List Int) (row : List Bool) (p : Nat) : Nat × Nat × Int := nextF l row p 15 1
def uplace (l : List Int) (row : List Bool) (u : US) : Nat × US :=
  if u.e = 0 then ((nextR l row u.p).1, { u with e := (nextR l row u.p).2.2, p := u.p + (nextR l row u.p).2.1 }) else (0, u)

/-! the lengths that a block tells -/
def ord19 : List Nat := [16, 17, 18, 0, 8, 7, 9, 6, 10, 5, 11, 4, 12, 3, 13, 2, 14, 1, 15]
def usmall (row : List Bool) : List Nat → List Int → US → List Int × US
  | [], s, u => (s, u)
  | k :: r, s, u => usmall row r (s.set k ((uget row 3 u).1 : Int)) (uget row 3 u).2
/-- what a place k of the code of lengths says behind the lengths l: a length, how many times -/
def ukind (row : List Bool) (l : List Int) (k : Nat) (u : US) : Int × Nat × US :=
  if k = 16 then (if l.length = 0 then (16, 1, uwrong 8 u) else (l.getD (l.length - 1) 0, 3 + (uget row 2 u).1, (uget row 2 u).2))
  else if k = 17 then (0, 3 + (uget row 3 u).1, (uget row 3 u).2)
  else if k = 18 then (0, 11 + (uget row 7 u).1, (uget row 7 u).2)
  else ((k : Int), 1, u)
def umore (tot : Nat) (l : List Int) (r : Int × Nat × US) : List Int × US :=
  (l ++ List.replicate r.2.1 r.1, if r.2.2.e = 0 ∧ tot < l.length + r.2.1 then uwrong 8 r.2.2 else r.2.2)
def ustep (row : List Bool) (small : List Int) (tot : Nat) (l : List Int) (u : US) : List Int × US := umore tot l (ukind row l (uplace small row u).1 (uplace small row u).2)
def ulens (row : List Bool) (small : List Int) (tot : Nat) : Nat → List Int → US → List Int × US
  | 0, l, u => (l, u)
  | f + 1, l, u => if l.length < tot ∧ u.e = 0 then ulens row small tot f (ustep row small tot l u).1 (ustep row small tot l u).2 else (l, u)
/-- the lengths of the code of lengths; where the reader is behind them -/
def utoldS (row : List Bool) (m n c : Nat) (u : US) : List Int × US :=
  usmall row (ord19.take c) (List.replicate 19 0) (if 286 < m ∨ 30 < n then uwrong 8 u else u)
def uchk (s : List Int × US) : US := if s.2.e = 0 ∧ errL s.1 ≠ 0 then uwrong 8 s.2 else s.2
def utoldE (m : Nat) (r : List Int × US) : (List Int × List Int) × US :=
  if r.2.e ≠ 0 then (([], []), r.2)
  else if r.1.getD 256 0 = 0 ∨ errL (r.1.take m) ≠ 0 ∨ errL (r.1.drop m) ≠ 0 then (([], []), uwrong 8 r.2)
  else ((r.1.take m, r.1.drop m), r.2)
def utoldL (row : List Bool) (m n : Nat) (s : List Int × US) : (List Int × List Int) × US :=
  if (uchk s).e ≠ 0 then (([], []), uchk s) else utoldE m (ulens row s.1 (m + n) (m + n) [] (uchk s))
def utold (row : List Bool) (u : US) : (List Int × List Int) × US :=
  let r1 := uget row 5 u
  let r2 := uget row 5 r1.2
  let r3 := uget row 4 r2.2
  utoldL row (r1.1 + 257) (r2.1 + 1) (utoldS row (r1.1 + 257) (r2.1 + 1) (r3.1 + 4) r3.2)

/-! a block -/
def ustore (row : List Bool) : Nat → US → US
  | 0, u => u
  | k + 1, u => if u.e = 0 then ustore row k (usay (uget row 8 u).1 (uget row 8 u).2) else u
def ucopy (d : Nat) : Nat → US → US
  | 0, u => u
  | j + 1, u => if u.e = 0 then ucopy d j (usay (u.out.getD (u.out.length - d) 0) u) else u
def samesL : List (Nat × Nat) := [(3, 0), (4, 0), (5, 0), (6, 0), (7, 0), (8, 0), (9, 0), (10, 0), (11, 1), (13, 1), (15, 1), (17, 1), (19, 2), (23, 2), (27, 2), (31, 2), (35, 3), (43, 3), (51, 3), (59, 3), (67, 4), (83, 4), (99, 4), (115, 4), (131, 5), (163, 5), (195, 5), (227, 5), (258, 0)]
def farsL : List (Nat × Nat) := [(1, 0), (2, 0), (3, 0), (4, 0), (5, 1), (7, 1), (9, 2), (13, 2), (17, 3), (25, 3), (33, 4), (49, 4), (65, 5), (97, 5), (129, 6), (193, 6), (257, 7), (385, 7), (513, 8), (769, 8), (1025, 9), (1537, 9), (2049, 10), (3073, 10), (4097, 11), (6145, 11), (8193, 12), (12289, 12), (16385, 13), (24577, 13)]
def fixA : List Int := List.replicate 144 8 ++ List.replicate 112 9 ++ List.replicate 24 7 ++ List.replicate 8 8
def fixB : List Int := List.replicate 32 5
/-- how far, behind its place -/
def ufar (row : List Bool) (n f : Nat) (u : US) : US :=
  let q := uget row (farsL.getD f (0, 0)).2 u
  let d := (farsL.getD f (0, 0)).1 + q.1
  ucopy d n (if q.2.e = 0 ∧ q.2.out.length < d then uwrong 9 q.2 else q.2)
/-- how many, behind its place: whether the reading goes on -/
def usame (row : List Bool) (b : List Int) (k : Nat) (u : US) : Bool × US :=
  let g := uget row (samesL.getD (k - 257) (0, 0)).2 u
  let h := uplace b row g.2
  let u3 := if h.2.e = 0 ∧ 29 < h.1 then uwrong 8 h.2 else h.2
  if u3.e ≠ 0 then (false, u3) else (true, ufar row ((samesL.getD (k - 257) (0, 0)).1 + g.1) h.1 u3)
/-- one token: whether the reading goes on -/
def utok1 (row : List Bool) (a b : List Int) (u : US) : Bool × US :=
  let r := uplace a row u
  if r.2.e ≠ 0 ∨ r.1 = 256 then (false, r.2)
  else if r.1 < 256 then (true, usay r.1 r.2)
  else if 285 < r.1 then (false, uwrong 8 r.2)
  else usame row b r.1 r.2
def utok (row : List Bool) (a b : List Int) : Nat → US → US
  | 0, u => u
  | f + 1, u => if u.e = 0 then (if (utok1 row a b u).1 then utok row a b f (utok1 row a b u).2 else (utok1 row a b u).2) else u
def ukept (k : Nat) (u : US) : US := { u with ks := u.ks ++ [k] }
def uopen (row : List Bool) (kind : Nat) (u : US) : (List Int × List Int) × US :=
  if kind = 1 then ((fixA, fixB), u) else if kind = 2 then utold row u else (([], []), uwrong 4 u)
def ustored (row : List Bool) (u : US) : US :=
  let n := uget row 16 { u with p := (u.p + 7) / 8 * 8 }
  let t := uget row 16 n.2
  ustore row n.1 (if t.2.e = 0 ∧ n.1 + t.1 ≠ 65535 then uwrong 4 t.2 else t.2)
/-- a block: whether it is the last one -/
def ublock (row : List Bool) (u : US) : Bool × US :=
  let l := uget row 1 u
  let k := uget row 2 l.2
  if k.2.e ≠ 0 then (true, k.2)
  else if k.1 = 0 then (decide (l.1 = 1), ukept 0 (ustored row k.2))
  else
    let o := uopen row k.1 k.2
    if o.2.e ≠ 0 then (true, o.2) else (decide (l.1 = 1), ukept k.1 (utok row o.1.1 o.1.2 row.length o.2))
def ublocks (row : List Bool) : Nat → US → US
  | 0, u => u
  | f + 1, u => if (ublock row u).1 = false ∧ (ublock row u).2.e = 0 then ublocks row f (ublock row u).2 else (ublock row u).2
def unpk (row : List Bool) : US := ublocks row (row.length + 1) ⟨0, [], [], 0⟩
end Go.Proofs.Ytoiioemkibfdcac

/-
  Bytes that stood ahead, of lists alone: what Check, Expand, Longest and Tokens answer.
-/
namespace Go.Proofs.Ytoiioemkibfdcac
set_option linter.unusedVariables false

/-- a token: its byte, how many are the same, how far -/
abbrev Tk := Nat × Int × Int

/-- what is wrong with a token that has n bytes ahead of it -/
def errOne (t : Tk) (n : Nat) : Int :=
  if t.2.1 = 0 ∧ t.2.2 = 0 then 0 else if t.2.1 = 0 ∨ t.1 ≠ 0 then 4 else if t.2.1 < 3 ∨ 258 < t.2.1 ∨ t.2.2 < 1 then 3 else if (n : Int) < t.2.2 then 9 else 0
/-- how many bytes a right token stands for -/
def wid (t : Tk) : Nat := if t.2.1 = 0 then 1 else t.2.1.toNat
/-- what is wrong with tokens behind n bytes -/
def chkF : List Tk → Nat → Int
  | [], n => if 3000 < n then 2 else 0
  | t :: r, n => if errOne t n = 0 then chkF r (n + wid t) else errOne t n
def errT (l : List Tk) : Int := if 3000 < l.length then 2 else chkF l 0
/-- m bytes more, each the one f ahead -/
def copyN (acc : List Nat) (f : Nat) : Nat → List Nat
  | 0 => acc
  | m + 1 => copyN (acc ++ [acc.getD (acc.length - f) 0]) f m
def putT (t : Tk) (acc : List Nat) : List Nat := if t.2.1 = 0 then acc ++ [t.1] else copyN acc t.2.2.toNat t.2.1.toNat
def expF : List Tk → List Nat → List Nat
  | [], acc => acc
  | t :: r, acc => expF r (putT t acc)

theorem drop_at {l : List Tk} {k : Nat} (h : k < l.length) : l.drop k = l.getD k (0, 0, 0) :: l.drop (k + 1) := by
  rw [List.drop_eq_getElem_cons h]
  congr 1
  simp [List.getD, h]
theorem chkF_step {l : List Tk} {k n : Nat} (h : k < l.length) : chkF (l.drop k) n = if errOne (l.getD k (0, 0, 0)) n = 0 then chkF (l.drop (k + 1)) (n + wid (l.getD k (0, 0, 0))) else errOne (l.getD k (0, 0, 0)) n := by
  rw [drop_at h, chkF]
theorem expF_step {l : List Tk} {k : Nat} {acc : List Nat} (h : k < l.length) : expF (l.drop k) acc = expF (l.drop (k + 1)) (putT (l.getD k (0, 0, 0)) acc) := by
  rw [drop_at h, expF]
theorem copyN_length (f : Nat) : ∀ (m : Nat) (acc : List Nat), (copyN acc f m).length = acc.length + m
  | 0, acc => rfl
  | m + 1, acc => by rw [copyN, copyN_length f m]; simp; omega
theorem errOne_right {t : Tk} {n : Nat} (h : errOne t n = 0) : (t.2.1 = 0 ∧ t.2.2 = 0) ∨ (t.1 = 0 ∧ 3 ≤ t.2.1 ∧ t.2.1 ≤ 258 ∧ 1 ≤ t.2.2 ∧ t.2.2 ≤ n) := by
  unfold errOne at h
  by_cases h1 : t.2.1 = 0 ∧ t.2.2 = 0
  · exact .inl h1
  · rw [if_neg h1] at h
    by_cases h2 : t.2.1 = 0 ∨ t.1 ≠ 0
    · rw [if_pos h2] at h; omega
    · rw [if_neg h2] at h
      by_cases h3 : t.2.1 < 3 ∨ 258 < t.2.1 ∨ t.2.2 < 1
      · rw [if_pos h3] at h; omega
      · rw [if_neg h3] at h
        by_cases h4 : (n : Int) < t.2.2
        · rw [if_pos h4] at h; omega
        · have : t.1 = 0 := by
            by_cases e : t.1 = 0
            · exact e
            · exact absurd (.inr e) h2
          exact .inr ⟨this, by omega, by omega, by omega, by omega⟩
theorem errOne_of {t : Tk} {n : Nat} (h : (t.2.1 = 0 ∧ t.2.2 = 0) ∨ (t.1 = 0 ∧ 3 ≤ t.2.1 ∧ t.2.1 ≤ 258 ∧ 1 ≤ t.2.2 ∧ t.2.2 ≤ n)) : errOne t n = 0 := by
  unfold errOne
  rcases h with h | ⟨h0, h1, h2, h3, h4⟩
  · rw [if_pos h]
  · rw [if_neg (by omega), if_neg (by omega), if_neg (by omega), if_neg (by omega)]
/-- the document's own order of what is wrong -/
theorem errOne_doc (t : Tk) (n : Nat) : errOne t n = if (t.2.1 = 0 ∧ t.2.2 ≠ 0) ∨ (t.2.1 ≠ 0 ∧ t.1 ≠ 0) then 4 else if t.2.1 = 0 then 0 else if t.2.1 < 3 ∨ 258 < t.2.1 ∨ t.2.2 < 1 then 3 else if (n : Int) < t.2.2 then 9 else 0 := by
  unfold errOne
  by_cases h1 : t.2.1 = 0
  · by_cases h2 : t.2.2 = 0 <;> simp [h1, h2]
  · by_cases h2 : t.1 = 0 <;> simp [h1, h2]
theorem errOne_pos {t : Tk} {n : Nat} (h : errOne t n ≠ 0) : 0 < errOne t n ∧ errOne t n ≤ 9 := by
  unfold errOne at *
  by_cases h1 : t.2.1 = 0 ∧ t.2.2 = 0
  · rw [if_pos h1] at h; exact absurd rfl h
  · rw [if_neg h1] at h ⊢
    by_cases h2 : t.2.1 = 0 ∨ t.1 ≠ 0
    · rw [if_pos h2]; omega
    · rw [if_neg h2] at h ⊢
      by_cases h3 : t.2.1 < 3 ∨ 258 < t.2.1 ∨ t.2.2 < 1
      · rw [if_pos h3]; omega
      · rw [if_neg h3] at h ⊢
        by_cases h4 : (n : Int) < t.2.2
        · rw [if_pos h4]; omega
        · rw [if_neg h4] at h; exact absurd rfl h
theorem wid_le {t : Tk} {n : Nat} (h : errOne t n = 0) : 1 ≤ wid t ∧ wid t ≤ 258 := by
  unfold wid
  rcases errOne_right h with ⟨a, b⟩ | ⟨a, b, c, d, e⟩
  · rw [if_pos a]; omega
  · rw [if_neg (by omega)]; omega
theorem wid_max {t : Tk} {n : Nat} (h : errOne t n = 0) : max t.2.1 1 = (wid t : Int) := by
  unfold wid
  rcases errOne_right h with ⟨a, b⟩ | ⟨a, b, c, d, e⟩
  · rw [if_pos a, a]; rfl
  · rw [if_neg (by omega)]; omega
theorem putT_length {t : Tk} {acc : List Nat} : (putT t acc).length = acc.length + wid t := by
  unfold putT wid
  by_cases h : t.2.1 = 0
  · rw [if_pos h, if_pos h]; simp
  · rw [if_neg h, if_neg h, copyN_length]
theorem chkF_zero {n : Nat} : ∀ {l : List Tk}, chkF l n = 0 → n ≤ 3000 := by
  intro l
  induction l generalizing n with
  | nil =>
    intro h
    rw [chkF] at h
    by_cases h1 : 3000 < n
    · rw [if_pos h1] at h; omega
    · omega
  | cons t r ih =>
    intro h
    rw [chkF] at h
    by_cases h1 : errOne t n = 0
    · rw [if_pos h1] at h
      have := ih h
      omega
    · rw [if_neg h1] at h
      exact absurd h h1

/-! what stood ahead -/
def lcp (bs : List Nat) : Nat → Nat → Nat → Nat
  | _, _, 0 => 0
  | i, k, m + 1 => if bs.getD i 0 = bs.getD k 0 then lcp bs (i + 1) (k + 1) m + 1 else 0
theorem lcp_le (bs : List Nat) : ∀ m i k, lcp bs i k m ≤ m
  | 0, i, k => by simp [lcp]
  | m + 1, i, k => by
    rw [lcp]
    have := lcp_le bs m (i + 1) (k + 1)
    split <;> omega
theorem lcp_same (bs : List Nat) : ∀ m i k j, j < lcp bs i k m → bs.getD (i + j) 0 = bs.getD (k + j) 0
  | 0, i, k, j, h => by simp [lcp] at h
  | m + 1, i, k, j, h => by
    rw [lcp] at h
    split at h
    · rename_i e
      match j with
      | 0 => exact e
      | j + 1 =>
        have := lcp_same bs m (i + 1) (k + 1) j (by omega)
        rw [show i + (j + 1) = i + 1 + j by omega, show k + (j + 1) = k + 1 + j by omega]
        exact this
    · omega
theorem lcp_diff (bs : List Nat) : ∀ m i k, lcp bs i k m < m → bs.getD (i + lcp bs i k m) 0 ≠ bs.getD (k + lcp bs i k m) 0
  | 0, i, k, h => by omega
  | m + 1, i, k, h => by
    rw [lcp] at h ⊢
    split at h
    · rename_i e
      rw [if_pos e]
      have := lcp_diff bs m (i + 1) (k + 1) (by omega)
      rw [show i + (lcp bs (i + 1) (k + 1) m + 1) = i + 1 + lcp bs (i + 1) (k + 1) m by omega, show k + (lcp bs (i + 1) (k + 1) m + 1) = k + 1 + lcp bs (i + 1) (k + 1) m by omega]
      exact this
    · rename_i e
      rw [if_neg e]
      exact e
theorem lcp_ge {bs : List Nat} {m i k s : Nat} (hs : s ≤ m) (h : ∀ j, j < s → bs.getD (i + j) 0 = bs.getD (k + j) 0) : s ≤ lcp bs i k m := by
  by_cases hlt : lcp bs i k m < s
  · exact absurd (h _ hlt) (lcp_diff bs m i k (by omega))
  · omega
theorem lcp_le_of {bs : List Nat} {m i k s : Nat} (h : bs.getD (i + s) 0 ≠ bs.getD (k + s) 0) : lcp bs i k m ≤ s := by
  by_cases hlt : s < lcp bs i k m
  · exact absurd (lcp_same bs m i k s hlt) h
  · omega
theorem lcp_eq {bs : List Nat} {m i k s : Nat} (hs : s ≤ m) (h : ∀ j, j < s → bs.getD (i + j) 0 = bs.getD (k + j) 0) (he : s = m ∨ bs.getD (i + s) 0 ≠ bs.getD (k + s) 0) : lcp bs i k m = s := by
  have h1 := lcp_ge hs h
  have h2 := lcp_le bs m i k
  rcases he with e | e
  · omega
  · have := lcp_le_of (m := m) e; omega

/-- how many bytes may be said from k on -/
def mst (n k : Nat) : Nat := min 258 (n - k)
def bst (bs : List Nat) (k m : Nat) : Nat → Nat × Nat
  | 0 => (0, 0)
  | d + 1 => if (bst bs k m d).1 < lcp bs (k - (d + 1)) k m then (lcp bs (k - (d + 1)) k m, d + 1) else bst bs k m d
def lng (bs : List Nat) (k : Nat) : Nat × Nat := if (bst bs k (mst bs.length k) k).1 < 3 then (0, 0) else bst bs k (mst bs.length k) k

structure Bst (bs : List Nat) (k m D : Nat) (p : Nat × Nat) : Prop where
  most : ∀ d, 1 ≤ d → d ≤ D → lcp bs (k - d) k m ≤ p.1
  way : (p.1 = 0 ∧ p.2 = 0) ∨ (1 ≤ p.2 ∧ p.2 ≤ D ∧ lcp bs (k - p.2) k m = p.1 ∧ 0 < p.1 ∧ ∀ d, 1 ≤ d → d < p.2 → lcp bs (k - d) k m < p.1)
theorem bst_is (bs : List Nat) (k m : Nat) : ∀ D, Bst bs k m D (bst bs k m D)
  | 0 => ⟨fun d h h' => by omega, .inl ⟨rfl, rfl⟩⟩
  | D + 1 => by
    have ih := bst_is bs k m D
    rw [bst]
    by_cases h : (bst bs k m D).1 < lcp bs (k - (D + 1)) k m
    · rw [if_pos h]
      refine ⟨?_, .inr ⟨by simp, by simp, rfl, by show 0 < lcp bs (k - (D + 1)) k m; omega, ?_⟩⟩
      · intro d h1 h2
        by_cases e : d = D + 1
        · rw [e]; exact Nat.le_refl _
        · exact Nat.le_of_lt (Nat.lt_of_le_of_lt (ih.most d h1 (by omega)) h)
      · intro d h1 h2
        have h2' : d < D + 1 := h2
        exact Nat.lt_of_le_of_lt (ih.most d h1 (by omega)) h
    · rw [if_neg h]
      refine ⟨?_, ?_⟩
      · intro d h1 h2
        by_cases e : d = D + 1
        · rw [e]; omega
        · exact ih.most d h1 (by omega)
      · rcases ih.way with h1 | ⟨h1, h2, h3, h4, h5⟩
        · exact .inl h1
        · exact .inr ⟨h1, by omega, h3, h4, h5⟩
/-- what Longest says, whoever tells it -/
theorem lng_eq {bs : List Nat} {k n f : Nat} (h3 : 3 ≤ n) (hf1 : 1 ≤ f) (hfk : f ≤ k) (he : lcp bs (k - f) k (mst bs.length k) = n) (hm : ∀ d, 1 ≤ d → d ≤ k → lcp bs (k - d) k (mst bs.length k) ≤ n) (hn : ∀ d, 1 ≤ d → d < f → lcp bs (k - d) k (mst bs.length k) < n) : lng bs k = (n, f) := by
  have B := bst_is bs k (mst bs.length k) k
  unfold lng
  generalize bst bs k (mst bs.length k) k = p at *
  obtain ⟨a, b⟩ := p
  have m1 := B.most f hf1 hfk
  simp only at m1
  rw [he] at m1
  rw [if_neg (by show ¬ a < 3; omega)]
  rcases B.way with ⟨h1, h2⟩ | ⟨h1, h2, h4, h5, h6⟩
  · simp only at h1; omega
  · simp only at h1 h2 h4 h5 h6
    have m2 := hm b h1 h2
    rw [h4] at m2
    have ea : a = n := by omega
    have eb : b = f := by
      by_cases c : b < f
      · have := hn b h1 c; omega
      · by_cases c2 : f < b
        · have := h6 f hf1 c2; omega
        · omega
    rw [ea, eb]
theorem lng_none {bs : List Nat} {k : Nat} (hm : ∀ d, 1 ≤ d → d ≤ k → lcp bs (k - d) k (mst bs.length k) < 3) : lng bs k = (0, 0) := by
  have B := bst_is bs k (mst bs.length k) k
  unfold lng
  rcases B.way with ⟨h1, h2⟩ | ⟨h1, h2, h4, h5, h6⟩
  · rw [if_pos (by omega)]
  · have := hm _ h1 h2
    rw [h4] at this
    rw [if_pos this]
structure Lng (bs : List Nat) (k n f : Nat) : Prop where
  three : 3 ≤ n
  one : 1 ≤ f
  ahead : f ≤ k
  is : lcp bs (k - f) k (mst bs.length k) = n
  most : ∀ d, 1 ≤ d → d ≤ k → lcp bs (k - d) k (mst bs.length k) ≤ n
  near : ∀ d, 1 ≤ d → d < f → lcp bs (k - d) k (mst bs.length k) < n
theorem lng_is (bs : List Nat) (k : Nat) : ((lng bs k) = (0, 0) ∧ ∀ d, 1 ≤ d → d ≤ k → lcp bs (k - d) k (mst bs.length k) < 3) ∨ Lng bs k (lng bs k).1 (lng bs k).2 := by
  have B := bst_is bs k (mst bs.length k) k
  unfold lng
  by_cases h : (bst bs k (mst bs.length k) k).1 < 3
  · rw [if_pos h]
    exact .inl ⟨rfl, fun d h1 h2 => Nat.lt_of_le_of_lt (B.most d h1 h2) h⟩
  · rw [if_neg h]
    rcases B.way with ⟨h1, h2⟩ | ⟨h1, h2, h4, h5, h6⟩
    · omega
    · exact .inr ⟨by omega, h1, h2, h4, B.most, h6⟩
theorem Lng.le {bs : List Nat} {k n f : Nat} (h : Lng bs k n f) : n ≤ 258 ∧ k + n ≤ bs.length := by
  have := lcp_le bs (mst bs.length k) (k - f) k
  rw [h.is] at this
  have h3 := h.three
  unfold mst at this
  omega
theorem Lng.same {bs : List Nat} {k n f : Nat} (h : Lng bs k n f) {j : Nat} (hj : j < n) : bs.getD (k + j) 0 = bs.getD (k - f + j) 0 := by
  have := lcp_same bs (mst bs.length k) (k - f) k j (by rw [h.is]; exact hj)
  exact this.symm

/-! the places by their first three bytes -/
def key3 (bs : List Nat) (p : Nat) : Nat × Nat × Nat := (bs.getD p 0, bs.getD (p + 1) 0, bs.getD (p + 2) 0)
def plc (bs : List Nat) (kn : Nat) (c : Nat × Nat × Nat) : List Nat := (List.range kn).filter (fun p => decide (key3 bs p = c))
theorem plc_succ (bs : List Nat) (kn : Nat) (c : Nat × Nat × Nat) : plc bs (kn + 1) c = plc bs kn c ++ if key3 bs kn = c then [kn] else [] := by
  unfold plc
  rw [List.range_succ, List.filter_append]
  congr 1
  by_cases h : key3 bs kn = c <;> simp [h]
theorem plc_mem {bs : List Nat} {kn p : Nat} {c : Nat × Nat × Nat} : p ∈ plc bs kn c ↔ p < kn ∧ key3 bs p = c := by simp [plc]
theorem plc_rise (bs : List Nat) (kn : Nat) (c : Nat × Nat × Nat) {i j : Nat} (hj : j < (plc bs kn c).length) (hij : i < j) : (plc bs kn c).getD i 0 < (plc bs kn c).getD j 0 := by
  have hp : (plc bs kn c).Pairwise (· < ·) := by
    unfold plc
    exact List.Pairwise.filter _ List.pairwise_lt_range
  have := List.pairwise_iff_getElem.1 hp i j (by omega) hj hij
  simpa [List.getD, hj, show i < (plc bs kn c).length by omega] using this
theorem plc_at (bs : List Nat) (kn : Nat) (c : Nat × Nat × Nat) {j : Nat} (hj : j < (plc bs kn c).length) : (plc bs kn c).getD j 0 < kn ∧ key3 bs ((plc bs kn c).getD j 0) = c := by
  have : (plc bs kn c).getD j 0 ∈ plc bs kn c := by
    simp only [List.getD, List.getElem?_eq_getElem hj, Option.getD_some]
    exact List.getElem_mem hj
  exact plc_mem.1 this
theorem key3_lcp {bs : List Nat} {p k m : Nat} (hm : 3 ≤ m) : key3 bs p = key3 bs k ↔ 3 ≤ lcp bs p k m := by
  unfold key3
  constructor
  · intro h
    simp only [Prod.mk.injEq] at h
    refine lcp_ge hm ?_
    intro j hj
    match j, hj with
    | 0, _ => exact h.1
    | 1, _ => exact h.2.1
    | 2, _ => exact h.2.2
  · intro h
    have h0 := lcp_same bs m p k 0 (by omega)
    have h1 := lcp_same bs m p k 1 (by omega)
    have h2 := lcp_same bs m p k 2 (by omega)
    simp only [Nat.add_zero] at h0
    rw [h0, h1, h2]

/-- behind q of the places, from the nearest on -/
def Han (bs : List Nat) (k : Nat) (zs : List Nat) (q n f : Nat) : Prop :=
  (q = 0 ∧ n = 0 ∧ f = 0) ∨ (3 ≤ n ∧ ∃ j, zs.length - q ≤ j ∧ j < zs.length ∧ f = k - zs.getD j 0 ∧ lcp bs (zs.getD j 0) k (mst bs.length k) = n ∧
    (∀ j', zs.length - q ≤ j' → j' < zs.length → lcp bs (zs.getD j' 0) k (mst bs.length k) ≤ n) ∧ (∀ j', j < j' → j' < zs.length → lcp bs (zs.getD j' 0) k (mst bs.length k) < n))
theorem Han.le {bs : List Nat} {k : Nat} {zs : List Nat} {q n f : Nat} (h : Han bs k zs q n f) : n ≤ mst bs.length k ∧ f ≤ k := by
  rcases h with ⟨_, rfl, rfl⟩ | ⟨_, j, _, _, h1, h2, _⟩
  · exact ⟨Nat.zero_le _, Nat.zero_le _⟩
  · exact ⟨by rw [← h2]; exact lcp_le _ _ _ _, by omega⟩
/-- a place that has more -/
theorem Han.more {bs : List Nat} {k : Nat} {zs : List Nat} {q n f : Nat} (h : Han bs k zs q n f) (hq : q < zs.length) (h3 : ∀ j, j < zs.length → 3 ≤ lcp bs (zs.getD j 0) k (mst bs.length k)) (hm : n < lcp bs (zs.getD (zs.length - 1 - q) 0) k (mst bs.length k)) :
    Han bs k zs (q + 1) (lcp bs (zs.getD (zs.length - 1 - q) 0) k (mst bs.length k)) (k - zs.getD (zs.length - 1 - q) 0) := by
  have hold : ∀ j', zs.length - q ≤ j' → j' < zs.length → lcp bs (zs.getD j' 0) k (mst bs.length k) ≤ n := by
    rcases h with ⟨h0, rfl, rfl⟩ | ⟨_, j, _, _, _, _, h1, _⟩
    · intro j' a b; omega
    · exact h1
  refine .inr ⟨h3 _ (by omega), zs.length - 1 - q, by omega, by omega, rfl, rfl, ?_, ?_⟩
  · intro j' a b
    by_cases e : j' = zs.length - 1 - q
    · rw [e]; exact Nat.le_refl _
    · have := hold j' (by omega) b; omega
  · intro j' a b
    have := hold j' (by omega) b; omega
/-- a place that has no more -/
theorem Han.less {bs : List Nat} {k : Nat} {zs : List Nat} {q n f : Nat} (h : Han bs k zs q n f) (hq : q < zs.length) (h3 : ∀ j, j < zs.length → 3 ≤ lcp bs (zs.getD j 0) k (mst bs.length k)) (hm : lcp bs (zs.getD (zs.length - 1 - q) 0) k (mst bs.length k) ≤ n) :
    Han bs k zs (q + 1) n f := by
  rcases h with ⟨h0, rfl, rfl⟩ | ⟨h0, j, a1, a2, a3, a4, a5, a6⟩
  · have := h3 (zs.length - 1 - q) (by omega); omega
  · refine .inr ⟨h0, j, by omega, a2, a3, a4, ?_, a6⟩
    intro j' b1 b2
    by_cases e : j' = zs.length - 1 - q
    · rw [e]; exact hm
    · exact a5 j' (by omega) b2
theorem Han.lng {bs : List Nat} {k n f q : Nat} (hk : 3 ≤ mst bs.length k) (h : Han bs k (plc bs k (key3 bs k)) q n f) (he : q = (plc bs k (key3 bs k)).length ∨ n = mst bs.length k) : lng bs k = (n, f) := by
  have hin : ∀ d, 1 ≤ d → d ≤ k → 3 ≤ lcp bs (k - d) k (mst bs.length k) → ∃ j, j < (plc bs k (key3 bs k)).length ∧ (plc bs k (key3 bs k)).getD j 0 = k - d := by
    intro d h1 h2 h3
    have : k - d ∈ plc bs k (key3 bs k) := plc_mem.2 ⟨by omega, (key3_lcp hk).2 h3⟩
    obtain ⟨j, hj, e⟩ := List.getElem_of_mem this
    exact ⟨j, hj, by simpa [List.getD, hj] using e⟩
  rcases h with ⟨h0, rfl, rfl⟩ | ⟨h0, j, a1, a2, a3, a4, a5, a6⟩
  · have hL : (plc bs k (key3 bs k)).length = 0 := by omega
    apply lng_none
    intro d h1 h2
    by_cases c : lcp bs (k - d) k (mst bs.length k) < 3
    · exact c
    · obtain ⟨j, hj, _⟩ := hin d h1 h2 (by omega)
      omega
  · obtain ⟨p1, p2⟩ := plc_at bs k (key3 bs k) a2
    have ef : k - f = (plc bs k (key3 bs k)).getD j 0 := by omega
    refine lng_eq h0 (by omega) (by omega) (by rw [ef]; exact a4) ?_ ?_
    · intro d h1 h2
      rcases he with e | e
      · by_cases c : lcp bs (k - d) k (mst bs.length k) < 3
        · omega
        · obtain ⟨j', hj', e'⟩ := hin d h1 h2 (by omega)
          have := a5 j' (by omega) hj'
          rw [e'] at this
          exact this
      · rw [e]; exact lcp_le _ _ _ _
    · intro d h1 h2
      by_cases c : lcp bs (k - d) k (mst bs.length k) < 3
      · omega
      · obtain ⟨j', hj', e'⟩ := hin d h1 (by omega) (by omega)
        have hjj : j < j' := by
          by_cases c1 : j' = j
          · rw [c1] at e'; omega
          · by_cases c2 : j' < j
            · have := plc_rise bs k (key3 bs k) a2 c2
              omega
            · omega
        have := a6 j' hjj hj'
        rw [e'] at this
        exact this

/-! tokens -/
def tkAt (bs : List Nat) (k : Nat) : Tk := if (lng bs k).1 = 0 then (bs.getD k 0, 0, 0) else if (lng bs k).1 < (lng bs (k + 1)).1 then (bs.getD k 0, 0, 0) else (0, ((lng bs k).1 : Int), ((lng bs k).2 : Int))
def tks (bs : List Nat) : Nat → Nat → List Tk
  | 0, _ => []
  | m + 1, k => if k < bs.length then tkAt bs k :: tks bs m (k + wid (tkAt bs k)) else []
def toks (bs : List Nat) : List Tk := tks bs bs.length 0
theorem tkAt_is (bs : List Nat) (k : Nat) (hk : k < bs.length) : (tkAt bs k = (bs.getD k 0, 0, 0) ∧ wid (tkAt bs k) = 1) ∨ (∃ n f, Lng bs k n f ∧ lng bs k = (n, f) ∧ tkAt bs k = (0, (n : Int), (f : Int)) ∧ wid (tkAt bs k) = n) := by
  unfold tkAt
  by_cases h : (lng bs k).1 = 0
  · rw [if_pos h]; exact .inl ⟨rfl, rfl⟩
  · rw [if_neg h]
    by_cases h2 : (lng bs k).1 < (lng bs (k + 1)).1
    · rw [if_pos h2]; exact .inl ⟨rfl, rfl⟩
    · rw [if_neg h2]
      rcases lng_is bs k with ⟨e, _⟩ | hL
      · rw [e] at h; exact absurd rfl h
      · refine .inr ⟨(lng bs k).1, (lng bs k).2, hL, rfl, rfl, ?_⟩
        unfold wid
        rw [if_neg (by simpa using h)]
        simp
theorem tkAt_wid (bs : List Nat) (k : Nat) (hk : k < bs.length) : 1 ≤ wid (tkAt bs k) ∧ k + wid (tkAt bs k) ≤ bs.length := by
  rcases tkAt_is bs k hk with ⟨_, e⟩ | ⟨n, f, hL, _, _, e⟩
  · omega
  · have := hL.le
    have := hL.three
    omega
theorem tkAt_right (bs : List Nat) (k : Nat) (hk : k < bs.length) : errOne (tkAt bs k) k = 0 := by
  apply errOne_of
  rcases tkAt_is bs k hk with ⟨e, _⟩ | ⟨n, f, hL, _, e, _⟩
  · rw [e]; exact .inl ⟨rfl, rfl⟩
  · rw [e]
    have := hL.le
    have := hL.three
    have := hL.one
    have := hL.ahead
    exact .inr ⟨rfl, by simp only; omega, by simp only; omega, by simp only; omega, by simp only; omega⟩
theorem copy_take {bs : List Nat} {k f : Nat} (hf1 : 1 ≤ f) (hfk : f ≤ k) : ∀ m j, k + (j + m) ≤ bs.length → (∀ i, i < j + m → bs.getD (k + i) 0 = bs.getD (k - f + i) 0) → copyN (bs.take (k + j)) f m = bs.take (k + (j + m))
  | 0, j, _, _ => rfl
  | m + 1, j, hl, h => by
    rw [copyN]
    have e1 : (bs.take (k + j)).length = k + j := by simp; omega
    have e2 : (bs.take (k + j)).getD ((bs.take (k + j)).length - f) 0 = bs.getD (k + j) 0 := by
      rw [e1, h j (by omega), show k + j - f = k - f + j by omega]
      simp [List.getD, show k - f + j < k + j by omega]
    have e3 : bs.take (k + j) ++ [bs.getD (k + j) 0] = bs.take (k + (j + 1)) := by
      rw [show k + (j + 1) = (k + j) + 1 by omega, List.take_succ_eq_append_getElem (by omega)]
      simp [List.getD, show k + j < bs.length by omega]
    rw [e2, e3, copy_take hf1 hfk m (j + 1) (by omega) (fun i hi => h i (by omega)), show j + 1 + m = j + (m + 1) by omega]
theorem putT_take (bs : List Nat) (k : Nat) (hk : k < bs.length) : putT (tkAt bs k) (bs.take k) = bs.take (k + wid (tkAt bs k)) := by
  unfold putT
  rcases tkAt_is bs k hk with ⟨e, e2⟩ | ⟨n, f, hL, _, e, e2⟩
  · rw [e2, e, if_pos rfl, List.take_succ_eq_append_getElem hk]
    simp [List.getD, hk]
  · have h3 := hL.three
    have hle := hL.le
    rw [e2, e, if_neg (by simp only; omega)]
    simp only [Int.toNat_natCast]
    have := copy_take (bs := bs) hL.one hL.ahead n 0 (by omega) (fun i hi => hL.same (by omega))
    simpa using this
theorem tks_done (bs : List Nat) (m k : Nat) (h : bs.length ≤ k) : tks bs m k = [] := by
  cases m with
  | zero => rfl
  | succ m => rw [tks, if_neg (by omega)]
theorem tks_step (bs : List Nat) (m k : Nat) (h : k < bs.length) (hm : bs.length ≤ k + m) : ∃ m', tks bs m k = tkAt bs k :: tks bs m' (k + wid (tkAt bs k)) ∧ bs.length ≤ k + wid (tkAt bs k) + m' := by
  cases m with
  | zero => omega
  | succ m =>
    have := tkAt_wid bs k h
    exact ⟨m, by rw [tks, if_pos h], by omega⟩
theorem tks_exp (bs : List Nat) : ∀ m k, k ≤ bs.length → bs.length ≤ k + m → expF (tks bs m k) (bs.take k) = bs
  | 0, k, h, h2 => by
    rw [tks, expF]
    exact List.take_of_length_le (by omega)
  | m + 1, k, h, h2 => by
    rw [tks]
    by_cases hk : k < bs.length
    · have := tkAt_wid bs k hk
      rw [if_pos hk, expF, putT_take bs k hk, tks_exp bs m _ (by omega) (by omega)]
    · rw [if_neg hk, expF]
      exact List.take_of_length_le (by omega)
theorem tks_chk (bs : List Nat) (h3 : bs.length ≤ 3000) : ∀ m k, k ≤ bs.length → chkF (tks bs m k) k = 0
  | 0, k, h => by rw [tks, chkF, if_neg (by omega)]
  | m + 1, k, h => by
    rw [tks]
    by_cases hk : k < bs.length
    · have := tkAt_wid bs k hk
      rw [if_pos hk, chkF, if_pos (tkAt_right bs k hk)]
      exact tks_chk bs h3 m _ (by omega)
    · rw [if_neg hk, chkF, if_neg (by omega)]
theorem tks_len (bs : List Nat) : ∀ m k, k ≤ bs.length → (tks bs m k).length + k ≤ bs.length
  | 0, k, h => by rw [tks]; simpa using h
  | m + 1, k, h => by
    rw [tks]
    by_cases hk : k < bs.length
    · have := tkAt_wid bs k hk
      rw [if_pos hk, List.length_cons]
      have := tks_len bs m _ this.2
      omega
    · rw [if_neg hk]; simpa using h
theorem toks_exp (bs : List Nat) : expF (toks bs) [] = bs := by
  have := tks_exp bs bs.length 0 (Nat.zero_le _) (by omega)
  simpa [toks] using this
theorem toks_len (bs : List Nat) : (toks bs).length ≤ bs.length := by
  have := tks_len bs bs.length 0 (Nat.zero_le _)
  unfold toks; omega
theorem toks_err (bs : List Nat) (h : bs.length ≤ 3000) : errT (toks bs) = 0 := by
  unfold errT
  have := toks_len bs
  rw [if_neg (by omega)]
  exact tks_chk bs h _ 0 (Nat.zero_le _)
/-- a byte that stands alone, or none ahead -/
theorem tkAt_lt {bs : List Nat} (hb : ∀ j, bs.getD j 0 < 256) (k : Nat) : (tkAt bs k).1 < 256 := by
  unfold tkAt
  split
  · exact hb k
  · split
    · exact hb k
    · show 0 < 256; omega
end Go.Proofs.Ytoiioemkibfdcac

/-
  What package weigh's functions are held against: plain lists of numbers. No program is named here.
-/
namespace Go.Proofs.Ytoiioemkibfdcac
open Go.RowKit
set_option linter.unusedVariables false

/-- the places that are wanted, of the first k -/
def wpl (l : List Int) : Nat → List Nat
  | 0 => []
  | k + 1 => wpl l k ++ (if 0 < l.getD k 0 then [k] else [])
theorem wpl_le (l : List Int) : ∀ k, (wpl l k).length ≤ k
  | 0 => by simp [wpl]
  | k + 1 => by
    have := wpl_le l k
    rw [wpl, List.length_append]
    split <;> simp <;> omega
theorem mem_wpl (l : List Int) (p : Nat) : ∀ k, p ∈ wpl l k ↔ p < k ∧ 0 < l.getD p 0
  | 0 => by simp [wpl]
  | k + 1 => by
    rw [wpl, List.mem_append, mem_wpl l p k]
    by_cases h : 0 < l.getD k 0
    · rw [if_pos h, List.mem_singleton]
      constructor
      · rintro (⟨h1, h2⟩ | rfl)
        · exact ⟨by omega, h2⟩
        · exact ⟨by omega, h⟩
      · rintro ⟨h1, h2⟩
        by_cases e : p = k
        · exact .inr e
        · exact .inl ⟨by omega, h2⟩
    · rw [if_neg h]
      constructor
      · rintro (⟨h1, h2⟩ | h1)
        · exact ⟨by omega, h2⟩
        · cases h1
      · rintro ⟨h1, h2⟩
        by_cases e : p = k
        · subst e; exact absurd h2 h
        · exact .inl ⟨by omega, h2⟩
theorem wpl_lt (l : List Int) (k : Nat) : ∀ p ∈ wpl l k, p < k := fun p h => ((mem_wpl l p k).1 h).1
theorem wpl_rise (l : List Int) : ∀ k, (wpl l k).Pairwise (· < ·)
  | 0 => .nil
  | k + 1 => by
    rw [wpl, List.pairwise_append]
    refine ⟨wpl_rise l k, by split <;> simp, fun a ha b hb => ?_⟩
    have := wpl_lt l k a ha
    split at hb
    · rw [List.mem_singleton] at hb; omega
    · cases hb

def okW (n : Int) : Bool := decide (0 ≤ n ∧ n ≤ 1000000)
theorem okW_true {n : Int} (h : okW n = true) : 0 ≤ n ∧ n ≤ 1000000 := of_decide_eq_true h
theorem okW_false {n : Int} (h : okW n = false) : ¬ (0 ≤ n ∧ n ≤ 1000000) := of_decide_eq_false h
/-- Lengths' error -/
def errW (l : List Int) (most : Int) : Int := if 288 < l.length then 2 else if ∃ j, j < l.length ∧ okW (l.getD j 0) = false then 3 else if ¬ (1 ≤ most ∧ most ≤ 15) then 3 else if 2 ^ most.toNat < (wpl l l.length).length then 11 else 0
/-- what no error says -/
structure GoodW (l : List Int) (m : Nat) : Prop where
  len : l.length ≤ 288
  ok : ∀ j, j < l.length → 0 ≤ l.getD j 0 ∧ l.getD j 0 ≤ 1000000
  lo : 1 ≤ m
  hi : m ≤ 15
  room : (wpl l l.length).length ≤ 2 ^ m
theorem errW_good {l : List Int} {most : Int} (h : errW l most = 0) : ∃ m : Nat, most = m ∧ GoodW l m := by
  unfold errW at h
  split at h
  · cases h
  · split at h
    · cases h
    · split at h
      · cases h
      · split at h
        · cases h
        · rename_i h1 h2 h3 h4
          have h3 := Decidable.not_not.1 h3
          obtain ⟨m, rfl⟩ := Int.eq_ofNat_of_zero_le (show 0 ≤ most by omega)
          refine ⟨m, rfl, by omega, fun j hj => ?_, by omega, by omega, by simpa using h4⟩
          cases e : okW (l.getD j 0) with
          | true => exact okW_true e
          | false => exact absurd ⟨j, hj, e⟩ h2
theorem good_errW {l : List Int} {m : Nat} (h : GoodW l m) : errW l m = 0 := by
  unfold errW
  have h1 := h.len
  have h2 := h.lo
  have h3 := h.hi
  have h4 := h.room
  rw [if_neg (by omega), if_neg, if_neg (by omega), if_neg (by simp; omega)]
  rintro ⟨j, hj, e⟩
  exact okW_false e (h.ok j hj)

/-- one step's row: places alone (true) and pairs (false), the lighter ahead, places first -/
def mrgAt (x : Int) (f : List Int → List (Int × Bool)) : List Int → List (Int × Bool)
  | [] => (x, true) :: f []
  | y :: ys => if x ≤ y then (x, true) :: f (y :: ys) else (y, false) :: mrgAt x f ys
def mrg : List Int → List Int → List (Int × Bool)
  | [] => fun ys => ys.map fun y => (y, false)
  | x :: xs => mrgAt x (mrg xs)
theorem mrg_nil (ys : List Int) : mrg [] ys = ys.map fun y => (y, false) := rfl
theorem mrg_one (x : Int) (xs : List Int) : mrg (x :: xs) [] = (x, true) :: mrg xs [] := rfl
theorem mrg_two (x : Int) (xs : List Int) (y : Int) (ys : List Int) : mrg (x :: xs) (y :: ys) = if x ≤ y then (x, true) :: mrg xs (y :: ys) else (y, false) :: mrg (x :: xs) ys := rfl
/-- each two together -/
def prs : List Int → List Int
  | a :: b :: t => (a + b) :: prs t
  | _ => []
def rowAt (W : List Int) : Nat → List (Int × Bool)
  | 0 => mrg W []
  | k + 1 => mrg W (prs ((rowAt W k).map Prod.fst))
/-- how many of the first t are places -/
def alone (r : List (Int × Bool)) (t : Nat) : Nat := ((r.take t).filter Prod.snd).length
/-- how many are taken in round i, of so many at the first -/
def takeAt (W : List Int) (most : Nat) : Nat → Nat
  | 0 => 2 * (W.length - 1)
  | i + 1 => 2 * (takeAt W most i - alone (rowAt W (most - 1 - i)) (takeAt W most i))
def aloneAt (W : List Int) (most i : Nat) : Nat := alone (rowAt W (most - 1 - i)) (takeAt W most i)
/-- one bit more for each of these places -/
def bump (xs : List Int) (p : Nat) : List Int := xs.set p (xs.getD p 0 + 1)
def bumps (xs : List Int) (ps : List Nat) : List Int := ps.foldl bump xs
def lensAt (n : Nat) (P : List Nat) (W : List Int) (most : Nat) : Nat → List Int
  | 0 => List.replicate n 0
  | i + 1 => bumps (lensAt n P W most i) (P.take (aloneAt W most i))
/-- the lengths, by the places that are wanted, the least first -/
def lensOf (l : List Int) (P : List Nat) (most : Nat) : List Int :=
  if P.length < 2 then bumps (List.replicate l.length 0) P else lensAt l.length P (P.map fun p => l.getD p 0) most most
/-- P is all that is wanted, the least first -/
structure RiseOf (l : List Int) (P : List Nat) : Prop where
  perm : P.Perm (wpl l l.length)
  srt : P.Pairwise fun a b => l.getD a 0 < l.getD b 0 ∨ (l.getD a 0 = l.getD b 0 ∧ a < b)
/-- what Lengths answers where there is no error -/
def IsLens (l : List Int) (most : Nat) (s : List Int) : Prop := ∃ P, RiseOf l P ∧ s = lensOf l P most
end Go.Proofs.Ytoiioemkibfdcac

/-
  Packing, of lists alone: what the tokens of a block are told by, how often each symbol is wanted, the lengths of the shortest codes, how they are told; the bits of a row of blocks.
-/
namespace Go.Proofs.Ytoiioemkibfdcac
set_option linter.unusedVariables false

/-- what a token is told by: a symbol, a symbol of how far, a number of so many bits -/
inductive It where
  | sym (k : Nat)
  | far (k : Nat)
  | rest (n s : Nat)
deriving DecidableEq

/-- how often n halves till it is one of the second group -/
def stepZ (g n : Nat) : Nat → Nat → Nat
  | 0, s => s
  | f + 1, s => if n / 2 ^ s < 2 * g then s else stepZ g n f (s + 1)
def stepS (g n : Nat) : Nat := stepZ g n 12 0
def stepK (g n : Nat) : Nat := g * stepS g n + n / 2 ^ stepS g n
def stepR (g n : Nat) : Nat := n % 2 ^ stepS g n
def manyI (n : Nat) : Nat × Nat × Nat := if n = 258 then (285, 0, 0) else (257 + stepK 4 (n - 3), stepR 4 (n - 3), stepS 4 (n - 3))
def farI (d : Nat) : Nat × Nat × Nat := (stepK 2 (d - 1), stepR 2 (d - 1), stepS 2 (d - 1))
def itOf (t : Tk) : List It :=
  if t.2.1 = 0 then [.sym t.1] else [.sym (manyI t.2.1.toNat).1, .rest (manyI t.2.1.toNat).2.1 (manyI t.2.1.toNat).2.2, .far (farI t.2.2.toNat).1, .rest (farI t.2.2.toNat).2.1 (farI t.2.2.toNat).2.2]
def itsF (ts : List Tk) : List It := ts.flatMap itOf
def itsOf (ts : List Tk) : List It := itsF ts ++ [.sym 256]

/-- their bits, by codes of these lengths -/
def putI (a b : List Int) : It → List Bool
  | .sym k => codeT a k
  | .far k => codeT b k
  | .rest n s => numBits n s
def putIs (a b : List Int) (is : List It) : List Bool := is.flatMap (putI a b)

/-- how often each is wanted -/
def symK (is : List It) : List Nat := is.filterMap (fun i => match i with | .sym k => some k | _ => none)
def farK (is : List It) : List Nat := is.filterMap (fun i => match i with | .far k => some k | _ => none)
def restN (is : List It) : List Nat := is.filterMap (fun i => match i with | .rest _ s => some s | _ => none)
def symC (is : List It) : List Int := bumps (List.replicate 286 0) (symK is)
def farC (is : List It) : List Int := bumps (List.replicate 30 0) (farK is)

/-- the shortest lengths -/
noncomputable def lensD (l : List Int) (m : Nat) : List Int := @Classical.epsilon (List Int) ⟨[]⟩ (fun s => IsLens l m s)
def trimF (l : List Int) (least : Nat) : Nat → Nat
  | 0 => 0
  | n + 1 => if least < n + 1 ∧ l.getD n 0 = 0 then trimF l least n else n + 1
def trimL (l : List Int) (least : Nat) : List Int := l.take (trimF l least l.length)

/-- by which symbols, with which rests, one length is told that stands so often -/
def runZ (x : Nat) : Nat → Nat → List (Nat × Nat × Nat)
  | 0, _ => []
  | f + 1, m => if m = 0 then [] else if m < 3 then (x, 0, 0) :: runZ x f (m - 1) else if 0 < x then (16, min m 6 - 3, 2) :: runZ x f (m - min m 6) else if m < 11 then (17, m - 3, 3) :: runZ x f 0 else (18, min m 138 - 11, 7) :: runZ x f (m - min m 138)
def runI (x m : Nat) : List (Nat × Nat × Nat) := if 0 < x then (x, 0, 0) :: runZ x m (m - 1) else runZ x m m
/-- how many at the front are x -/
def headN (x : Int) : List Int → Nat
  | [] => 0
  | y :: r => if y = x then headN x r + 1 else 0
def lenI : Nat → List Int → List (Nat × Nat × Nat)
  | 0, _ => []
  | f + 1, l => match l with
    | [] => []
    | x :: r => runI x.toNat (headN x r + 1) ++ lenI f (r.drop (headN x r))
def lenIs (l : List Int) : List (Nat × Nat × Nat) := lenI l.length l
def runC (is : List (Nat × Nat × Nat)) : List Int := bumps (List.replicate 19 0) (is.map Prod.fst)
def putR (own : List Int) (i : Nat × Nat × Nat) : List Bool := codeT own i.1 ++ numBits i.2.1 i.2.2
def putRs (own : List Int) (is : List (Nat × Nat × Nat)) : List Bool := is.flatMap (putR own)
/-- how many lengths of the code of lengths are told -/
def ownN (own : List Int) : Nat → Nat
  | 0 => 0
  | n + 1 => if 4 < n + 1 ∧ own.getD (ord19.getD n 0) 0 = 0 then ownN own n else n + 1
noncomputable def ownD (all : List Int) : List Int := lensD (runC (lenIs all)) 7
def headB (a b own : List Int) : List Bool :=
  numBits (a.length - 257) 5 ++ (numBits (b.length - 1) 5 ++ (numBits (ownN own 19 - 4) 4 ++ ((ord19.take (ownN own 19)).flatMap (fun k => numBits (own.getD k 0).toNat 3) ++ putRs own (lenIs (a ++ b)))))
noncomputable def symD (ts : List Tk) : List Int := trimL (lensD (symC (itsOf ts)) 15) 257
noncomputable def farD (ts : List Tk) : List Int := trimL (lensD (farC (itsOf ts)) 15) 1
/-- tokens, and the codes by which they are told, told ahead -/
noncomputable def planB (a b : List Int) (ts : List Tk) : List Bool := headB a b (ownD (a ++ b)) ++ putIs a b (itsOf ts)
/-- a code in which all bytes but one have 8 bits -/
def evenA : List Int := List.replicate 255 8 ++ [9, 9]
def evenB : List Int := [0]
def evenT (bs : List Nat) : List Tk := bs.map (fun b => (b, 0, 0))
open Classical in
noncomputable def dynB (bs : List Nat) : List Bool :=
  if (planB evenA evenB (evenT bs)).length < (planB (symD (toks bs)) (farD (toks bs)) (toks bs)).length then planB evenA evenB (evenT bs) else planB (symD (toks bs)) (farD (toks bs)) (toks bs)
def fixBits (ts : List Tk) : List Bool := putIs fixA fixB (itsOf ts)
/-- how many bits are free in the last byte -/
def freeN (n : Nat) : Nat := (8 - n % 8) % 8
def storB (S : List Bool) (bs : List Nat) : List Bool :=
  S ++ List.replicate (freeN S.length) false ++ numBits bs.length 16 ++ numBits (65535 - bs.length) 16 ++ rowB bs bs.length
/-- the row S, and a block behind it -/
noncomputable def blkB (S : List Bool) (bs : List Nat) (kind : Nat) (last : Bool) : List Bool :=
  if kind = 0 then storB (S ++ [last] ++ numBits kind 2) bs
  else if kind = 1 then S ++ [last] ++ numBits kind 2 ++ fixBits (toks bs)
  else S ++ [last] ++ numBits kind 2 ++ dynB bs
noncomputable def packF : List (List Nat × Nat) → List Bool → List Bool
  | [], S => S
  | (bs, k) :: r, S => packF r (blkB S bs k (decide (r = [])))
def padB (S : List Bool) : List Bool := S ++ List.replicate (freeN S.length) false
end Go.Proofs.Ytoiioemkibfdcac

/-
  Plain facts for the library's stable sort: blocks that are sorted, and that are merged two and two. No program is named here.
-/
namespace Go.Proofs.Ytoiioemkibfdcac
open Go.RowKit
set_option linter.unusedVariables false

/-- what stands ahead of c came earlier than what stands from c on -/
def CutAt (d : Nat → Int × Int) (n c : Nat) : Prop := ∀ i j, i < c → c ≤ j → j < n → (d i).2 < (d j).2
theorem CutAt.moved {d d' : Nat → Int × Int} {n c p q : Nat} (h : CutAt d n c) (hm : Stab.Moved p q d d') (hq : q ≤ n) (hc : c ≤ p ∨ q ≤ c) : CutAt d' n c := by
  intro i j hi hj hn
  have hi' : ∃ i', i' < c ∧ d i' = d' i := by
    by_cases e : p ≤ i ∧ i < q
    · obtain ⟨k, k1, k2, k3⟩ := hm.mem e.1 e.2
      exact ⟨k, by omega, k3⟩
    · exact ⟨i, hi, (hm.out i (by omega)).symm⟩
  have hj' : ∃ j', c ≤ j' ∧ j' < n ∧ d j' = d' j := by
    by_cases e : p ≤ j ∧ j < q
    · obtain ⟨k, k1, k2, k3⟩ := hm.mem e.1 e.2
      exact ⟨k, by omega, by omega, k3⟩
    · exact ⟨j, hj, hn, (hm.out j (by omega)).symm⟩
  obtain ⟨i', h1, h2⟩ := hi'
  obtain ⟨j', h3, h4, h5⟩ := hj'
  rw [← h2, ← h5]
  exact h i' j' h1 h3 h4

/-- the places rise from a to b -/
def Rise (d : Nat → Int × Int) (a b : Nat) : Prop := ∀ i j, a ≤ i → i < j → j < b → (d i).2 < (d j).2

/-- each block of B is sorted -/
def Blocks (d : Nat → Int × Int) (n B : Nat) : Prop := ∀ s, Stab.Srt Stab.lx d (s * B) (min (s * B + B) n)
def Cuts (d : Nat → Int × Int) (n B : Nat) : Prop := ∀ s, CutAt d n (s * B)
/-- the first t blocks of X are sorted, the rest is as it was -/
structure Part (d dk : Nat → Int × Int) (n X t : Nat) : Prop where
  srt : ∀ s, s < t → Stab.Srt Stab.lx d (s * X) (s * X + X)
  rest : ∀ k, t * X ≤ k → d k = dk k
  cuts : Cuts d n X
theorem blk_lt {s t : Nat} (X : Nat) (h : s < t) : s * X + X ≤ t * X := by
  have := Nat.mul_le_mul_right X (show s + 1 ≤ t from h)
  rwa [Nat.succ_mul] at this
theorem blk_le {s t : Nat} (X : Nat) (h : s ≤ t) : s * X ≤ t * X := Nat.mul_le_mul_right X h
theorem cut_ways (s t X n : Nat) : s * X ≤ t * X ∨ t * X + X ≤ s * X := by
  by_cases h : s ≤ t
  · exact .inl (blk_le X h)
  · exact .inr (blk_lt X (by omega))
theorem Part.step {d dk d' : Nat → Int × Int} {n X t : Nat} (h : Part d dk n X t) (hn : t * X + X ≤ n) (hm : Stab.Moved (t * X) (t * X + X) d d') (hs : Stab.Srt Stab.lx d' (t * X) (t * X + X)) : Part d' dk n X (t + 1) := by
  refine ⟨fun s hst => ?_, fun k hk => ?_, fun s => (h.cuts s).moved hm hn (cut_ways s t X n)⟩
  · by_cases e : s = t
    · subst e; exact hs
    · have := blk_lt X (show s < t by omega)
      exact (h.srt s (by omega)).congr (fun k h1 h2 => hm.out k (by omega))
  · rw [Nat.succ_mul] at hk
    rw [hm.out k (by omega)]
    exact h.rest k (by omega)
theorem Part.last {d dk d' : Nat → Int × Int} {n X t : Nat} (h : Part d dk n X t) (h1 : t * X ≤ n) (h2 : n ≤ t * X + X) (hm : Stab.Moved (t * X) n d d') (hs : Stab.Srt Stab.lx d' (t * X) n) : Blocks d' n X ∧ Cuts d' n X := by
  refine ⟨fun s => ?_, fun s => ?_⟩
  · rcases Nat.lt_trichotomy s t with e | e | e
    · have := blk_lt X e
      rw [Nat.min_eq_left (by omega)]
      exact (h.srt s e).congr (fun k h1 h2 => hm.out k (by omega))
    · subst e
      rw [Nat.min_eq_right h2]
      exact hs
    · have := blk_lt X e
      intro i j hi hij hj
      have : j < n := Nat.lt_of_lt_of_le hj (Nat.min_le_right _ _)
      omega
  · rcases cut_ways s t X n with e | e
    · exact (h.cuts s).moved hm (Nat.le_refl _) (.inl e)
    · exact (h.cuts s).moved hm (Nat.le_refl _) (.inr (by omega))
/-- two blocks that are to be merged -/
theorem two_runs {d dk : Nat → Int × Int} {n B t e : Nat} (hb : Blocks dk n B) (hc : Cuts dk n B) (hr : ∀ k, t * (2 * B) ≤ k → d k = dk k) (h1 : t * (2 * B) + B < e) (h2 : e ≤ t * (2 * B) + 2 * B) (h3 : e ≤ n) (h4 : e = n ∨ e = t * (2 * B) + 2 * B) :
    Stab.Srt Stab.lx d (t * (2 * B)) (t * (2 * B) + B) ∧ Stab.Srt Stab.lx d (t * (2 * B) + B) e ∧ Stab.Cross d (t * (2 * B)) (t * (2 * B) + B) e := by
  have e1 : (2 * t) * B = t * (2 * B) := by rw [Nat.mul_comm 2 t, Nat.mul_assoc]
  have e2 : (2 * t + 1) * B = t * (2 * B) + B := by rw [Nat.succ_mul, e1]
  have b1 := hb (2 * t)
  have b2 := hb (2 * t + 1)
  have c := hc (2 * t + 1)
  rw [e1, Nat.min_eq_left (by omega)] at b1
  rw [e2] at b2 c
  generalize t * (2 * B) = a at *
  refine ⟨b1.congr (fun k h _ => hr k h), ?_, fun i j hi hi2 hj hj2 => ?_⟩
  · refine Stab.Srt.congr (d := dk) (b2.sub (Nat.le_refl _) ?_) (fun k h _ => hr k (by omega))
    rcases h4 with rfl | rfl
    · exact Nat.le_min.2 ⟨by omega, Nat.le_refl _⟩
    · exact Nat.le_min.2 ⟨by omega, h3⟩
  · rw [hr i hi, hr j (by omega)]
    exact c i j hi2 hj (by omega)
/-- one block that stands alone -/
theorem one_run {d dk : Nat → Int × Int} {n B t : Nat} (hb : Blocks dk n B) (hr : ∀ k, t * (2 * B) ≤ k → d k = dk k) (h : n ≤ t * (2 * B) + B) : Stab.Srt Stab.lx d (t * (2 * B)) n := by
  have e1 : (2 * t) * B = t * (2 * B) := by rw [Nat.mul_comm 2 t, Nat.mul_assoc]
  have b1 := hb (2 * t)
  rw [e1, Nat.min_eq_right h] at b1
  exact b1.congr (fun k h _ => hr k h)
theorem Cuts.double {d : Nat → Int × Int} {n B : Nat} (h : Cuts d n B) : Cuts d n (2 * B) := fun s => by
  have e : s * (2 * B) = (2 * s) * B := by rw [Nat.mul_comm 2 s, Nat.mul_assoc]
  rw [e]; exact h (2 * s)

end Go.Proofs.Ytoiioemkibfdcac

/-
  What lengths take: of lists alone.
-/
namespace Go.Proofs.Ytoiioemkibfdcac
open Go.RowKit
set_option linter.unusedVariables false
set_option maxRecDepth 100000

/-- what the first k lengths take -/
def roomN (l : List Int) : Nat → Nat
  | 0 => 0
  | k + 1 => roomN l k + (if 0 < l.getD k 0 then 2 ^ (15 - (l.getD k 0).toNat) else 0)
theorem roomN_le (l : List Int) : ∀ k, roomN l k ≤ 32768 * k
  | 0 => by simp [roomN]
  | k + 1 => by
    have ih := roomN_le l k
    have : 2 ^ (15 - (l.getD k 0).toNat) ≤ 32768 := by
      have := Nat.pow_le_pow_right (n := 2) (by decide) (show 15 - (l.getD k 0).toNat ≤ 15 by omega)
      omega
    rw [roomN]
    split <;> omega
theorem roomN_taken (l : List Int) (hok : ∀ j, j < l.length → 0 ≤ l.getD j 0 ∧ l.getD j 0 ≤ 15) : ∀ k, k ≤ l.length → roomN l k = takenN (cnt (l.take k)) 15
  | 0, _ => by
    show 0 = takenN (cnt []) 15
    decide
  | k + 1, hk => by
    have ih := roomN_taken l hok k (by omega)
    have hkl : k < l.length := by omega
    obtain ⟨m, hm⟩ := Int.eq_ofNat_of_zero_le (hok k hkl).1
    have h15 := (hok k hkl).2
    rw [roomN, ih, ← cnt_next l hkl hm, hm]
    rw [hm] at h15
    by_cases h0 : m = 0
    · subst h0
      rw [taken_upd0]; simp
    · rw [taken_upd _ m (by omega) (by omega) 15 (by omega), if_pos (show (0 : Int) < (m : Int) by omega), if_pos (by omega), Int.toNat_natCast]
end Go.Proofs.Ytoiioemkibfdcac

/-
  The bits of a code: the number turned round.
-/
namespace Go.Proofs.Ytoiioemkibfdcac
open Go.RowKit
set_option linter.unusedVariables false
set_option maxRecDepth 100000

/-- the bits of a number turned round are those of the number, the highest first -/
theorem numBits_turn : ∀ n c, numBits (turnL c n) n = hb c n := by
  intro n c
  apply List.ext_getElem
  · rw [numBits_length, hb_length]
  · intro i h1 h2
    rw [numBits_length] at h1
    have e1 : (numBits (turnL c n) n).getD i false = (numBits (turnL c n) n)[i]'(by rw [numBits_length]; exact h1) := by simp [List.getD, numBits_length, h1]
    rw [← e1, numBits_getD, decide_eq_true h1, Bool.true_and, turnL_bit, decide_eq_true h1, Bool.true_and]
    exact (hb_at n c i h1 h2).symm
where
  hb_at : ∀ n c i (h : i < n) (h2 : i < (hb c n).length), (hb c n)[i] = c.testBit (n - 1 - i)
  | 0, c, i, h, _ => by omega
  | n + 1, c, i, h, h2 => by
    by_cases e : i = n
    · subst e
      have : (hb c (i + 1))[i]'h2 = decide (c % 2 = 1) := by
        have hl := hb_length i (c / 2)
        simp only [hb]
        rw [List.getElem_append_right (by omega)]
        simp [hl]
      rw [this]
      rw [show i + 1 - 1 - i = 0 by omega, Nat.testBit_zero]
    · have hl := hb_length n (c / 2)
      have : (hb c (n + 1))[i]'h2 = (hb (c / 2) n)[i]'(by omega) := by
        simp only [hb]
        rw [List.getElem_append_left (by omega)]
      rw [this, hb_at n (c / 2) i (by omega) (by omega), show n + 1 - 1 - i = (n - 1 - i) + 1 by omega, Nat.testBit_succ]
end Go.Proofs.Ytoiioemkibfdcac
