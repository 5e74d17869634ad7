/-
  Small facts on memory that all walks of this seat share: what a new row of numbers holds, and that what is older than a call stays as it was.
-/
import Derived.Test.YtfoaaamcpknjnacRows
import Derived.WalkKit
import Derived.ProofKit
import Derived.OpenShut
import Derived.ShutString
import Derived.ChangeOld
import Derived.Below
import Derived.BigQuiet
import Derived.BigRegion
import Derived.Deep.QuietTactic
import Derived.WalkSpells
import Derived.WalkLawsBesides
namespace Go.Proofs.Ytfoaaamcpknjnac
open Go.RowKit

theorem own : ownKnob Try.prog.godebug = none := by kernel_rfl
theorem laidOut : laidOutB Try.prog = true := by kernel_rfl

/-- block b holds the numbers xs, one behind the other, from place o on -/
def Row (k : IntKind) (w : World) (b o : Nat) (xs : List Int) : Prop := ∀ j, j < xs.length → w.cell? ⟨b, o + j, none⟩ = some (.int k (xs.getD j 0))

theorem Row.new (k : IntKind) (w : World) (xs : List Int) (t : TypeId) (A : Array Value) (b : Nat) (hb : b = w.heap.size) (hA : A = (xs.map (Value.int k)).toArray) : Row k (w.alloc (.cells A t)) b 0 xs := by
  intro j hj
  rw [World.cell?_alloc_at _ _ _ _ hb, hA]
  simp [List.getD, hj]
theorem Row.alloc {k : IntKind} {w : World} {b o : Nat} {xs : List Int} (h : Row k w b o xs) (hb : b < w.heap.size) (x : Obj) : Row k (w.alloc x) b o xs := by
  intro j hj
  rw [World.cell?_alloc_past _ _ _ hb]; exact h j hj
theorem Row.below {k : IntKind} {w w' : World} {B b o : Nat} {xs : List Int} (h : Row k w b o xs) (hB : Below B w w') (hb : b < B) : Row k w' b o xs := by
  intro j hj
  rw [hB.cell (p := ⟨b, o + j, none⟩) hb]; exact h j hj
theorem Row.drewN {k : IntKind} {w : World} {b o : Nat} {xs : List Int} (h : Row k w b o xs) (n : Nat) : Row k (w.drewN n) b o xs := h
theorem Row.at {k : IntKind} {w : World} {b o : Nat} {xs : List Int} (h : Row k w b o xs) {j : Nat} (hj : j < xs.length) : w.cell? ⟨b, o + j, none⟩ = some (.int k (xs.getD j 0)) := h j hj
theorem Row.nil (k : IntKind) (w : World) (b o : Nat) : Row k w b o [] := fun j hj => by simp at hj

theorem bcell {W w1 : World} {B : Nat} (hb : Below B W w1) : (∀ b o, b < B → w1.cell? ⟨b, o, none⟩ = W.cell? ⟨b, o, none⟩) ∧ (∀ b o, b < B → w1.frozen? ⟨b, o, none⟩ = W.frozen? ⟨b, o, none⟩) :=
  ⟨fun b o h => hb.cell (p := ⟨b, o, none⟩) h, fun b o h => hb.frozen (p := ⟨b, o, none⟩) h⟩

theorem below_drewN {B : Nat} {a w : World} (h : Below B a w) (n : Nat) : Below B a (w.drewN n) := ⟨h.os, h.tape, h.output, h.size, h.block⟩

theorem hide {p : Prop} (h : p) : Hid p := h
theorem unhide {p : Prop} (h : Hid p) : p := h

theorem ret_bool {a b : Bool} (h : a = b) : Ending.returned (.bool a) = .returned (.bool b) := by rw [h]
theorem ret_int {k : IntKind} {a b : Int} (h : a = b) : Ending.returned (.int k a) = .returned (.int k b) := by rw [h]
end Go.Proofs.Ytfoaaamcpknjnac

/-
  Plain facts on rows whose elements change places: a range that is exchanged with another one, a row that is turned round a place, and when two sorted parts make a sorted whole. For the library's stable sort. No program is named here.
-/
namespace Go.Proofs.Ytfoaaamcpknjnac.Stab
open Go.RowKit
set_option linter.unusedVariables false
variable {α : Type}

/-- a row is told by its places: d k is what stands at place k -/
def swp (d : Nat → α) (i j : Nat) : Nat → α := fun k => if k = i then d j else if k = j then d i else d k
/-- n places from a on and n from b on exchanged, the first i of them so far -/
def swr (d : Nat → α) (a b : Nat) : Nat → Nat → α
  | 0 => d
  | i + 1 => swp (swr d a b i) (a + i) (b + i)
/-- what stood in [a, m) and what stood in [m, b) have changed places -/
def rot (d : Nat → α) (a m b : Nat) : Nat → α := fun k => if a ≤ k ∧ k < a + (b - m) then d (k + (m - a)) else if a + (b - m) ≤ k ∧ k < b then d (k - (b - m)) else d k

theorem swr_at (d : Nat → α) (a b : Nat) : ∀ n, (a + n ≤ b ∨ b + n ≤ a) → ∀ k, swr d a b n k = if a ≤ k ∧ k < a + n then d (b + (k - a)) else if b ≤ k ∧ k < b + n then d (a + (k - b)) else d k
  | 0, _, k => by
    rw [swr, if_neg (by omega), if_neg (by omega)]
  | n + 1, h, k => by
    have ih := swr_at d a b n (by omega)
    rw [swr, swp]
    by_cases h1 : k = a + n
    · rw [if_pos h1, if_pos (by omega), ih, if_neg (by omega), if_neg (by omega)]
      congr 1; omega
    · rw [if_neg h1]
      by_cases h2 : k = b + n
      · rw [if_pos h2, if_neg (by omega), if_pos (by omega), ih, if_neg (by omega), if_neg (by omega)]
        congr 1; omega
      · rw [if_neg h2, ih]
        by_cases h3 : a ≤ k ∧ k < a + n
        · rw [if_pos h3, if_pos (by omega)]
        · rw [if_neg h3]
          by_cases h4 : b ≤ k ∧ k < b + n
          · rw [if_pos h4, if_neg (by omega), if_pos (by omega)]
          · rw [if_neg h4, if_neg (by omega), if_neg (by omega)]

/-- the three steps of the turning -/
theorem rot_gt (d : Nat → α) (m i j : Nat) (h : j < i) (hm : i ≤ m) : rot (swr d (m - i) m j) (m - (i - j)) m (m + j) = rot d (m - i) m (m + j) := by
  funext k
  have hs := swr_at d (m - i) m j (by omega)
  unfold rot
  by_cases h1 : m - i ≤ k ∧ k < m - i + (m + j - m)
  · rw [if_pos h1, if_neg (by omega), if_neg (by omega), hs, if_pos (by omega)]
    congr 1; omega
  · rw [if_neg h1]
    by_cases h2 : m - (i - j) ≤ k ∧ k < m - (i - j) + (m + j - m)
    · rw [if_pos h2, hs, if_neg (by omega), if_pos (by omega), if_pos (by omega)]
      congr 1; omega
    · rw [if_neg h2]
      by_cases h3 : m - (i - j) + (m + j - m) ≤ k ∧ k < m + j
      · rw [if_pos h3, hs, if_neg (by omega), if_neg (by omega), if_pos (by omega)]
      · rw [if_neg h3, hs, if_neg (by omega), if_neg (by omega), if_neg (by omega)]
theorem rot_lt (d : Nat → α) (m i j : Nat) (h : i < j) (hm : i ≤ m) : rot (swr d (m - i) (m + j - i) i) (m - i) m (m + (j - i)) = rot d (m - i) m (m + j) := by
  funext k
  have hs := swr_at d (m - i) (m + j - i) i (by omega)
  unfold rot
  by_cases h1 : m - i ≤ k ∧ k < m - i + (m + (j - i) - m)
  · rw [if_pos h1, if_pos (by omega), hs, if_neg (by omega)]
    by_cases h2 : m + j - i ≤ k + (m - (m - i)) ∧ k + (m - (m - i)) < m + j - i + i
    · omega
    · rw [if_neg h2]
  · rw [if_neg h1]
    by_cases h3 : m - i + (m + (j - i) - m) ≤ k ∧ k < m + (j - i)
    · rw [if_pos h3, if_pos (by omega), hs, if_pos (by omega)]
      congr 1; omega
    · rw [if_neg h3, hs]
      by_cases h4 : m + j - i ≤ k ∧ k < m + j - i + i
      · rw [if_neg (by omega), if_pos h4, if_neg (by omega), if_pos (by omega)]
        congr 1; omega
      · rw [if_neg (by omega), if_neg h4, if_neg (by omega), if_neg (by omega)]
theorem rot_eq (d : Nat → α) (m i : Nat) (hm : i ≤ m) : swr d (m - i) m i = rot d (m - i) m (m + i) := by
  funext k
  rw [swr_at d (m - i) m i (by omega), rot]
  by_cases h1 : m - i ≤ k ∧ k < m - i + i
  · rw [if_pos h1, if_pos (by omega)]; congr 1; omega
  · rw [if_neg h1]
    by_cases h2 : m ≤ k ∧ k < m + i
    · rw [if_pos h2, if_neg (by omega), if_pos (by omega)]; congr 1; omega
    · rw [if_neg h2, if_neg (by omega), if_neg (by omega)]

/-- places a to b as a list -/
def seg (d : Nat → α) (a b : Nat) : List α := (List.range (b - a)).map fun i => d (a + i)
/-- d' is d but that in [a, b) things may have changed places -/
structure Moved (a b : Nat) (d d' : Nat → α) : Prop where
  out : ∀ k, ¬ (a ≤ k ∧ k < b) → d' k = d k
  perm : (seg d' a b).Perm (seg d a b)
theorem Moved.refl (a b : Nat) (d : Nat → α) : Moved a b d d := ⟨fun _ _ => rfl, List.Perm.refl _⟩
theorem Moved.trans {a b : Nat} {d d' d'' : Nat → α} (h : Moved a b d d') (k : Moved a b d' d'') : Moved a b d d'' :=
  ⟨fun i hi => (k.out i hi).trans (h.out i hi), k.perm.trans h.perm⟩
theorem seg_length (d : Nat → α) (a b : Nat) : (seg d a b).length = b - a := by simp [seg]
theorem seg_split (d : Nat → α) (a m b : Nat) (h1 : a ≤ m) (h2 : m ≤ b) : seg d a b = seg d a m ++ seg d m b := by
  apply List.ext_getElem
  · simp [seg]; omega
  · intro i h3 h4
    rw [List.getElem_append]
    simp only [seg, List.getElem_map, List.getElem_range, List.length_map, List.length_range]
    split
    · rfl
    · congr 1; omega
theorem seg_congr {d d' : Nat → α} {a b : Nat} (h : ∀ k, a ≤ k → k < b → d' k = d k) : seg d' a b = seg d a b := by
  apply List.ext_getElem (by simp [seg])
  intro i h1 h2
  have : i < b - a := by simpa [seg] using h1
  simp only [seg, List.getElem_map, List.getElem_range]
  exact h _ (by omega) (by omega)
theorem mem_seg {d : Nat → α} {a b : Nat} {x : α} : x ∈ seg d a b ↔ ∃ k, a ≤ k ∧ k < b ∧ d k = x := by
  simp only [seg, List.mem_map, List.mem_range]
  constructor
  · rintro ⟨i, hi, rfl⟩; exact ⟨a + i, by omega, by omega, rfl⟩
  · rintro ⟨k, h1, h2, rfl⟩; exact ⟨k - a, by omega, by congr 1; omega⟩
theorem Moved.mem {a b : Nat} {d d' : Nat → α} (h : Moved a b d d') {k : Nat} (h1 : a ≤ k) (h2 : k < b) : ∃ j, a ≤ j ∧ j < b ∧ d j = d' k := by
  have : d' k ∈ seg d' a b := mem_seg.2 ⟨k, h1, h2, rfl⟩
  exact mem_seg.1 (h.perm.mem_iff.1 this)
/-- a part that was moved, within a whole -/
theorem Moved.wider {a b a' b' : Nat} {d d' : Nat → α} (h : Moved a b d d') (h1 : a' ≤ a) (h2 : a ≤ b) (h3 : b ≤ b') : Moved a' b' d d' := by
  refine ⟨fun k hk => h.out k (by omega), ?_⟩
  rw [seg_split d' a' a b' h1 (by omega), seg_split d a' a b' h1 (by omega), seg_split d' a b b' h2 h3, seg_split d a b b' h2 h3]
  rw [seg_congr (d := d) (d' := d') (a := a') (b := a) (fun k _ hk => h.out k (by omega)), seg_congr (d := d) (d' := d') (a := b) (b := b') (fun k hk _ => h.out k (by omega))]
  exact (h.perm.append_right _).append_left _
theorem seg_rot (d : Nat → α) (a m b : Nat) (h1 : a ≤ m) (h2 : m ≤ b) : seg (rot d a m b) a b = seg d m b ++ seg d a m := by
  apply List.ext_getElem
  · simp [seg]; omega
  · intro i h3 h4
    have hi : i < b - a := by simpa [seg] using h3
    rw [List.getElem_append]
    simp only [seg, List.getElem_map, List.getElem_range, List.length_map, List.length_range, rot]
    by_cases h : i < b - m
    · rw [dif_pos h, if_pos (by omega)]; congr 1; omega
    · rw [dif_neg h, if_neg (by omega), if_pos (by omega)]; congr 1; omega
theorem moved_rot (d : Nat → α) (a m b : Nat) (h1 : a ≤ m) (h2 : m ≤ b) : Moved a b d (rot d a m b) := by
  refine ⟨fun k hk => ?_, ?_⟩
  · rw [rot, if_neg (by omega), if_neg (by omega)]
  · rw [seg_rot d a m b h1 h2, seg_split d a m b h1 h2]
    exact List.perm_append_comm
theorem rot_one (d : Nat → α) (i : Nat) : rot d i (i + 1) (i + 2) = swp d i (i + 1) := by
  funext k
  rw [rot, swp]
  by_cases h1 : k = i
  · rw [if_pos (by omega), if_pos h1]; congr 1; omega
  · rw [if_neg (by omega), if_neg h1]
    by_cases h2 : k = i + 1
    · rw [if_pos (by omega), if_pos h2]; congr 1; omega
    · rw [if_neg (by omega), if_neg h2]
theorem moved_swp (d : Nat → α) (i a b : Nat) (h1 : a ≤ i) (h2 : i + 2 ≤ b) : Moved a b d (swp d i (i + 1)) := by
  have := (moved_rot d i (i + 1) (i + 2) (by omega) (by omega)).wider h1 (by omega) h2
  rwa [rot_one] at this

variable (lt : α → α → Prop)
/-- sorted, each one below all that stand behind it -/
def Srt (d : Nat → α) (a b : Nat) : Prop := ∀ i j, a ≤ i → i < j → j < b → lt (d i) (d j)
theorem Srt.sub {lt : α → α → Prop} {d : Nat → α} {a b a' b' : Nat} (h : Srt lt d a b) (h1 : a ≤ a') (h2 : b' ≤ b) : Srt lt d a' b' := fun i j hi hij hj => h i j (by omega) hij (by omega)
theorem Srt.congr {lt : α → α → Prop} {d d' : Nat → α} {a b : Nat} (h : Srt lt d a b) (he : ∀ k, a ≤ k → k < b → d' k = d k) : Srt lt d' a b := fun i j hi hij hj => by
  rw [he i hi (by omega), he j (by omega) hj]; exact h i j hi hij hj
/-- two sorted parts, all of the first below all of the second -/
theorem Srt.join {lt : α → α → Prop} {d : Nat → α} {a m b : Nat} (h1 : Srt lt d a m) (h2 : Srt lt d m b) (h : ∀ i j, a ≤ i → i < m → m ≤ j → j < b → lt (d i) (d j)) : Srt lt d a b := by
  intro i j hi hij hj
  by_cases c1 : j < m
  · exact h1 i j hi hij c1
  · by_cases c2 : i < m
    · exact h i j hi c2 (by omega) hj
    · exact h2 i j (by omega) hij hj

/-- THE STEP OF THE MERGE. Both runs are sorted; start parts the first, stop (= mid + m - start) the second, so that what is ahead is below what is behind; both are turned round m: then, once both halves are sorted, the whole is. -/
theorem merge_step {lt : α → α → Prop} (tr : ∀ x y z, lt x y → lt y z → lt x z) {d d1 d2 : Nat → α} {a start m stop b mid : Nat} (h1 : a ≤ start) (h2 : start ≤ m) (h3 : m ≤ stop) (h4 : stop ≤ b) (hmid : mid + m = start + stop)
    (sL : Srt lt d a m) (sR : Srt lt d m b) (cL : a < start → stop < b → lt (d (start - 1)) (d stop)) (cR : start < m → m < stop → lt (d (stop - 1)) (d start))
    (m1 : Moved a mid (rot d start m stop) d1) (s1 : Srt lt d1 a mid) (m2 : Moved mid b d1 d2) (s2 : Srt lt d2 mid b) : Srt lt d2 a b ∧ Moved a b d d2 := by
  have hmm : start ≤ mid ∧ mid ≤ stop := by omega
  constructor
  · refine Srt.join (m := mid) (s1.congr fun k _ hk => m2.out k (by omega)) s2 ?_
    intro i j hi him hjm hj
    rw [m2.out i (by omega)]
    obtain ⟨p, hp1, hp2, hp⟩ := m1.mem hi him
    obtain ⟨q, hq1, hq2, hq⟩ := m2.mem hjm hj
    rw [← hp, ← hq, m1.out q (by omega)]
    -- p is of L1 or R1, q of L2 or R2
    have eP : rot d start m stop p = if p < start then d p else d (p + (m - start)) := by
      unfold rot
      by_cases c : p < start
      · rw [if_neg (by omega), if_neg (by omega), if_pos c]
      · rw [if_pos (by omega), if_neg c]
    have eQ : rot d start m stop q = if q < stop then d (q - (stop - m)) else d q := by
      unfold rot
      by_cases c : q < stop
      · rw [if_neg (by omega), if_pos (by omega), if_pos c]
      · rw [if_neg (by omega), if_neg (by omega), if_neg c]
    rw [eP, eQ]
    by_cases c1 : p < start
    · rw [if_pos c1]
      by_cases c2 : q < stop
      · rw [if_pos c2]; exact sL _ _ hp1 (by omega) (by omega)
      · rw [if_neg c2]
        have e1 : lt (d (start - 1)) (d stop) := cL (by omega) (by omega)
        have e2 : d p = d (start - 1) ∨ lt (d p) (d (start - 1)) := by
          by_cases c : p = start - 1
          · left; rw [c]
          · right; exact sL _ _ hp1 (by omega) (by omega)
        have e3 : d stop = d q ∨ lt (d stop) (d q) := by
          by_cases c : stop = q
          · left; rw [c]
          · right; exact sR _ _ (by omega) (by omega) (by omega)
        rcases e2 with e2 | e2 <;> rcases e3 with e3 | e3
        · rw [e2, ← e3]; exact e1
        · rw [e2]; exact tr _ _ _ e1 e3
        · rw [← e3]; exact tr _ _ _ e2 e1
        · exact tr _ _ _ e2 (tr _ _ _ e1 e3)
    · rw [if_neg c1]
      by_cases c2 : q < stop
      · rw [if_pos c2]
        have e1 : lt (d (stop - 1)) (d start) := cR (by omega) (by omega)
        have e2 : d (p + (m - start)) = d (stop - 1) ∨ lt (d (p + (m - start))) (d (stop - 1)) := by
          by_cases c : p + (m - start) = stop - 1
          · left; rw [c]
          · right; exact sR _ _ (by omega) (by omega) (by omega)
        have e3 : d start = d (q - (stop - m)) ∨ lt (d start) (d (q - (stop - m))) := by
          by_cases c : start = q - (stop - m)
          · left; rw [← c]
          · right; exact sL _ _ h1 (by omega) (by omega)
        rcases e2 with e2 | e2 <;> rcases e3 with e3 | e3
        · rw [e2, ← e3]; exact e1
        · rw [e2]; exact tr _ _ _ e1 e3
        · rw [← e3]; exact tr _ _ _ e2 e1
        · exact tr _ _ _ e2 (tr _ _ _ e1 e3)
      · rw [if_neg c2]; exact sR _ _ (by omega) (by omega) (by omega)
  · exact (((moved_rot d start m stop h2 h3).wider h1 (by omega) h4).trans (m1.wider (Nat.le_refl _) (by omega) (by omega))).trans (m2.wider (by omega) (by omega) (Nat.le_refl _))
end Go.Proofs.Ytfoaaamcpknjnac.Stab

/-
  Plain facts for the library's merge of two sorted runs: what is left to be shown of each of its steps. No program is named here.
-/
namespace Go.Proofs.Ytfoaaamcpknjnac.Stab
open Go.RowKit
set_option linter.unusedVariables false

/-- by the first number, and of one first number by the second -/
def lx (x y : Int × Int) : Prop := x.1 < y.1 ∨ (x.1 = y.1 ∧ x.2 < y.2)
theorem lx_trans (x y z : Int × Int) (h : lx x y) (k : lx y z) : lx x z := by unfold lx at *; omega
/-- all of the first run came ahead of all of the second -/
def Cross (d : Nat → Int × Int) (a m b : Nat) : Prop := ∀ i j, a ≤ i → i < m → m ≤ j → j < b → (d i).2 < (d j).2
theorem cross_less {x y : Int × Int} (h : x.2 < y.2) : (decide (y.1 < x.1) = true → lx y x) ∧ (decide (y.1 < x.1) = false → lx x y) := by
  unfold lx
  constructor
  · intro e; have := of_decide_eq_true e; omega
  · intro e; have := of_decide_eq_false e; omega

theorem rot_left (d : Nat → Int × Int) (m b : Nat) : rot d m m b = d := by
  funext k; unfold rot
  by_cases h : m ≤ k ∧ k < m + (b - m)
  · rw [if_pos h]; congr 1; omega
  · rw [if_neg h, if_neg (by omega)]
theorem rot_right (d : Nat → Int × Int) (a m : Nat) : rot d a m m = d := by
  funext k; unfold rot
  rw [if_neg (by omega)]
  by_cases h : a + (m - m) ≤ k ∧ k < m
  · rw [if_pos h]; congr 1; omega
  · rw [if_neg h]

/-- what the turning leaves: two pairs of runs -/
theorem merge_parts {d : Nat → Int × Int} {a start m stop b mid : Nat} (h1 : a ≤ start) (h2 : start ≤ m) (h3 : m ≤ stop) (h4 : stop ≤ b) (hmid : mid + m = start + stop) (sL : Srt lx d a m) (sR : Srt lx d m b) (hc : Cross d a m b) :
    (Srt lx (rot d start m stop) a start ∧ Srt lx (rot d start m stop) start mid ∧ Cross (rot d start m stop) a start mid) ∧ (Srt lx (rot d start m stop) mid stop ∧ Srt lx (rot d start m stop) stop b ∧ Cross (rot d start m stop) mid stop b) := by
  have e1 : ∀ k, k < start → rot d start m stop k = d k := fun k hk => by unfold rot; rw [if_neg (by omega), if_neg (by omega)]
  have e2 : ∀ k, start ≤ k → k < mid → rot d start m stop k = d (k + (m - start)) := fun k hk hk2 => by unfold rot; rw [if_pos (by omega)]
  have e3 : ∀ k, mid ≤ k → k < stop → rot d start m stop k = d (k - (stop - m)) := fun k hk hk2 => by unfold rot; rw [if_neg (by omega), if_pos (by omega)]
  have e4 : ∀ k, stop ≤ k → rot d start m stop k = d k := fun k hk => by unfold rot; rw [if_neg (by omega), if_neg (by omega)]
  refine ⟨⟨?_, ?_, ?_⟩, ?_, ?_, ?_⟩
  · intro i j hi hij hj; rw [e1 i (by omega), e1 j hj]; exact sL i j hi hij (by omega)
  · intro i j hi hij hj; rw [e2 i hi (by omega), e2 j (by omega) hj]; exact sR _ _ (by omega) (by omega) (by omega)
  · intro i j hi hi2 hj hj2; rw [e1 i hi2, e2 j hj hj2]; exact hc _ _ hi (by omega) (by omega) (by omega)
  · intro i j hi hij hj; rw [e3 i hi (by omega), e3 j (by omega) hj]; exact sL _ _ (by omega) (by omega) (by omega)
  · intro i j hi hij hj; rw [e4 i hi, e4 j (by omega)]; exact sR i j (by omega) hij hj
  · intro i j hi hi2 hj hj2; rw [e3 i hi hi2, e4 j hj]; exact hc _ _ (by omega) (by omega) (by omega) hj2
theorem Cross.congr {d d' : Nat → Int × Int} {a m b : Nat} (h : Cross d a m b) (he : ∀ k, a ≤ k → k < b → d' k = d k) : Cross d' a m b := fun i j hi hi2 hj hj2 => by
  rw [he i hi (by omega), he j (by omega) hj2]; exact h i j hi hi2 hj hj2

/-- one element ahead of a sorted run goes behind all that are below it -/
theorem ins_first {d : Nat → Int × Int} {a i b : Nat} (h1 : a < i) (h2 : i ≤ b) (sR : Srt lx d (a + 1) b) (hlo : a + 1 < i → lx (d (i - 1)) (d a)) (hhi : i < b → lx (d a) (d i)) : Srt lx (rot d a (a + 1) i) a b := by
  have e1 : ∀ k, a ≤ k → k < i - 1 → rot d a (a + 1) i k = d (k + 1) := fun k hk hk2 => by unfold rot; rw [if_pos (by omega)]; congr 1; omega
  have e2 : rot d a (a + 1) i (i - 1) = d a := by unfold rot; rw [if_neg (by omega), if_pos (by omega)]; congr 1; omega
  have e3 : ∀ k, i ≤ k → rot d a (a + 1) i k = d k := fun k hk => by unfold rot; rw [if_neg (by omega), if_neg (by omega)]
  have below : ∀ k, a + 1 ≤ k → k < i → lx (d k) (d a) := by
    intro k hk hk2
    by_cases c : k = i - 1
    · rw [c]; exact hlo (by omega)
    · exact lx_trans _ _ _ (sR k (i - 1) hk (by omega) (by omega)) (hlo (by omega))
  have above : ∀ k, i ≤ k → k < b → lx (d a) (d k) := by
    intro k hk hk2
    by_cases c : k = i
    · rw [c]; exact hhi (by omega)
    · exact lx_trans _ _ _ (hhi (by omega)) (sR i k (by omega) (by omega) hk2)
  intro p q hp hpq hq
  by_cases c1 : p < i - 1
  · rw [e1 p hp c1]
    by_cases c2 : q < i - 1
    · rw [e1 q (by omega) c2]; exact sR _ _ (by omega) (by omega) (by omega)
    · by_cases c3 : q = i - 1
      · rw [c3, e2]; exact below _ (by omega) (by omega)
      · rw [e3 q (by omega)]; exact sR _ _ (by omega) (by omega) hq
  · by_cases c2 : p = i - 1
    · rw [c2, e2, e3 q (by omega)]; exact above q (by omega) hq
    · rw [e3 p (by omega), e3 q (by omega)]; exact sR _ _ (by omega) hpq hq
/-- one element behind a sorted run goes ahead of all that are above it -/
theorem ins_last {d : Nat → Int × Int} {a i m : Nat} (h1 : a ≤ i) (h2 : i ≤ m) (sL : Srt lx d a m) (hlo : a < i → lx (d (i - 1)) (d m)) (hhi : i < m → lx (d m) (d i)) : Srt lx (rot d i m (m + 1)) a (m + 1) := by
  have e1 : ∀ k, k < i → rot d i m (m + 1) k = d k := fun k hk => by unfold rot; rw [if_neg (by omega), if_neg (by omega)]
  have e2 : rot d i m (m + 1) i = d m := by unfold rot; rw [if_pos (by omega)]; congr 1; omega
  have e3 : ∀ k, i < k → k ≤ m → rot d i m (m + 1) k = d (k - 1) := fun k hk hk2 => by unfold rot; rw [if_neg (by omega), if_pos (by omega)]; congr 1; omega
  have below : ∀ k, a ≤ k → k < i → lx (d k) (d m) := by
    intro k hk hk2
    by_cases c : k = i - 1
    · rw [c]; exact hlo (by omega)
    · exact lx_trans _ _ _ (sL k (i - 1) hk (by omega) (by omega)) (hlo (by omega))
  have above : ∀ k, i ≤ k → k < m → lx (d m) (d k) := by
    intro k hk hk2
    by_cases c : k = i
    · rw [c]; exact hhi (by omega)
    · exact lx_trans _ _ _ (hhi (by omega)) (sL i k h1 (by omega) hk2)
  intro p q hp hpq hq
  by_cases c1 : p < i
  · rw [e1 p c1]
    by_cases c2 : q < i
    · rw [e1 q c2]; exact sL _ _ hp hpq (by omega)
    · by_cases c3 : q = i
      · rw [c3, e2]; exact below p hp c1
      · rw [e3 q (by omega) (by omega)]; exact sL _ _ hp (by omega) (by omega)
  · by_cases c2 : p = i
    · rw [c2, e2, e3 q (by omega) (by omega)]; exact above _ (by omega) (by omega)
    · rw [e3 p (by omega) (by omega), e3 q (by omega) (by omega)]; exact sL _ _ (by omega) (by omega) (by omega)
/-- the exchanges that bring it there -/
theorem rot_up (d : Nat → Int × Int) (a k : Nat) (h : a ≤ k) : swp (rot d a (a + 1) (k + 1)) k (k + 1) = rot d a (a + 1) (k + 1 + 1) := by
  funext q; unfold swp rot
  by_cases c1 : q = k
  · rw [if_pos c1, if_neg (by omega), if_neg (by omega), if_pos (by omega)]; congr 1; omega
  · rw [if_neg c1]
    by_cases c2 : q = k + 1
    · rw [if_pos c2, if_neg (by omega), if_pos (by omega), if_neg (by omega), if_pos (by omega)]; congr 1; omega
    · rw [if_neg c2]
      by_cases c3 : a ≤ q ∧ q < k
      · rw [if_pos (by omega), if_pos (by omega)]
      · rw [if_neg (by omega), if_neg (by omega), if_neg (by omega), if_neg (by omega)]
theorem rot_down (d : Nat → Int × Int) (k m : Nat) (h0 : 0 < k) (h : k ≤ m) : swp (rot d k m (m + 1)) k (k - 1) = rot d (k - 1) m (m + 1) := by
  funext q; unfold swp rot
  by_cases c1 : q = k
  · rw [if_pos c1, if_neg (by omega), if_neg (by omega), if_neg (by omega), if_pos (by omega)]; congr 1; omega
  · rw [if_neg c1]
    by_cases c2 : q = k - 1
    · rw [if_pos c2, if_pos (by omega), if_pos (by omega)]; congr 1; omega
    · rw [if_neg c2]
      by_cases c3 : k < q ∧ q ≤ m
      · rw [if_neg (by omega), if_pos (by omega), if_neg (by omega), if_pos (by omega)]
      · rw [if_neg (by omega), if_neg (by omega), if_neg (by omega), if_neg (by omega)]
end Go.Proofs.Ytfoaaamcpknjnac.Stab
