/-
  The library's bytes.HasPrefix, where it answers no; the walk of the law MatchNear.
-/
import Derived.Test.YtmafecagcglaoahMatched
import Derived.Test.YtmafecagcglaoahLongest1
namespace Go.Proofs.Ytmafecagcglaoah
open Go.RowKit
set_option linter.unusedVariables false
set_option maxRecDepth 100000

theorem hasPrefix_no (b o1 l1 c1 o2 m c2 : Nat) (xs ys : List Nat) (w : World) (hb : b < w.heap.size) (hx : xs.length = m) (hy : ys.length = m) (hm : m ≤ l1) (hc : l1 ≤ c1) (h3 : l1 ≤ 3000) (h1 : Bytes w b o1 xs) (h2 : Bytes w b o2 ys) (hx2 : ∀ j, xs.getD j 0 < 256) (hy2 : ∀ j, ys.getD j 0 < 256) (hne : xs ≠ ys) :
    Calls Try.prog 19 #[.slice (some ⟨b, o1, none⟩) l1 c1, .slice (some ⟨b, o2, none⟩) m c2] w fun e w' => e = .returned (.bool false) ∧ w' = w := by
  have HQ := hide (bequal_in (some ⟨b, o1, none⟩) (some ⟨b, o2, none⟩) m c1 m c2 xs ys w hx hy hx2 hy2 (.inr ⟨b, o1, rfl, hb, h1⟩) (.inr ⟨b, o2, rfl, hb, h2⟩))
  have he : (xs == ys) = false := by rw [beq_eq_false_iff_ne]; exact hne
  rw [he] at HQ
  clear h1 h2 hx2 hy2 hne he
  go_enter Try.func19, Try.ntmps19
  go_wp2_with fail
  refine (unhide HQ).mono ?_
  rintro e w' ⟨rfl, rfl⟩
  go_wp2
  go_ret
  exact ⟨rfl, rfl⟩

theorem tks_nil {bs : List Nat} {fuel pos : Nat} (h : tks bs fuel pos = []) (hf : bs.length ≤ pos + fuel) : bs.length ≤ pos := by
  by_cases c : pos < bs.length
  · obtain ⟨f', e, _⟩ := tks_step bs fuel pos c hf
    rw [e] at h; cases h
  · omega
theorem near_step {bs : List Nat} {T : List Tk} {i pos fuel : Nat} (hd : T.drop i = tks bs fuel pos) (hf : bs.length ≤ pos + fuel) (hi : i < T.length) :
    pos < bs.length ∧ T.getD i (0, 0, 0) = tkAt bs pos ∧ ∃ fuel', T.drop (i + 1) = tks bs fuel' (pos + wid (tkAt bs pos)) ∧ bs.length ≤ pos + wid (tkAt bs pos) + fuel' := by
  rw [drop_at hi] at hd
  have hp : pos < bs.length := by
    by_cases c : pos < bs.length
    · exact c
    · rw [tks_done bs fuel pos (by omega)] at hd; cases hd
  obtain ⟨f', e, h⟩ := tks_step bs fuel pos hp hf
  rw [e] at hd
  obtain ⟨h1, h2⟩ := List.cons.inj hd
  exact ⟨hp, h1, f', h2, h⟩
theorem far_ne {bs : List Nat} {k n f d : Nat} (h : Lng bs k n f) (h1 : 1 ≤ d) (h2 : d < f) : (bs.drop (k - d)).take n ≠ (bs.drop k).take n := by
  intro e
  have hn := h.near d h1 h2
  have hle := h.le
  have ha := h.ahead
  have hM : n ≤ mst bs.length k := by unfold mst; omega
  have : n ≤ lcp bs (k - d) k (mst bs.length k) := by
    refine lcp_ge hM ?_
    intro j hj
    have := congrArg (fun l : List Nat => l[j]?) e
    simp only [List.getElem?_take, hj, if_true, List.getElem?_drop] at this
    simp only [List.getD, this]
  omega
theorem drop_take_getD (bs : List Nat) (p n j : Nat) (hj : j < n) : ((bs.drop p).take n).getD j 0 = bs.getD (p + j) 0 := by
  simp [List.getD, hj]
theorem Bytes.part {w : World} {b o : Nat} {bs : List Nat} (h : Bytes w b o bs) (p n : Nat) (hp : p + n ≤ bs.length) : Bytes w b (o + p) ((bs.drop p).take n) := by
  intro j hj
  have hj' : j < n := by simp at hj; omega
  rw [drop_take_getD bs p n j hj', Nat.add_assoc]
  exact h (p + j) (by omega)
theorem part_lt {bs : List Nat} (h : ∀ j, bs.getD j 0 < 256) (p n : Nat) : ∀ j, ((bs.drop p).take n).getD j 0 < 256 := by
  intro j
  by_cases hj : j < n
  · rw [drop_take_getD bs p n j hj]; exact h _
  · have : ((bs.drop p).take n).length ≤ j := by simp; omega
    rw [List.getD_eq_getElem?_getD, List.getElem?_eq_none this]; simp
theorem part_length {bs : List Nat} {p n : Nat} (h : p + n ≤ bs.length) : ((bs.drop p).take n).length = n := by simp; omega
end Go.Proofs.Ytmafecagcglaoah
