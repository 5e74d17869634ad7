/-
  Rows that may be written, or none; what the library's slices.Max answers.
-/
import Derived.Test.YtmafecagcglaoabWeigh3
namespace Go.Proofs.Ytmafecagcglaoab
open Go.RowKit
set_option linter.unusedVariables false

/-- a row that may be written, or none -/
def WIn (w : World) (a : Option Addr) (l : List Int) : Prop := l = [] ∨ ∃ g, a = some ⟨g, 0, none⟩ ∧ WRow w g l
theorem WIn.row {w : World} {a : Option Addr} {l : List Int} (h : WIn w a l) : RowIn .i64 w a l := by
  rcases h with h | ⟨g, rfl, h⟩
  · exact .inl h
  · exact h.row
theorem WIn.below {w w' : World} {a : Option Addr} {l : List Int} (h : WIn w a l) (hB : Below w.heap.size w w') : WIn w' a l := by
  rcases h with h | ⟨g, rfl, h⟩
  · exact .inl h
  · exact .inr ⟨g, rfl, h.below hB h.lt⟩
theorem WIn.grown {w w' : World} {a : Option Addr} {l : List Int} {r : Option Nat} (h : WIn w a l) (hg : w.grownBy w' r) (hne : ∀ g, a = some ⟨g, 0, none⟩ → some g ≠ r) : WIn w' a l := by
  rcases h with h | ⟨g, rfl, h⟩
  · exact .inl h
  · exact .inr ⟨g, rfl, h.grown hg (hne g rfl)⟩
/-- a new row: it lies behind B -/
def NewAt (B : Nat) (a : Option Addr) : Prop := ∀ p, a = some p → B ≤ p.block

theorem RowIn.grown {w w' : World} {a : Option Addr} {l : List Int} {r : Option Nat} (h : RowIn .i64 w a l) (hg : w.grownBy w' r) (hne : ∀ p, a = some p → some p.block ≠ r) : RowIn .i64 w' a l := by
  rcases h with h | ⟨b, o, rfl, hb, h⟩
  · exact .inl h
  · exact .inr ⟨b, o, rfl, Nat.lt_of_lt_of_le hb hg.size, fun j hj => hg.cell (h j hj) (hne ⟨b, o, none⟩ rfl)⟩
/-- a row that lies below B stays where what lies from B on is written -/
theorem RowIn.keep {w w' : World} {a : Option Addr} {l : List Int} {r : Option Nat} {B : Nat} (h : RowIn .i64 w a l) (ha : ∀ p, a = some p → l = [] ∨ p.block < B) (hg : w.grownBy w' r) (hr : ∀ k, r = some k → B ≤ k) : RowIn .i64 w' a l := by
  by_cases h0 : l = []
  · exact .inl h0
  · refine h.grown hg (fun p hp e => ?_)
    have h1 := hr p.block e.symm
    rcases ha p hp with h2 | h2
    · exact h0 h2
    · omega
theorem WIn.keep {w w' : World} {a : Option Addr} {l : List Int} {r : Option Nat} {B : Nat} (h : WIn w a l) (ha : ∀ p, a = some p → l = [] ∨ p.block < B) (hg : w.grownBy w' r) (hr : ∀ k, r = some k → B ≤ k) : WIn w' a l := by
  rcases h with h | ⟨g, rfl, h⟩
  · exact .inl h
  · rcases ha _ rfl with h2 | h2
    · exact .inl h2
    · exact .inr ⟨g, rfl, h.grown hg (fun e => by have := hr g e.symm; simp only at h2; omega)⟩
theorem WIn.at_ {w : World} {a : Option Addr} {l : List Int} (h : WIn w a l) : ∀ p, a = some p → l = [] ∨ p.block < w.heap.size := by
  rcases h with h | ⟨g, rfl, h⟩
  · exact fun p _ => .inl h
  · intro p hp; cases hp; exact .inr h.lt
theorem RowIn.at_ {w : World} {a : Option Addr} {l : List Int} (h : RowIn .i64 w a l) : ∀ p, a = some p → l = [] ∨ p.block < w.heap.size := by
  rcases h with h | ⟨b, o, rfl, hb, _⟩
  · exact fun p _ => .inl h
  · intro p hp; cases hp; exact .inr hb
theorem NewAt.of {B : Nat} {a : Option Addr} (h : NewAt B a) : ∀ k, a.map (·.block) = some k → B ≤ k := by
  intro k hk
  cases e : a with
  | none => rw [e] at hk; cases hk
  | some p => rw [e] at hk; cases hk; exact h p e

set_option maxHeartbeats 1000000 in
theorem max_any (a : Option Addr) (len cap : Nat) (l : List Int) (w : World) (hl : l.length = len) (h1 : 1 ≤ len) (hM : len ≤ 9223372036854775807) (hR : RowIn .i64 w a l) :
    Calls Try.prog 22 #[.slice a len cap] w fun e w' => ∃ M, e = .returned (.int .i64 M) ∧ (∀ j, j < len → l.getD j 0 ≤ M) ∧ (∃ j, j < len ∧ l.getD j 0 = M) ∧ w' = w := by
  obtain ⟨b, o, rfl, hb, hRw⟩ : ∃ b o, a = some ⟨b, o, none⟩ ∧ b < w.heap.size ∧ Row .i64 w b o l := by
    rcases hR with rfl | h
    · simp at hl; omega
    · exact h
  have HR := hide hRw
  have c0 := hRw 0 (by omega)
  rw [Nat.add_zero] at c0
  have h1I : ¬ (len : Int) < 1 := by omega
  have hpos : (0 : Int) < (len : Int) := by omega
  have H0 : Hid (∃ x, l.getD 0 0 = x) := ⟨_, rfl⟩
  clear hR hRw
  go_enter Try.func22, Try.ntmps22
  go_wp2
  go_loop [3, 4] (fun vm vi => ∃ (k : Nat) (M : Int), 1 ≤ k ∧ k ≤ len ∧ vi = .int .i64 k ∧ vm = .int .i64 M ∧ (∀ j, j < k → l.getD j 0 ≤ M) ∧ (∃ j, j < len ∧ l.getD j 0 = M)) (fun _ vi => len - (intOf vi).toNat)
  case atStart => exact ⟨1, l.getD 0 0, Nat.le_refl _, h1, rfl, rfl, fun j hj => (by have e : j = 0 := (by omega); rw [e]; exact Int.le_refl _), 0, by omega, rfl⟩
  case round =>
    obtain ⟨k, M, hk1, hk, rfl, rfl, hA, hE⟩ := hrel
    have HA := hide hA
    have HE := hide hE
    clear hA hE
    by_cases hlt : k < len
    · have c1 := unhide HR k (by omega)
      obtain ⟨x, hx⟩ : ∃ x, l.getD k 0 = x := ⟨_, rfl⟩
      rw [hx] at c1
      have HX := hide hx
      clear hx
      by_cases hc : M < x
      · have hc2 : ¬ x ≤ M := by omega
        have hmx : max M x = x := by omega
        go_wp2
        go_round
        case rel => exact ⟨k + 1, x, by omega, by omega, by go_num, by simp, fun j hj => by
          by_cases e : j = k
          · rw [e, unhide HX]; exact Int.le_refl _
          · have := unhide HA j (by omega); omega, k, hlt, unhide HX⟩
        case measure => simp [intOf]; omega
      · have hmx : max M x = M := by omega
        go_wp2
        go_round
        case rel => exact ⟨k + 1, M, by omega, by omega, by go_num, by simp, fun j hj => by
          by_cases e : j = k
          · rw [e, unhide HX]; omega
          · exact unhide HA j (by omega), unhide HE⟩
        case measure => simp [intOf]; omega
    · obtain rfl : k = len := by omega
      go_wp2
      go_ret
      exact ⟨M, rfl, unhide HA, unhide HE, rfl⟩
end Go.Proofs.Ytmafecagcglaoab
