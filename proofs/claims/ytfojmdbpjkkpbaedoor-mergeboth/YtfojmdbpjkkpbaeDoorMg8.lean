/-
  Package merge: Both.
-/
import Derived.Test.YtfojmdbpjkkpbaeDoorMg7
namespace Go.Proofs.YtfojmdbpjkkpbaeDoor
open Go.RowKit
set_option linter.unusedVariables false
set_option maxRecDepth 100000

/-- what Both answers -/
def bothE (a b : List Fl) : Nat := if errE a b ≠ 0 then errE a b else if 12 < (tog a b).length then 11 else 0
def bothL (a b : List Fl) : List Fl := if bothE a b = 0 then tog a b else []
theorem bothE_bad {a b : List Fl} (h : errE a b ≠ 0) : bothE a b = errE a b := by unfold bothE; rw [if_pos h]
theorem bothE_full {a b : List Fl} (h : errE a b = 0) (h2 : 12 < (tog a b).length) : bothE a b = 11 := by unfold bothE; rw [if_neg (by simp [h]), if_pos h2]
theorem bothE_ok {a b : List Fl} (h : errE a b = 0) (h2 : ¬ 12 < (tog a b).length) : bothE a b = 0 := by unfold bothE; rw [if_neg (by simp [h]), if_neg h2]
theorem bothL_bad {a b : List Fl} (h : bothE a b ≠ 0) : bothL a b = [] := by unfold bothL; rw [if_neg h]
theorem bothL_ok {a b : List Fl} (h : bothE a b = 0) : bothL a b = tog a b := by unfold bothL; rw [if_pos h]
theorem errM_len {l : List Fl} (h : errM l = 0) : l.length ≤ 12 := by
  unfold errM at h
  split at h
  · omega
  · omega
/-- a list of files that a call answers -/
structure Ans (w w' : World) (v : Value) (l : List Fl) : Prop where
  ex : ∃ ad c out, v = .slice ad l.length c ∧ FsIn w' ad c out ∧ fls out = l
  bel : Below w.heap.size w w'
theorem Ans.nil {w w' : World} (h : Below w.heap.size w w') : Ans w w' (.slice none 0 0) [] := ⟨⟨none, 0, [], rfl, FsIn.nil _, rfl⟩, h⟩
theorem Ans.row {w w' : World} {B : Nat} {v : Value} {out : List Fv} (h : FRow w' B v out) (hl : out.length ≤ 1000) (hb : Below w.heap.size w w') : Ans w w' v (fls out) := by
  obtain ⟨ad, c, h1, h2⟩ := h.files (by omega)
  exact ⟨⟨ad, c, out, by rw [h1]; simp [fls], h2, rfl⟩, hb⟩

set_option maxHeartbeats 1000000 in
theorem both_any (ad bd : Option Addr) (c d : Nat) (xs ys : List Fv) (w : World) (h : FsIn w ad c xs) (k : FsIn w bd d ys) (n m : Nat) (hn : xs.length = n) (hm : ys.length = m) :
    Calls Tryd.prog 20 #[.slice ad n c, .slice bd m d] w fun e w' => ∃ v, e = .returned (.tuple #[v, .int .i64 (bothE (fls xs) (fls ys) : Nat)]) ∧ Ans w w' v (bothL (fls xs) (fls ys)) := by
  have HC := hide (checkEach_any ad bd c d xs ys w h k n m hn hm)
  by_cases he : errE (fls xs) (fls ys) = 0
  · have hz := errE_zero.1 he
    have hl1 := errM_len hz.1
    have hl2 := errM_len hz.2
    simp only [fls, List.length_map] at hl1 hl2
    have HT := hide (fun (W : World) (hW : Below w.heap.size w W) => together_any ad bd c d xs ys W (h.below hW (Nat.le_refl _)) (k.below hW (Nat.le_refl _)) n m hn hm (by omega))
    have HF := hide (@bothE_full (fls xs) (fls ys) he)
    have HO := hide (@bothE_ok (fls xs) (fls ys) he)
    have HLB := hide (@bothL_bad (fls xs) (fls ys))
    have HLO := hide (@bothL_ok (fls xs) (fls ys))
    rw [he] at HC
    have hlen : (tog (fls xs) (fls ys)).length ≤ 1000 ∨ True := .inr trivial
    clear h k hn hm he hz hl1 hl2 hlen
    go_enter Tryd.func20, Tryd.ntmps20
    go_wp2_with fail
    refine (unhide HC).mono ?_
    rintro e w1 ⟨rfl, hb1⟩
    have HB1 := hide hb1
    clear hb1
    go_wp2_with fail
    refine (unhide HT w1 (unhide HB1)).mono ?_
    rintro e w2 ⟨v, out, rfl, hrow, hout, hb2⟩
    have hvs : ∃ ad2 c2, v = .slice ad2 out.length c2 := by
      obtain ⟨a, c, e⟩ := own_slice' hrow.own
      exact ⟨a, c, e⟩
    obtain ⟨ad2, c2, rfl⟩ := hvs
    have HR := hide hrow
    have HOUT := hide hout
    have HB2 := hide ((unhide HB1).trans (hb2.mono (unhide HB1).size))
    have hll : out.length = (tog (fls xs) (fls ys)).length := by rw [← hout]; simp [fls]
    have HLL := hide hll
    obtain ⟨L, hL⟩ : ∃ L, out.length = L := ⟨_, rfl⟩
    have HL := hide hL
    rw [hL]
    clear hrow hout hb2 hll hL
    by_cases hfull : 12 < L
    · go_wp2
      go_ret2
      have e1 := unhide HF (by rw [← unhide HLL, unhide HL]; exact hfull)
      rw [unhide HLB (by rw [e1]; decide), e1]
      exact ⟨_, rfl, Ans.nil (unhide HB2)⟩
    · go_wp2
      go_ret2
      have e1 := unhide HO (by rw [← unhide HLL, unhide HL]; exact hfull)
      rw [unhide HLO e1, e1, ← unhide HOUT, ← unhide HL]
      exact ⟨_, rfl, Ans.row (unhide HR) (by rw [unhide HL]; omega) (unhide HB2)⟩
  · have e1 := bothE_bad he
    have e2 := bothL_bad (a := fls xs) (b := fls ys) (by rw [e1]; exact he)
    rw [e1, e2]
    clear e1 e2 h k
    generalize errE (fls xs) (fls ys) = E at *
    go_enter Tryd.func20, Tryd.ntmps20
    go_wp2_with fail
    refine (unhide HC).mono ?_
    rintro e w1 ⟨rfl, hb1⟩
    have HB1 := hide hb1
    clear hb1
    go_wp2
    go_ret2
    exact ⟨_, rfl, Ans.nil (unhide HB1)⟩
end Go.Proofs.YtfojmdbpjkkpbaeDoor
