/-
  Package name: Check and Under of any texts.
-/
import Derived.Test.YtblagchhjobefahDoorNmP
namespace Go.Proofs.YtblagchhjobefahDoor
open Go.RowKit
set_option linter.unusedVariables false
set_option maxRecDepth 100000

theorem check_any (s : List UInt8) (w : World) (hs : s.length ≤ maxLen) :
    Calls Tryd.prog 6 #[.string (B s)] w fun e w' => e = .returned (.int .i64 (errN s : Nat)) ∧ Below w.heap.size w w' := by
  have c := parts_any s w hs
  generalize B s = t at *
  go_enter Tryd.func6, Tryd.ntmps6
  go_wp2_with (go_at_call 8; refine c.mono ?_; rintro e w' ⟨v, rfl, _, hb, _⟩; have HB := hide hb; clear hb)
  go_ret
  exact ⟨rfl, unhide HB⟩

/-- what is wrong with two names, in order -/
def undE (s f : List UInt8) : Nat := if errN s ≠ 0 then errN s else errN f
def undB (s f : List UInt8) : Bool := if undE s f = 0 then under s f else false
theorem undE_fst {s f : List UInt8} (h : errN s ≠ 0) : undE s f = errN s := by unfold undE; rw [if_pos h]
theorem undE_snd {s f : List UInt8} (h : errN s = 0) : undE s f = errN f := by unfold undE; rw [if_neg (by simp [h])]
theorem undB_bad {s f : List UInt8} (h : undE s f ≠ 0) : undB s f = false := by unfold undB; rw [if_neg h]
theorem undB_ok {s f : List UInt8} (h : undE s f = 0) : undB s f = under s f := by unfold undB; rw [if_pos h]
theorem undE_zero {s f : List UInt8} : undE s f = 0 ↔ errN s = 0 ∧ errN f = 0 := by
  unfold undE
  split
  · rename_i h; simp [h]
  · rename_i h; simp at h; simp [h]

theorem idxT0 (a b : ByteArray) (W : World) : (Instr.index 27 (.agg #[.string a, .string b]) (.int .i64 0)).run Tryd.prog W = .ok (.string a) W := by kernel_rfl
theorem idxT1 (a b : ByteArray) (W : World) : (Instr.index 27 (.agg #[.string a, .string b]) (.int .i64 1)).run Tryd.prog W = .ok (.string b) W := by kernel_rfl

set_option maxHeartbeats 1000000 in
theorem under_any (s f : List UInt8) (w : World) (hs : s.length ≤ maxLen) (hf : f.length ≤ maxLen) :
    Calls Tryd.prog 4 #[.string (B s), .string (B f)] w fun e w' => e = .returned (.tuple #[.bool (undB s f), .int .i64 (undE s f : Nat)]) ∧ Below w.heap.size w w' := by
  have HS := hide (fun W => check_any s W hs)
  have HF := hide (fun W => check_any f W hf)
  have i0 := idxT0 (B s) (B f)
  have i1 := idxT1 (B s) (B f)
  have HP := hide (fun W => prefixS s (f ++ [47]) W)
  have HA : Hid (B f ++ ⟨#[47]⟩ = B (f ++ [47])) := B_app f [47]
  have HZ := hide (B_size f)
  generalize hS : B s = t at *
  generalize hF : B f = u at *
  have HS2 := hide hS
  have HF2 := hide hF
  clear hS hF
  go_enter Tryd.func4, Tryd.ntmps4
  go_wp2
  go_loopw [7, 8, 12] (fun _ _ i wr => ∃ k : Nat, k ≤ 2 ∧ i = .int .i64 k ∧ Hid (1 ≤ k → errN s = 0) ∧ Hid (2 ≤ k → errN f = 0) ∧ Hid (Below w.heap.size w wr)) (fun _ _ i _ => 2 - (intOf i).toNat)
  case atStart => exact ⟨0, Nat.zero_le _, rfl, fun h => absurd h (by omega), fun h => absurd h (by omega), Below.refl _ _⟩
  case round =>
    obtain ⟨k, hk, rfl, H1, H2, HB⟩ := hrel
    have hz := (unhide HB).size
    have hk3 : k = 0 ∨ k = 1 ∨ k = 2 := by omega
    clear hk
    rcases hk3 with rfl | rfl | rfl
    · have c := (unhide HS) wr
      by_cases he : errN s = 0
      · rw [he] at c
        have HE := hide he
        clear he
        go_wp2_with (go_at_call 6; refine c.mono ?_; rintro e w1 ⟨rfl, hb1⟩; have HB1 := hide ((unhide HB).trans (hb1.mono hz)); clear hb1)
        go_roundw
        case rel => exact ⟨1, by omega, rfl, fun _ => unhide HE, fun h => absurd h (by omega), unhide HB1⟩
        case measure => simp [intOf]
      · obtain ⟨n, hn⟩ : ∃ n, errN s = n := ⟨_, rfl⟩
        have HE : Hid (errN s = n) := hn
        rw [hn] at c he
        clear hn
        go_wp2_with (go_at_call 6; refine c.mono ?_; rintro e w1 ⟨rfl, hb1⟩; have HB1 := hide ((unhide HB).trans (hb1.mono hz)); clear hb1)
        go_ret2
        have h1 : undE s f = n := by rw [undE_fst (by rw [unhide HE]; exact he)]; exact unhide HE
        rw [undB_bad (by rw [h1]; exact he), h1]
        exact ⟨rfl, unhide HB1⟩
    · have c := (unhide HF) wr
      have HE0 := hide ((unhide H1) (Nat.le_refl _))
      by_cases he : errN f = 0
      · rw [he] at c
        have HE := hide he
        clear he
        go_wp2_with (go_at_call 6; refine c.mono ?_; rintro e w1 ⟨rfl, hb1⟩; have HB1 := hide ((unhide HB).trans (hb1.mono hz)); clear hb1)
        go_roundw
        case rel => exact ⟨2, by omega, rfl, fun _ => unhide HE0, fun _ => unhide HE, unhide HB1⟩
        case measure => simp [intOf]
      · obtain ⟨n, hn⟩ : ∃ n, errN f = n := ⟨_, rfl⟩
        have HE : Hid (errN f = n) := hn
        rw [hn] at c he
        clear hn
        go_wp2_with (go_at_call 6; refine c.mono ?_; rintro e w1 ⟨rfl, hb1⟩; have HB1 := hide ((unhide HB).trans (hb1.mono hz)); clear hb1)
        go_ret2
        have h1 : undE s f = n := by rw [undE_snd (unhide HE0)]; exact unhide HE
        rw [undB_bad (by rw [h1]; exact he), h1]
        exact ⟨rfl, unhide HB1⟩
    · have HE0 := hide ((unhide H1) (by omega))
      have HE1 := hide ((unhide H2) (by omega))
      have hfs : u.size ≤ 40 := by rw [unhide HZ]; exact (errN_ok (unhide HE1)).1
      go_wp2_with (go_at_call 7; rw [unhide HA]; refine ((unhide HP) _).mono ?_; rintro e w1 ⟨rfl, rfl⟩)
      go_ret2
      have h0 : undE s f = 0 := undE_zero.2 ⟨unhide HE0, unhide HE1⟩
      rw [undB_ok h0, h0]
      exact ⟨rfl, unhide HB⟩
end Go.Proofs.YtblagchhjobefahDoor
