/-
  Package inflate: a row of Stored blocks.
-/
import Derived.Test.YtfoaaamcpknjnahInf6
namespace Go.Proofs.Ytfoaaamcpknjnah
open Go.RowKit
set_option linter.unusedVariables false
set_option maxRecDepth 100000

/-- N blocks, all Stored, that are read without an error: us i is where the reader is behind i of them -/
structure Stos (row : List Bool) (N : Nat) (us : Nat → US) : Prop where
  step : ∀ i, i < N → ∃ (l : Nat) (v v2 : US), uget row 1 (us i) = (l, v) ∧ v.e = 0 ∧ uget row 2 v = (0, v2) ∧ v2.e = 0 ∧ (istored row v2).e = 0 ∧ us (i + 1) = ukept 0 (istored row v2) ∧ (l = 0 ↔ i + 1 < N)
  up : ∀ i, i < N → (us i).p < (us (i + 1)).p
  good : ∀ i, i ≤ N → (us i).p ≤ row.length ∧ (us i).e = 0 ∧ (us i).out.length ≤ 3000 ∧ (us i).ks.length ≤ 48000

/-- what is left of the bits, as the reader's place tells -/
def leftB (n b : Nat) (w : World) : Nat := 8 * n + 1 - ((w.cell? ⟨b, 1, none⟩).map (fun x => (intOf x).toNat)).getD 0
theorem leftB_is {No : Nat → Prop} {B b n : Nat} {w : World} {R f1 f2 : Value} {u : US} (h : IIs No B w b R f1 f2 u) : leftB n b w = 8 * n + 1 - u.p := by
  unfold leftB
  rw [h.cell.2.1]
  simp [intOf]

theorem blocksStored_any (No : Nat → Prop) (B b : Nat) (a : Option Addr) (n cap : Nat) (bs : List Nat) (f1 f2 : Value) (us : Nat → US) (N : Nat) (w : World) (h : IIs No B w b (.slice a n cap) f1 f2 (us 0)) (hR : Rd w No a n bs) (hN : 0 < N) (hS : Stos (rowB bs n) N us) (hNo : ∀ g, w.heap.size ≤ g → ¬ No g) (hbB : B ≤ b) :
    Calls Try.prog 47 #[.pointer (some ⟨b, 0, none⟩)] w fun e w' => e = .returned (.tuple #[]) ∧ IUp No B w b (.slice a n cap) f1 f2 (us N) w' := by
  have H := hide h
  have HR := hide hR
  have HS := hide hS
  have HNo := hide hNo
  clear h hR hS hNo
  go_enter Try.func47, Try.ntmps47
  go_wp2
  go_loopw [2] (fun v wr => ∃ i l : Nat, i ≤ N ∧ v = .int .i64 (l : Int) ∧ Hid (l = 0 ↔ i < N) ∧ Hid (IUp No B w b (.slice a n cap) f1 f2 (us i) wr)) (fun _ wr => leftB n b wr)
  case atStart => exact ⟨0, 0, Nat.zero_le _, rfl, hide ⟨fun _ => hN, fun _ => rfl⟩, hide (IUp.refl (unhide H))⟩
  case round =>
    obtain ⟨i, l, hi, rfl, hl, hI⟩ := hrel
    by_cases h0 : l = 0
    · subst h0
      have hlt : i < N := (unhide hl).1 rfl
      obtain ⟨l1, v, v2, hg1, e1, hg2, e2, e3, hnx, hl1⟩ := (unhide HS).step i hlt
      obtain ⟨g1, g2, g3, g4⟩ := (unhide HS).good i hi
      have hrl := rowB_length bs n
      rw [hrl] at g1
      have k1 : v.p ≤ 8 * n := by have := iget_p (rowB bs n) 1 (us i) (by rw [hrl]; exact g1); rw [hg1, hrl] at this; exact this
      have k2 : v2.p ≤ 8 * n := by have := iget_p (rowB bs n) 2 v (by rw [hrl]; exact k1); rw [hg2, hrl] at this; exact this
      have o1 : v.out = (us i).out := by have := iget_out (rowB bs n) 1 (us i); rw [hg1] at this; exact this
      have o2 : v2.out = (us i).out := by have := iget_out (rowB bs n) 2 v; rw [hg2] at this; exact this.trans o1
      have s1 : v.ks = (us i).ks := by have := iget_ks (rowB bs n) 1 (us i); rw [hg1] at this; exact this
      have s2 : v2.ks = (us i).ks := by have := iget_ks (rowB bs n) 2 v; rw [hg2] at this; exact this.trans s1
      rw [← o2] at g3
      rw [← s2] at g4
      have HG1 := hide hg1
      have HG2 := hide hg2
      have HX := hide hnx
      have HL1 := hide hl1
      clear hl hg1 hg2 hnx hl1 o1 o2 s1 s2 hrl
      go_wp2_with fail
      refine (number_any No B b a n cap 1 bs f1 f2 (us i) wr (unhide hI).is ((unhide HR).keep (unhide hI).below.size (unhide hI).kp) g1 g2 (by decide) l1 v HG1).mono ?_
      rintro e w1 hg
      rcases hg with ⟨_, rfl, hU⟩ | ⟨e0, _⟩
      rotate_left
      · exact absurd e1 e0
      have H1 := hide ((unhide hI).trans hU)
      clear hU
      go_wp2_with fail
      refine (number_any No B b a n cap 2 bs f1 f2 v w1 (unhide H1).is ((unhide HR).keep (unhide H1).below.size (unhide H1).kp) k1 e1 (by decide) 0 v2 HG2).mono ?_
      rintro e w2 hg
      rcases hg with ⟨_, rfl, hU⟩ | ⟨e0, _⟩
      rotate_left
      · exact absurd e2 e0
      have H2 := hide ((unhide H1).trans hU)
      clear hU
      go_wp2_with fail
      refine (blockStored_any No B b a n cap bs f1 f2 v2 w2 (unhide H2).is ((unhide HR).keep (unhide H2).below.size (unhide H2).kp) k2 e2 g3 g4 (fun g hg => unhide HNo g (by have := (unhide H2).below.size; omega)) hbB _ (hide rfl)).mono ?_
      rw [if_pos e3, ← unhide HX]
      rintro e w3 hg
      rcases hg with ⟨_, rfl, hU⟩ | ⟨e0, _⟩
      rotate_left
      · exact absurd ((unhide HS).good (i + 1) (by omega)).2.1 e0
      have H3 := hide ((unhide H2).trans hU)
      clear hU
      go_wp2
      go_roundw
      case rel => exact ⟨i + 1, l1, by omega, rfl, HL1, H3⟩
      case measure =>
        rw [leftB_is (unhide hI).is, leftB_is (unhide H3).is]
        have h1 := (unhide HS).up i hlt
        have h2 := ((unhide HS).good (i + 1) (by omega)).1
        rw [rowB_length] at h2
        omega
    · have hb : ((l : Int) == 0) = false := by rw [beq_eq_false_iff_ne]; omega
      have hiN : i = N := by
        by_cases e : i < N
        · exact absurd ((unhide hl).2 e) h0
        · omega
      subst hiN
      clear hl
      go_wp2
      go_end0
      exact ⟨rfl, unhide hI⟩
end Go.Proofs.Ytfoaaamcpknjnah
