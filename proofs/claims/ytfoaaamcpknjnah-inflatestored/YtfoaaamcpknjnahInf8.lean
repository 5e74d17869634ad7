/-
  Package inflate: Unpack, whatever the blocks say.
-/
import Derived.Test.YtfoaaamcpknjnahInf7
namespace Go.Proofs.Ytfoaaamcpknjnah
open Go.RowKit
set_option linter.unusedVariables false
set_option maxRecDepth 100000

def US0 : US := { p := 0, out := [], ks := [], e := 0 }
theorem blocks_fn : ∀ (args : Array Value) (w : World), (callFunc 47 args).run Try.prog w = .ok (.enter 47 args) w := fun _ _ => by kernel_rfl

theorem unpack_any (a : Option Addr) (n cap : Nat) (bs : List Nat) (w : World) (hn : n ≤ 6000) (U : US) (hB : ∀ (No : Nat → Prop) (B b : Nat) (W : World), IIs No B W b (.slice a n cap) .nilFunc .nilFunc US0 → (∀ g, w.heap.size + 2 ≤ g → ¬ No g) → (∀ g, g < w.heap.size → No g) → W.heap.size = w.heap.size + 2 → B ≤ b → Below w.heap.size w W →
      Calls Try.prog 47 #[.pointer (some ⟨b, 0, none⟩)] W fun e w' => (U.e = 0 ∧ e = .returned (.tuple #[]) ∧ ∃ g1 g2, IUp No B W b (.slice a n cap) g1 g2 U w') ∨ (U.e ≠ 0 ∧ e = Flt U.e ∧ Below B W w' ∧ Kp No W w')) (hU : 0 ≤ U.e) (hUp : U.e = 0 → U.p ≤ 48000) :
    Calls Try.prog 22 #[.slice a n cap] w fun e w' => Below w.heap.size w w' ∧ ((U.e = 0 ∧ ∃ ov kv, e = .returned (.tuple #[ov, .int .i64 (((U.p + 7) / 8 : Nat) : Int), kv, .int .i64 0]) ∧ w'.ownsRow (w.heap.size + 1) 5 1 ov U.out.length (u8s U.out) ∧ w'.ownsRow (w.heap.size + 1) 3 1 kv U.ks.length (i64s U.ks)) ∨ (U.e ≠ 0 ∧ e = .returned (.tuple #[.slice none 0 0, .int .i64 0, .slice none 0 0, .int .i64 U.e]))) := by
  have hmf : ∀ (fn : Fn) (first cap : Array Value) (w : World), (Instr.makeFunc fn first cap).run Try.prog w = .ok (.func fn first cap) w := fun _ _ _ _ => rfl
  have HB := hide hB
  clear hB
  go_enter Try.func22, Try.ntmps22
  go_wp2_with fail
  obtain ⟨wA, hwA⟩ : ∃ wA, w.alloc (.cells #[.slice a n cap, .int .i64 0, .slice none 0 0, .slice none 0 0, .nilFunc, .nilFunc] 91) = wA := ⟨_, rfl⟩
  have hszA : wA.heap.size = w.heap.size + 1 := by rw [← hwA]; simp
  have hbA : wA.heap[w.heap.size]? = some (.cells (icells (.slice a n cap) .nilFunc .nilFunc US0 (.slice none 0 0) (.slice none 0 0)) 91 (0, 0)) := by rw [← hwA]; exact heap_alloc_new _ _
  have hBelA : Below w.heap.size w wA := by rw [← hwA]; exact (Below.refl _ _).alloc (Nat.le_refl _) _
  rw [hwA]
  clear hwA
  obtain ⟨No, hNo⟩ : ∃ No : Nat → Prop, No = fun g => g < w.heap.size ∨ g = w.heap.size + 1 := ⟨_, rfl⟩
  have hIs : IIs No w.heap.size (wA.alloc (.cells #[.int .i64 0] 24)) w.heap.size (.slice a n cap) .nilFunc .nilFunc US0 := by
    refine ⟨Nat.le_refl _, by rw [hNo]; omega, .slice none 0 0, .slice none 0 0, (Below.heap_alloc _ _ _ (by omega)).trans hbA, World.ownsRow_nil _ _ _ _, World.ownsRow_nil _ _ _ _, .inl rfl, ?_, ?_⟩ <;> (intro g e; simp [Value.ownBlock] at e)
  have hC := unhide HB No w.heap.size w.heap.size _ hIs (fun g hg => by rw [hNo]; omega) (fun g hg => by rw [hNo]; exact .inl hg) (by simp [hszA]) (Nat.le_refl _) (hBelA.alloc (by omega) _)
  have hCa := caught_any 47 #[.pointer (some ⟨w.heap.size, 0, none⟩)] (fun x w' => (x : Int) = U.e ∧ (U.e = 0 → ∃ g1 g2, IIs No w.heap.size w' w.heap.size (.slice a n cap) g1 g2 U) ∧ Below w.heap.size w w' ∧ w.heap.size + 2 ≤ w'.heap.size) wA blocks_fn (hC.mono (fun e w' hg => by
    have hbb : Below w.heap.size w (wA.alloc (.cells #[.int .i64 0] 24)) := hBelA.alloc (by omega) _
    have hblk : (wA.alloc (.cells #[.int .i64 0] 24)).heap[wA.heap.size]? = some (.cells #[.int .i64 0] 24 (0, 0)) := heap_alloc_new _ _
    have hNb : No wA.heap.size := by rw [hNo, hszA]; exact .inr rfl
    rcases hg with ⟨e0, rfl, g1, g2, hI⟩ | ⟨e0, rfl, hB, hK⟩
    · have hs := hI.below.size
      simp only [World.size_alloc] at hs
      exact ⟨⟨0, ⟨by rw [e0]; rfl, fun _ => ⟨g1, g2, hI.is⟩, hbb.trans hI.below, by omega⟩, .inl ⟨rfl, rfl⟩⟩, (hI.kp _ (by simp) hNb).trans hblk⟩
    · have hs := hB.size
      simp only [World.size_alloc] at hs
      have hx : ((U.e.toNat : Nat) : Int) = U.e := Int.toNat_of_nonneg hU
      exact ⟨⟨U.e.toNat, ⟨hx, fun h => absurd h e0, hbb.trans hB, by omega⟩, .inr ⟨by omega, by rw [hx]⟩⟩, (hK _ (by simp) hNb).trans hblk⟩))
  refine hCa.mono ?_
  rintro e w2 ⟨x, w1, ⟨hx, hI1, hB1, hs1⟩, rfl, hs2, hsame, hBl⟩
  have HB2 := hide (hB1.trans (hBl w.heap.size (by omega)))
  clear hCa hC hIs
  by_cases e0 : U.e = 0
  · obtain ⟨g1, g2, hI⟩ := hI1 e0
    have hUp := hUp e0
    have hx0 : x = 0 := by omega
    subst hx0
    obtain ⟨ov, kv, c2, c3, hh, hov, hkv, hap, hn1, hn2⟩ := hI.rows
    have hkeep : ∀ g, g < w1.heap.size → g ≠ w.heap.size + 1 → w2.heap[g]? = w1.heap[g]? := fun g h1 h2 => hsame g h1 (by rw [hszA]; exact h2)
    have hb2 := (hkeep w.heap.size (by omega) (by omega)).trans hh
    have hov2 := hide (own_kp hov (fun g hg => hkeep g (hov.lt g hg).2 (fun h => hn1 g hg (by rw [hNo, h]; exact .inr rfl))))
    have hkv2 := hide (own_kp hkv (fun g hg => hkeep g (hkv.lt g hg).2 (fun h => hn2 g hg (by rw [hNo, h]; exact .inr rfl))))
    have d1 : w2.cell? ⟨w.heap.size, 1, none⟩ = some (.int .i64 (U.p : Int)) := heap_row hb2
    have d2 : w2.cell? ⟨w.heap.size, 2, none⟩ = some ov := heap_row hb2
    have d3 : w2.cell? ⟨w.heap.size, 3, none⟩ = some kv := heap_row hb2
    clear hI hh hov hkv hap hn1 hn2 hb2 hkeep hsame hBl hI1 hB1 c2 c3 hx
    go_wp2
    go_quiet (fail)
    go_wp2
    refine bodyPost_ret (v := .tuple #[ov, .int .i64 (((U.p : Int) + 7) / 8), kv, .int .i64 0]) ?_ rfl ⟨below_drewN (unhide HB2) _, .inl ⟨e0, ov, kv, by rw [show (((U.p + 7) / 8 : Nat) : Int) = ((U.p : Int) + 7) / 8 by omega], own_kp (unhide hov2) (fun _ _ => rfl), own_kp (unhide hkv2) (fun _ _ => rfl)⟩⟩
    first | rfl | kernel_rfl
  · have hx0 : ((x : Int) == 0) = false := by rw [beq_eq_false_iff_ne]; omega
    have HX := hide hx
    clear hsame hBl hI1 hB1 hx
    go_wp2
    refine bodyPost_ret (v := .tuple #[.slice none 0 0, .int .i64 0, .slice none 0 0, .int .i64 (x : Int)]) ?_ rfl ⟨unhide HB2, .inr ⟨e0, by rw [unhide HX]⟩⟩
    first | rfl | kernel_rfl
end Go.Proofs.Ytfoaaamcpknjnah
