/-
  sort.SliceStable over pairs, however many; strings.LastIndexByte; what sorted pairs say.
-/
import Derived.Test.YtmafecagcglaoaaSort6
import Derived.Test.YtmafecagcglaoaaCodesNum
import Derived.Test.YtmafecagcglaoaaRep
namespace Go.Proofs.Ytmafecagcglaoaa
open Go.RowKit Go.Lib
set_option linter.unusedVariables false
set_option maxRecDepth 100000

theorem insertion_small (f1 f2 : Value) (hf1 : f1.oneCell' = true) (hf2 : f2.oneCell' = true) (n : Nat) (hn : n ≤ 1) (w : World) :
    Calls Try.prog 73 #[.agg #[f1, f2], .int .i64 0, .int .i64 n] w fun e w' => e = .returned (.tuple #[]) ∧ w.grownBy w' none := by
  go_enter Try.func73, Try.ntmps73
  go_wp2
  go_loop [6] (fun vi => vi = .int .i64 1) (fun _ => 0)
  case atStart => exact rfl
  case round =>
    obtain rfl := hrel
    have h : ¬ (1 : Int) < (n : Int) := by omega
    go_wp2
    go_end0
    exact ⟨rfl, grown_alloc' (grown_refl' _ _) _⟩

theorem stable_small (lf sf : Fn) (la lb sa sb : Array Value) (n : Nat) (hn : n ≤ 1) (w : World) :
    Calls Try.prog 55 #[.agg #[.func lf la lb, .func sf sa sb], .int .i64 n] w fun e w' => e = .returned (.tuple #[]) ∧ w.grownBy w' none := by
  go_enter Try.func55, Try.ntmps55
  go_wp2
  go_loop [5, 6] (fun va vb => va = .int .i64 0 ∧ vb = .int .i64 20) (fun _ _ => 0)
  case atStart => exact ⟨rfl, rfl⟩
  case round =>
    obtain ⟨rfl, rfl⟩ := hrel
    have h : ¬ (20 : Int) ≤ (n : Int) := by omega
    have h2 : ¬ (20 : Int) < (n : Int) := by omega
    go_wp2_with fail
    refine (insertion_small _ _ rfl rfl n hn _).mono ?_
    rintro e w2 ⟨rfl, hg⟩
    have HG := hide (grown_trans' (grown_alloc' (grown_refl' w none) _) hg)
    clear hg
    go_wp2
    go_loop [4, 5, 6, 7] (fun vB _ _ _ => vB = .int .i64 20) (fun _ _ _ _ => 0)
    case atStart => exact rfl
    case round =>
      obtain rfl := hrel
      go_wp2
      go_end0
      exact ⟨rfl, unhide HG⟩

theorem swk (n : Nat) (ie : TypeInfo) (hp : ie.hasPointers = false) (hb : ie.bytes = 16) : swapperK n ie 25 = if n = 0 then 1 else if n = 1 then 2 else 9 := by
  unfold swapperK
  rw [hp, hb]
  by_cases h0 : n = 0
  · simp [h0]
  · by_cases h1 : n = 1
    · simp [h1]
    · simp [h0, h1]

/-- the pairs are sorted, whatever lies elsewhere is as it was -/
def SortedTo (N bp : Nat) (d : Nat → Int × Int) (w w' : World) : Prop := ∃ d', PS N bp d' w' ∧ Stab.Moved 0 N d d' ∧ Stab.Srt Stab.lx d' 0 N ∧ w.grownBy w' (some bp)

set_option maxHeartbeats 2000000 in
theorem sliceStable_any (N bp bx cap : Nat) (p : Option Addr) (d : Nat → Int × Int) (w : World) (hN : N ≤ 288) (hp : N = 0 ∨ p = some ⟨bp, 0, none⟩) (hbp : N = 0 ∨ bp < w.heap.size) (hbx : bx < w.heap.size) (hne : bx ≠ bp)
    (hbox : w.cell? ⟨bx, 0, none⟩ = some (.slice p N cap)) (hP : PS N bp d w) (hr : Rise d 0 N) :
    Calls Try.prog 45 #[.iface 80 (.slice p N cap), LF bx] w fun e w' => e = .returned (.tuple #[]) ∧ SortedTo N bp d w w' := by
  obtain ⟨ie, hie, hq⟩ := Option.map_eq_some_iff.1 infoPl
  have hq1 : ie.hasPointers = false := congrArg Prod.fst hq
  have hq2 : ie.bytes = 16 := congrArg Prod.snd hq
  have hk := swk N ie hq1 hq2
  have gst : w.grownBy (stW Try.prog.globals.size p N cap w) none := grown_alloc' (grown_alloc' (grown_refl' w none) _) _
  by_cases h1 : N ≤ 1
  · have small : ∀ f B, Calls Try.prog 55 #[.agg #[LF bx, .func (.func f) #[] B], .int .i64 N] (stW Try.prog.globals.size p N cap w) fun e w' => e = .returned (.tuple #[]) ∧ SortedTo N bp d w w' := fun f B => by
      refine (stable_small _ _ _ _ _ _ N h1 _).mono ?_
      rintro e w' ⟨rfl, hg⟩
      have hg2 := grown_trans' gst hg
      refine ⟨rfl, d, ?_, Stab.Moved.refl _ _ _, fun i j a1 a2 a3 => by omega, ⟨hg2.os, hg2.tape, hg2.output, hg2.size, fun i hi _ => hg2.block i hi (by simp)⟩⟩
      by_cases h0 : N = 0
      · subst h0; intro k hk; omega
      · exact hP.kept hg2 (by omega)
    by_cases h0 : N = 0
    · rw [if_pos h0] at hk
      exact sliceStable_of _ rfl ie hie p N cap 64 (by rw [hk]; kernel_rfl) _ rfl _ _ _ w _ (hide (small _ _))
    · rw [if_neg h0, if_pos (by omega)] at hk
      exact sliceStable_of _ rfl ie hie p N cap 65 (by rw [hk]; kernel_rfl) _ rfl _ _ _ w _ (hide (small _ _))
  · rw [if_neg (by omega), if_neg (by omega)] at hk
    obtain rfl : p = some ⟨bp, 0, none⟩ := by
      rcases hp with h | h
      · omega
      · exact h
    have hbp' : bp < w.heap.size := by omega
    refine sliceStable_of _ rfl ie hie (some ⟨bp, 0, none⟩) N cap 72 (by rw [hk]; kernel_rfl) _ rfl _ _ _ w _ (hide ?_)
    rw [hk]
    refine (stable_any (typeHandle Try.prog 82) (hide rfl) N bp bx cap d _ hN (Nat.lt_of_lt_of_le hbp' gst.size) (Nat.lt_of_lt_of_le hbx gst.size) hne (gst.cell hbox (by simp)) (hP.kept gst hbp') hr).mono ?_
    rintro e w' ⟨rfl, d', p1, p2, p3, p4⟩
    exact ⟨rfl, d', p1, p2, p3, grown_trans' ⟨gst.os, gst.tape, gst.output, gst.size, fun i hi _ => gst.block i hi (by simp)⟩ p4⟩

/-- where the last nought stands -/
theorem last_any (a : List Bool) (t : Nat) (w : World) (hl : a.length + 1 + t ≤ 16) :
    Calls Try.prog 47 #[.string (text (a ++ false :: List.replicate t true)), .int .u8 48] w fun e w' => e = .returned (.int .i64 (a.length : Int)) ∧ w' = w := by
  have hlen : (a ++ false :: List.replicate t true).length = a.length + 1 + t := by simp; omega
  have hsz := text_size (a ++ false :: List.replicate t true)
  rw [hlen] at hsz
  have HTA := hide (text_at (a ++ false :: List.replicate t true))
  have HL := hide hlen
  have hat : Hid (∀ j, a.length < j → (hj : j < (a ++ false :: List.replicate t true).length) → (a ++ false :: List.replicate t true)[j] = true) := fun j h1 hj => by
    rw [List.getElem_append_right (by omega)]
    obtain ⟨m, hm⟩ : ∃ m, j - a.length = m + 1 := ⟨j - a.length - 1, by omega⟩
    simp [hm]
  have hat0 : Hid ((hj : a.length < (a ++ false :: List.replicate t true).length) → (a ++ false :: List.replicate t true)[a.length] = false) := fun hj => by
    rw [List.getElem_append_right (by omega)]
    simp
  generalize a ++ false :: List.replicate t true = l at *
  have lastS : Hid (∀ w, Calls Try.prog 57 #[.string (text l), .int .u8 48] w fun e w' => e = .returned (.int .i64 (a.length : Int)) ∧ w' = w) := by
    intro w
    go_enter Try.func57, Try.ntmps57
    go_wp2
    go_loop [5] (fun vi => ∃ j : Nat, a.length ≤ j ∧ j < a.length + 1 + t ∧ vi = .int .i64 (j : Int)) (fun vi => (RowKit.intOf vi).toNat)
    case atStart => exact ⟨a.length + t, by omega, by omega, by go_num⟩
    case round =>
      obtain ⟨j, hj1, hj2, rfl⟩ := hrel
      have hjl : j < l.length := by omega
      have hjs : j < (text l).size := by omega
      have ht := unhide HTA j hjl hjs
      by_cases hlt : a.length < j
      · rw [unhide hat j hlt hjl] at ht
        have hb : ((((text l)[j]'hjs).toNat : Int) == 48) = false := by rw [ht]; rfl
        clear ht
        go_wp2
        go_round
        case rel => exact ⟨j - 1, by omega, by omega, by go_num⟩
        case measure => simp [RowKit.intOf]; omega
      · obtain rfl : j = a.length := by omega
        rw [unhide hat0 hjl] at ht
        have hb : ((((text l)[a.length]'hjs).toNat : Int) == 48) = true := by rw [ht]; rfl
        clear ht
        go_wp2
        go_ret
        exact ⟨rfl, rfl⟩
  go_enter Try.func47, Try.ntmps47
  go_wp2_with fail
  refine (unhide lastS _).mono ?_
  rintro e w' ⟨rfl, rfl⟩
  go_wp2
  go_ret
  exact ⟨rfl, rfl⟩
end Go.Proofs.Ytmafecagcglaoaa
