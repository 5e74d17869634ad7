/-
  What match.Longest answers.
-/
import Derived.Test.YtmafecagcglaoahMatch6
import Derived.OwnWalk
namespace Go.Proofs.Ytmafecagcglaoah
open Go.RowKit
set_option linter.unusedVariables false
set_option maxRecDepth 100000

theorem longest_many (a : Option Addr) (n cap : Nat) (k : Int) (w : World) (h : 3000 < n) : Calls Try.prog 18 #[.slice a n cap, .int .i64 k] w fun e w' => e = .returned (.tuple #[.int .i64 0, .int .i64 0, .int .i64 2]) ∧ w' = w := by
  go_enter Try.func18, Try.ntmps18
  go_wp2
  go_ret3
  exact ⟨rfl, rfl⟩

theorem longest_who (a : Option Addr) (n cap : Nat) (k : Int) (w : World) (h : n ≤ 3000) (hk : k < 0 ∨ (n : Int) ≤ k) : Calls Try.prog 18 #[.slice a n cap, .int .i64 k] w fun e w' => e = .returned (.tuple #[.int .i64 0, .int .i64 0, .int .i64 5]) ∧ w' = w := by
  rcases hk with hk | hk
  · go_enter Try.func18, Try.ntmps18
    go_wp2
    go_ret3
    exact ⟨rfl, rfl⟩
  · have h0 : ¬ k < 0 := by omega
    go_enter Try.func18, Try.ntmps18
    go_wp2
    go_ret3
    exact ⟨rfl, rfl⟩

set_option maxHeartbeats 1000000 in
theorem longest_some (b o n cap k : Nat) (bs : List Nat) (w : World) (hl : bs.length = n) (hn : n ≤ 3000) (hcap : n ≤ cap) (hb : b < w.heap.size) (hB : Bytes w b o bs) (hx : ∀ j, bs.getD j 0 < 256) (hk : k < n) (rn rf : Nat) (hr : Hid (lng bs k = (rn, rf))) :
    Calls Try.prog 18 #[.slice (some ⟨b, o, none⟩) n cap, .int .i64 (k : Int)] w fun e w' => e = .returned (.tuple #[.int .i64 (rn : Int), .int .i64 (rf : Int), .int .i64 0]) ∧ Below w.heap.size w w' := by
  have HG : Hid (Geo (fun _ => False) w.heap.size (w.heap.size + 1) w.heap.size (w.heap.size + 2) b bs) := ⟨hb, by omega, Nat.le_refl _, by omega, by omega, id, id, by omega, hx⟩
  have HP0 : Hid (Pas (fun _ => False) ((w.alloc (.map #[] 0)).alloc (.cells #[.slice (some ⟨b, o, none⟩) n cap, .map (some w.heap.size), .int .i64 0] 91)) (w.heap.size + 1) w.heap.size (w.heap.size + 2) b o n cap bs 0) := by
    have hg := World.grownBy_alloc (w.alloc (.map #[] 0)) (.cells #[.slice (some ⟨b, o, none⟩) n cap, .map (some w.heap.size), .int .i64 0] 91) none
    refine ⟨?_, (Grp.made w (w.heap.size + 2) bs (by omega)).kept hg (fun j e => by cases e), (World.Shuns_made w _).kept hg (by simp) (by simp), ?_, by simp⟩
    · have := heap_alloc_new (w.alloc (.map #[] 0)) (.cells #[.slice (some ⟨b, o, none⟩) n cap, .map (some w.heap.size), .int .i64 0] 91)
      rw [World.size_alloc] at this
      exact this
    · exact (hB.grown (World.grownBy_alloc w _ none) (by simp)).grown hg (by simp)
  have HB0 := hide (((Below.refl w.heap.size w).alloc (Nat.le_refl _) (.map #[] 0)).alloc (by simp) (.cells #[.slice (some ⟨b, o, none⟩) n cap, .map (some w.heap.size), .int .i64 0] 91))
  clear hB hx
  go_enter Try.func18, Try.ntmps18
  go_wp2_with fail
  refine (newPast_any (some ⟨b, o, none⟩) n cap w).mono ?_
  rintro e w1 ⟨rfl, hw1⟩
  have HP1 : Hid (Pas (fun _ => False) w1 (w.heap.size + 1) w.heap.size (w.heap.size + 2) b o n cap bs 0) := by rw [hw1]; exact unhide HP0
  have HB1 : Hid (Below w.heap.size w w1) := by rw [hw1]; exact unhide HB0
  clear hw1 HP0 HB0
  go_wp2_with fail
  refine (longest_any _ w.heap.size (w.heap.size + 1) w.heap.size (w.heap.size + 2) b o n cap 0 k bs w1 (unhide HG) hl hcap (unhide HP1) (Nat.zero_le _) (by omega) (fun g _ h => h) rn rf hr).mono ?_
  rintro e w2 ⟨rfl, _, hB2, _⟩
  have HB2 := hide ((unhide HB1).trans hB2)
  clear hB2
  go_wp2
  go_ret3
  exact ⟨rfl, unhide HB2⟩
end Go.Proofs.Ytmafecagcglaoah
