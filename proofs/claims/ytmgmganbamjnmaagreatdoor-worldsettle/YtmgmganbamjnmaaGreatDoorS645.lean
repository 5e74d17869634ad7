/-
  What all nodes have together, of lists alone; rows cut short.
-/
import Derived.Test.YtmgmganbamjnmaaGreatDoorS643
import Derived.Test.YtmgmganbamjnmaaGreatDoorS23
import Derived.Test.YtmgmganbamjnmaaGreatDoorS37
import Derived.Test.YtmgmganbamjnmaaGreatDoorS644
import Derived.Test.YtmgmganbamjnmaaGreatDoorS48
import Derived.Test.YtmgmganbamjnmaaGreatDoorS46
namespace Go.Proofs.YtmgmganbamjnmaaGreatDoor
open Go.RowKit
set_option linter.unusedVariables false
set_option linter.unusedSimpArgs false
set_option maxRecDepth 100000

/-! of lists alone -/
theorem set_run : ∀ (ls : List (List Fl)) (A : List Fl), errM A = 0 → (∀ l ∈ ls, errM l = 0) → (setE A ls = 0 ∧ setL A ls = ls.foldl tog A ∧ ∀ k, k < ls.length → ((ls.take (k + 1)).foldl tog A).length ≤ 12) ∨ (setE A ls = 11 ∧ ∃ k, k < ls.length ∧ 12 < ((ls.take (k + 1)).foldl tog A).length)
  | [], A, _, _ => .inl ⟨rfl, rfl, fun k hk => absurd hk (by simp)⟩
  | l :: r, A, hA, h => by
    have hl := h l List.mem_cons_self
    obtain ⟨e1, e2⟩ := both_is hA hl
    by_cases h12 : 12 < (tog A l).length
    · refine .inr ⟨?_, 0, by simp, by simpa using h12⟩
      unfold setE
      rw [e1, if_pos h12]
      rfl
    · rw [if_neg h12] at e1
      have e3 := e2 (by omega)
      rcases set_run r (tog A l) (errM_tog hA hl (by omega)) (fun x hx => h x (List.mem_cons_of_mem _ hx)) with ⟨q1, q2, q3⟩ | ⟨q1, k, q2, q3⟩
      · refine .inl ⟨?_, ?_, fun k hk => ?_⟩
        · unfold setE
          rw [e1, if_neg (by simp), e3]
          exact q1
        · unfold setL
          rw [e3]
          exact q2
        · cases k with
          | zero => simp; omega
          | succ k => exact q3 k (by simpa using hk)
      · refine .inr ⟨?_, k + 1, by simpa using q2, q3⟩
        unfold setE
        rw [e1, if_neg (by simp), e3]
        exact q1
/-- what is wrong, as far as the first so many were looked at -/
def BadIs (W : Wd) (E1 : Nat) (k Bd : Nat) : Prop := (E1 ≠ 0 ∧ Bd = E1) ∨ (E1 = 0 ∧ Bd = 0 ∧ ∀ j, j < k → ((W.nodes.take (j + 1)).foldl tog []).length ≤ 12) ∨ (E1 = 0 ∧ Bd = 11 ∧ ∃ j, j < k ∧ 12 < ((W.nodes.take (j + 1)).foldl tog []).length)
theorem BadIs.more {W : Wd} {E1 k Bd : Nat} (h : BadIs W E1 k Bd) (h0 : Bd ≠ 0) : BadIs W E1 (k + 1) Bd := by
  rcases h with h | ⟨_, h, _⟩ | ⟨h1, h2, j, h3, h4⟩
  · exact .inl h
  · exact absurd h h0
  · exact .inr (.inr ⟨h1, h2, j, by omega, h4⟩)
theorem BadIs.full {W : Wd} {E1 k : Nat} (h : BadIs W E1 k 0) (hl : 12 < ((W.nodes.take (k + 1)).foldl tog []).length) : BadIs W E1 (k + 1) 11 := by
  rcases h with ⟨h1, h2⟩ | ⟨h1, _, _⟩ | ⟨_, h, _⟩
  · exact absurd h2.symm h1
  · exact .inr (.inr ⟨h1, rfl, k, by omega, hl⟩)
  · cases h
theorem BadIs.fine {W : Wd} {E1 k : Nat} (h : BadIs W E1 k 0) (hl : ((W.nodes.take (k + 1)).foldl tog []).length ≤ 12) : BadIs W E1 (k + 1) 0 := by
  rcases h with ⟨h1, h2⟩ | ⟨h1, _, h3⟩ | ⟨_, h, _⟩
  · exact absurd h2.symm h1
  · refine .inr (.inl ⟨h1, rfl, fun j hj => ?_⟩)
    by_cases e : j = k
    · subst e; exact hl
    · exact h3 j (by omega)
  · cases h
theorem BadIs.zero {W : Wd} {E1 k : Nat} (h : BadIs W E1 k 0) : E1 = 0 := by
  rcases h with ⟨h1, h2⟩ | ⟨h1, _⟩ | ⟨h1, _⟩
  · exact absurd h2.symm h1
  · exact h1
  · exact h1
theorem BadIs.ends {W : Wd} {E1 Bd : Nat} (hE : errWd W = E1) (h : BadIs W E1 W.nodes.length Bd) : stlE W = Bd ∧ (Bd = 0 → setL [] W.nodes = W.nodes.foldl tog []) := by
  have hz : errM [] = 0 := rfl
  unfold stlE
  rw [hE]
  rcases h with ⟨h1, h2⟩ | ⟨h1, h2, h3⟩ | ⟨h1, h2, j, h3, h4⟩
  · rw [if_pos h1]
    exact ⟨h2.symm, fun e => absurd (h2.symm.trans e) h1⟩
  · rw [if_neg (by simp [h1])]
    have hok := errWd_zero.1 (hE.trans h1)
    have hall : ∀ l ∈ W.nodes, errM l = 0 := fun l hl => by
      obtain ⟨k, hk⟩ := List.getElem?_of_mem hl
      have hk2 := (List.getElem?_eq_some_iff.1 hk).1
      exact (hok.nd k l _ hk (List.getElem?_eq_getElem (by rw [hok.cl]; exact hk2))).m
    rcases set_run W.nodes [] hz hall with ⟨q1, q2, _⟩ | ⟨_, k, q2, q3⟩
    · exact ⟨by rw [q1, h2], fun _ => q2⟩
    · have := h3 k q2; omega
  · rw [if_neg (by simp [h1])]
    have hok := errWd_zero.1 (hE.trans h1)
    have hall : ∀ l ∈ W.nodes, errM l = 0 := fun l hl => by
      obtain ⟨k, hk⟩ := List.getElem?_of_mem hl
      have hk2 := (List.getElem?_eq_some_iff.1 hk).1
      exact (hok.nd k l _ hk (List.getElem?_eq_getElem (by rw [hok.cl]; exact hk2))).m
    rcases set_run W.nodes [] hz hall with ⟨_, _, q3⟩ | ⟨q1, _⟩
    · have := q3 j h3; omega
    · exact ⟨by rw [q1, h2], fun e => by rw [h2] at e; cases e⟩
theorem all_rise {W : Wd} (hE : errWd W = 0) : ∀ l ∈ W.nodes, NRise l := fun l hl => by
  have hok := errWd_zero.1 hE
  obtain ⟨k, hk⟩ := List.getElem?_of_mem hl
  have hk2 := (List.getElem?_eq_some_iff.1 hk).1
  exact (errM_zero.1 (hok.nd k l _ hk (List.getElem?_eq_getElem (by rw [hok.cl]; exact hk2))).m).2.2
theorem NsIn.take {w : World} {a : Option Addr} {c : Nat} {ls : List (List Fl)} (h : NsIn w a c ls) (k : Nat) : NsIn w a c (ls.take k) := by
  refine ⟨Nat.le_trans (by rw [List.length_take]; omega) h.cap, h.capm, Nat.le_trans (by rw [List.length_take]; omega) h.lim, h.nil, ?_⟩
  rcases h.at_ with h1 | ⟨b, o, h1, h2, h3⟩
  · exact .inl (by rw [h1]; simp)
  · refine .inr ⟨b, o, h1, h2, fun j l hj => h3 j l ?_⟩
    rw [List.getElem?_take] at hj
    split at hj
    · exact hj
    · cases hj
theorem sum_take : ∀ (ls : List (List Fl)) (k : Nat), ((ls.take k).map List.length).sum ≤ (ls.map List.length).sum
  | [], k => by simp
  | l :: r, 0 => by simp
  | l :: r, k + 1 => by have := sum_take r k; simp only [List.take_succ_cons, List.map_cons, List.sum_cons]; omega
theorem rsd_max : ∀ (l : List Fl) (c d : Int), rsd (max c d) l = max c (rsd d l)
  | [], c, d => rfl
  | f :: r, c, d => by rw [rsd_cons, rsd_cons, ← rsd_max r c (max d f.stamp)]; congr 1; omega
theorem rsd_zero {l : List Fl} {c : Int} (h : 0 ≤ c) : rsd c l = max c (rsd 0 l) := by rw [← rsd_max]; congr 1; omega
theorem settled_at {W : Wd} (hok : WdOk W) (h : stlE W = 0) {L : List Fl} (hL : setL [] W.nodes = L) {i : Nat} {c : Int} (hc : W.clock[i]? = some c) : (stlW W).nodes[i]? = some L ∧ (stlW W).clock[i]? = some (max c (rsd 0 L)) := by
  have hi := (List.getElem?_eq_some_iff.1 hc).1
  have hk2 : i < W.nodes.length := by rw [← hok.cl]; exact hi
  have hnd := hok.nd i _ c (List.getElem?_eq_getElem hk2) hc
  unfold stlW
  rw [if_pos h, hL]
  simp only [List.getElem?_map, hc, Option.map_some]
  exact ⟨by trivial, by rw [rsd_zero hnd.lo]⟩
theorem settled_len {W : Wd} (hok : WdOk W) (h : stlE W = 0) : (stlW W).nodes.length = W.nodes.length ∧ (stlW W).clock.length = W.clock.length ∧ (stlW W).net.length = 0 := by
  unfold stlW
  rw [if_pos h]
  simp [hok.cl]
theorem stl_no {W : Wd} (h : stlE W ≠ 0) : stlW W = noW := by unfold stlW; rw [if_neg h]
end Go.Proofs.YtmgmganbamjnmaaGreatDoor
