/-
  Package merge: what is wrong with one file, the order of names, a copy of a file.
-/
import Derived.Test.YtfojmdbpjkkpbaeDoorMg1
import Derived.Test.YtfojmdbpjkkpbaeDoorNmK
import Derived.Maps.AppendAt
namespace Go.Proofs.YtfojmdbpjkkpbaeDoor
open Go.RowKit
set_option linter.unusedVariables false
set_option maxRecDepth 100000

theorem errV_name {f : Fl} (h : errN f.name ≠ 0) : errV f = errN f.name := by unfold errV; rw [if_pos h]
theorem errV_many {f : Fl} (h : errN f.name = 0) (h2 : 3000 < f.bytes.length) : errV f = 2 := by unfold errV; rw [if_neg (by simp [h]), if_pos h2]
theorem errV_range {f : Fl} (h : errN f.name = 0) (h2 : ¬ 3000 < f.bytes.length) (h3 : f.stamp < 0 ∨ 1000000 < f.stamp ∨ f.node < 0 ∨ 3 < f.node) : errV f = 3 := by
  unfold errV; rw [if_neg (by simp [h]), if_neg h2, if_pos h3]
theorem errV_rest {f : Fl} (h : errN f.name = 0) (h2 : ¬ 3000 < f.bytes.length) (h3 : ¬ (f.stamp < 0 ∨ 1000000 < f.stamp ∨ f.node < 0 ∨ 3 < f.node)) : errV f = if f.gone = true ∧ 0 < f.bytes.length then 4 else 0 := by
  unfold errV; rw [if_neg (by simp [h]), if_neg h2, if_neg h3]

set_option maxHeartbeats 2000000 in
theorem checkFile_any (x : Fv) (w : World) (h : FvIn w x) :
    Calls Tryd.prog 44 #[x.val] w fun e w' => e = .returned (.int .i64 (errV x.f : Nat)) ∧ Below w.heap.size w w' := by
  have hc := fun W => check_any x.f.name W (by have := h.txt; unfold maxLen; omega)
  have e0 := @errV_name x.f
  have e1 := @errV_many x.f
  have e2 := @errV_range x.f
  have e3 := @errV_rest x.f
  rw [val_is]
  clear h
  obtain ⟨⟨nm, bs, st, nd, gn⟩, a, c⟩ := x
  simp only at *
  have hbox : ∀ W W' : World, Below W.heap.size W W' → Below W.heap.size W W' := fun _ _ h => h
  generalize B nm = t at *
  generalize bs.length = n at *
  have HC := hide hc
  by_cases h0 : errN nm = 0
  · replace e1 := e1 h0
    replace e2 := e2 h0
    replace e3 := e3 h0
    rw [h0] at HC
    clear e0 h0 hc
    have leaf : ∀ (E : Nat), Hid (errV ⟨nm, bs, st, nd, gn⟩ = E) → Hid ((E = 2 ∧ 3000 < n) ∨ (E = 3 ∧ n ≤ 3000 ∧ (st < 0 ∨ (0 ≤ st ∧ 1000000 < st) ∨ (0 ≤ st ∧ st ≤ 1000000 ∧ nd < 0) ∨ (0 ≤ st ∧ st ≤ 1000000 ∧ 0 ≤ nd ∧ 4 ≤ nd))) ∨ (E = 4 ∧ n ≤ 3000 ∧ 0 ≤ st ∧ st ≤ 1000000 ∧ 0 ≤ nd ∧ nd < 4 ∧ gn = true ∧ 0 < n) ∨ (E = 0 ∧ n ≤ 3000 ∧ 0 ≤ st ∧ st ≤ 1000000 ∧ 0 ≤ nd ∧ nd < 4 ∧ gn = true ∧ n = 0) ∨ (E = 0 ∧ n ≤ 3000 ∧ 0 ≤ st ∧ st ≤ 1000000 ∧ 0 ≤ nd ∧ nd < 4 ∧ gn = false)) →
        Calls Tryd.prog 44 #[.agg #[.string t, .slice a n c, .int .i64 st, .int .i64 nd, .bool gn]] w fun e w' => e = .returned (.int .i64 ((errV ⟨nm, bs, st, nd, gn⟩ : Nat) : Int)) ∧ Below w.heap.size w w' := by
      intro E hE hcs
      rw [unhide hE]
      clear e1 e2 e3 hE
      rcases unhide hcs with ⟨rfl, h1⟩ | ⟨rfl, h1, h2 | ⟨h2, h3⟩ | ⟨h2, h3, h4⟩ | ⟨h2, h3, h4, h5⟩⟩ | ⟨rfl, h1, h2, h3, h4, h5, rfl, h6⟩ | ⟨rfl, h1, h2, h3, h4, h5, rfl, rfl⟩ | ⟨rfl, h1, h2, h3, h4, h5, rfl⟩
      all_goals (
        clear hcs
        go_enter Tryd.func44, Tryd.ntmps44
        go_wp2_with fail
        refine (unhide HC _).mono ?_
        rintro e w' ⟨rfl, hb⟩
        have c1 := (hb.cell (p := ⟨w.heap.size, 1, none⟩) (by simp)).trans (by simp; rfl)
        have c2 := (hb.cell (p := ⟨w.heap.size, 2, none⟩) (by simp)).trans (by simp; rfl)
        have c3 := (hb.cell (p := ⟨w.heap.size, 3, none⟩) (by simp)).trans (by simp; rfl)
        have c4 := (hb.cell (p := ⟨w.heap.size, 4, none⟩) (by simp)).trans (by simp; rfl)
        have HB := hide (((Below.refl w.heap.size w).alloc (Nat.le_refl _) _).trans (hb.mono (by simp)))
        clear hb
        go_wp2
        go_ret
        exact ⟨rfl, unhide HB⟩)
    have HN := hide (rfl : bs.length = bs.length)
    by_cases h1 : 3000 < n
    · exact leaf 2 (e1 h1) (.inl ⟨rfl, h1⟩)
    · by_cases h3 : st < 0 ∨ 1000000 < st ∨ nd < 0 ∨ 3 < nd
      · refine leaf 3 (e2 h1 h3) (.inr (.inl ⟨rfl, by omega, by omega⟩))
      · have e4 := e3 h1 h3
        cases gn with
        | true =>
          by_cases hn : 0 < n
          · exact leaf 4 (by rw [e4, if_pos ⟨rfl, hn⟩]; rfl) (.inr (.inr (.inl ⟨rfl, by omega, by omega, by omega, by omega, by omega, rfl, hn⟩)))
          · exact leaf 0 (by rw [e4, if_neg (fun k => hn k.2)]; rfl) (.inr (.inr (.inr (.inl ⟨rfl, by omega, by omega, by omega, by omega, by omega, rfl, by omega⟩))))
        | false => exact leaf 0 (by rw [e4, if_neg (fun k => by cases k.1)]; rfl) (.inr (.inr (.inr (.inr ⟨rfl, by omega, by omega, by omega, by omega, by omega, rfl⟩))))
  · rw [e0 h0]
    clear e0 e1 e2 e3 hc
    obtain ⟨k, hk⟩ : ∃ k, errN nm = k := ⟨_, rfl⟩
    rw [hk] at HC h0 ⊢
    go_enter Tryd.func44, Tryd.ntmps44
    go_wp2_with fail
    refine (unhide HC _).mono ?_
    rintro e w' ⟨rfl, hb⟩
    have HB := hide (((Below.refl w.heap.size w).alloc (Nat.le_refl _) _).trans (hb.mono (by simp)))
    clear hb
    go_wp2
    go_ret
    exact ⟨rfl, unhide HB⟩

theorem names_any (x y : Fv) (w : World) :
    Calls Tryd.prog 56 #[x.val, y.val] w fun e w' => e = .returned (.int .i64 (cmpB x.f.name y.f.name)) ∧ w' = (w.alloc (.cells x.cells.toArray 40)).alloc (.cells y.cells.toArray 40) := by
  have hc := cmp_str x.f.name y.f.name
  rw [val_is, val_is]
  unfold Fv.cells Fv.sl
  obtain ⟨⟨nm, bs, st, nd, gn⟩, a, c⟩ := x
  obtain ⟨⟨nm2, bs2, st2, nd2, gn2⟩, a2, c2⟩ := y
  simp only at *
  generalize B nm = t at *
  generalize B nm2 = t2 at *
  generalize bs.length = n at *
  generalize bs2.length = n2 at *
  have HC := hide hc
  clear hc
  go_enter Tryd.func56, Tryd.ntmps56
  go_wp2_with (go_at_call 77; refine (unhide HC _).mono ?_; rintro e w' ⟨rfl, rfl⟩)
  go_ret
  exact ⟨rfl, rfl⟩
end Go.Proofs.YtfojmdbpjkkpbaeDoor
