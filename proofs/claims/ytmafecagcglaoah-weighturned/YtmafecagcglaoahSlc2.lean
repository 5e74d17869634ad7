/-
  What the library's slices.Clone and slices.Reverse answer on rows of numbers; the statements' own at2.
-/
import Derived.Test.YtmafecagcglaoahSlc
import Derived.Lib.SliceRun
namespace Go.Proofs.Ytmafecagcglaoah
open Go.RowKit
set_option linter.unusedVariables false

set_option maxHeartbeats 1000000 in
theorem clone_any (a : Option Addr) (len cap : Nat) (l : List Int) (w : World) (hl : l.length = len) (hlen : len ≤ 288) (hR : RowIn .i64 w a l) :
    Calls Try.prog 12 #[.slice a len cap] w fun e w' => ∃ a' c', e = .returned (.slice a' len c') ∧ WIn w' a' l ∧ NewAt w.heap.size a' ∧ Below w.heap.size w w' := by
  obtain ⟨i0, hi, hz0, hz1, hz2⟩ := info_parts info_int
  have HR := hide hR
  have HL := hide hl
  clear hR
  have q22 : ∀ (w : World) (a : Option Addr) (n c n' c' : Nat), (binOp .eql 22 (.slice a n c) (.slice none n' c')).run Try.prog w = .ok (.bool a.isNone) w := fun w a n c n' c' => Lib.run_eql_slice_nil w _ _ a n c n' c' Try.underlying22
  cases a with
  | none =>
    have h0 : l = [] := by
      rcases unhide HR with h | ⟨b, o, h, _⟩
      · exact h
      · cases h
    subst h0
    obtain rfl : len = 0 := by simpa using hl.symm
    go_enter Try.func12, Try.ntmps12
    go_wp2
    go_ret
    exact ⟨none, 0, rfl, .inl rfl, (fun p h => by cases h), Below.refl _ _⟩
  | some p =>
    have HC : Hid (∀ j u, (iv l)[j]? = some u → w.cell? (p.add j) = some u) := by
      intro j u hj
      rcases unhide HR with h | ⟨b, o, h, _, hRw⟩
      · rw [h] at hj; simp at hj
      · cases h
        have hjl : j < l.length := by
          rcases Nat.lt_or_ge j l.length with h | h
          · exact h
          · rw [List.getElem?_eq_none (by simpa using h)] at hj; cases hj
        have e : u = .int .i64 (l.getD j 0) := by simp [hjl] at hj; simp [List.getD, hjl, hj]
        rw [e, Addr.add_lit]
        exact hRw j hjl
    go_enter Try.func12, Try.ntmps12
    go_wp2_with (at_builtin; refine wpList_append_own _ rfl _ _ 22 rfl w.heap.size 3 i0 (.int .i64 0) 1 8 Try.underlying22 hi hz0 hz1 hz2 rfl (by decide) _ _ _ rfl (World.ownsRow_made w #[] 0 (Nat.le_refl _) (Nat.zero_le _) (by simp)) p len cap (iv l) rfl (by simp [unhide HL]) (fun j u hj => Lib.cell?_alloc_some _ (unhide HC j u hj)) (by intro u hu; obtain ⟨x, _, rfl⟩ := List.mem_map.1 hu; rfl) (by unfold maxLen; omega) (by omega) (by simp) ?_)
    intro v' w1 hown hgrow hnil
    have HB := hide (((Below.refl w.heap.size w).alloc (Nat.le_refl _) (.cells #[] 3)).grown hgrow (by simp) (by intro k hk; simp [Value.ownBlock] at hk; omega))
    have hE : ∃ a' c', v' = .slice a' len c' ∧ WIn w1 a' l ∧ NewAt w.heap.size a' := by
      rcases hown.2 with ⟨h1, h2⟩ | ⟨g, c', cur, h1, h2, _⟩
      · exact ⟨none, 0, by rw [h1, h2], .inl (List.eq_nil_of_length_eq_zero (by rw [unhide HL, h2])), fun p h => by cases h⟩
      · subst h1
        exact ⟨some ⟨g, 0, none⟩, c', rfl, .inr ⟨g, rfl, WRow.own hown⟩, fun p h => by cases h; exact h2⟩
    have HE := hide hE
    clear hown hgrow hnil hE
    go_wp2
    go_ret
    obtain ⟨a', c', h1, h2, h3⟩ := unhide HE
    subst h1
    exact ⟨a', c', rfl, h2, h3, unhide HB⟩

theorem at2_any (x : Int) (w : World) : Calls Try.prog 11 #[.int .i64 x, .int .i64 5] w fun e w' => ∃ t : Nat, e = .returned (.int .i64 t) ∧ t < 5 ∧ w' = w := by
  have h1 : -5 < x.tmod 5 := by have := Int.lt_tmod_of_pos x (show (0 : Int) < 5 by decide); omega
  have h2 : x.tmod 5 < 5 := Int.tmod_lt_of_pos x (by decide)
  go_enter Try.func11, Try.ntmps11
  by_cases hn : x.tmod 5 < 0
  · go_wp2
    go_ret
    refine ⟨(x.tmod 5 + 5).toNat, ?_, by omega, rfl⟩
    have : ((x.tmod 5 + 5).toNat : Int) = x.tmod 5 + 5 := by omega
    rw [this]
    rfl
  · go_wp2
    go_ret
    refine ⟨(x.tmod 5).toNat, ?_, by omega, rfl⟩
    have : ((x.tmod 5).toNat : Int) = x.tmod 5 := by omega
    rw [this]
    rfl

/-- the first i and the last i have changed places -/
def RevAt (l xs : List Int) (i : Nat) : Prop := xs.length = l.length ∧ ∀ k, k < l.length → xs.getD k 0 = if k < i ∨ l.length ≤ k + i then l.getD (l.length - 1 - k) 0 else l.getD k 0
theorem RevAt.zero (l : List Int) : RevAt l l 0 := ⟨rfl, fun k hk => by rw [if_neg (by omega)]⟩
theorem RevAt.next {l xs : List Int} {i j : Nat} (h : RevAt l xs i) (hij : i < j) (hj : i + j + 1 = l.length) : RevAt l ((xs.set i (xs.getD j 0)).set j (xs.getD i 0)) (i + 1) := by
  refine ⟨by simp [h.1], fun k hk => ?_⟩
  rw [getD_setI, getD_setI, List.length_set, h.1]
  have ei := h.2 i (by omega)
  have ej := h.2 j (by omega)
  rw [if_neg (by omega)] at ei ej
  by_cases h1 : j = k
  · subst h1
    rw [if_pos ⟨rfl, hk⟩, if_pos (by omega), ei]
    congr 1; omega
  · rw [if_neg (fun h2 => h1 h2.1)]
    by_cases h2 : i = k
    · subst h2
      rw [if_pos ⟨rfl, hk⟩, if_pos (by omega), ej]
      congr 1; omega
    · rw [if_neg (fun h3 => h2 h3.1), h.2 k hk]
      by_cases h3 : k < i ∨ l.length ≤ k + i
      · rw [if_pos h3, if_pos (by omega)]
      · rw [if_neg h3, if_neg (by omega)]
theorem RevAt.all {l xs : List Int} {i : Nat} (h : RevAt l xs i) (hi : l.length ≤ 2 * i + 1) : xs = l.reverse := by
  apply List.ext_getElem
  · rw [h.1, List.length_reverse]
  · intro k h1 h2
    have hk : k < l.length := by simpa using h2
    have e := h.2 k hk
    rw [List.getElem_reverse]
    have e1 : xs.getD k 0 = xs[k] := by simp [List.getD, h1]
    have e2 : l.getD (l.length - 1 - k) 0 = l[l.length - 1 - k]'(by omega) := by simp [List.getD, show l.length - 1 - k < l.length by omega]
    rw [← e1, ← e2, e]
    by_cases h3 : k < i ∨ l.length ≤ k + i
    · rw [if_pos h3]
    · rw [if_neg h3]
      congr 1; omega
theorem WRow.c2 {w : World} {g : Nat} {xs : List Int} (h : WRow w g xs) (i j : Nat) (hi : i < xs.length) (hj : j < xs.length) (v : Int) : ∃ u, (w.setCell ⟨g, i, none⟩ (.int .i64 v)).cell? ⟨g, j, none⟩ = some u :=
  ⟨_, ((h.set i hi v).at_ j (by simpa using hj)).1⟩

set_option maxHeartbeats 1000000 in
set_option maxRecDepth 100000 in
theorem reverse_any (a : Option Addr) (len cap : Nat) (l : List Int) (w : World) (hl : l.length = len) (hlen : len ≤ 288) (hW : WIn w a l) :
    Calls Try.prog 13 #[.slice a len cap] w fun e w' => e = .returned (.tuple #[]) ∧ WIn w' a l.reverse ∧ w.grownBy w' (a.map (·.block)) := by
  rcases hW with rfl | ⟨g, rfl, hW⟩
  · obtain rfl : len = 0 := by simpa using hl.symm
    go_enter Try.func13, Try.ntmps13
    go_wp2
    go_loop [2, 3] (fun vi vj => vi = .int .i64 0 ∧ vj = .int .i64 (-1)) (fun _ _ => 0)
    case atStart => exact ⟨rfl, rfl⟩
    case round =>
      obtain ⟨rfl, rfl⟩ := hrel
      go_wp2
      go_end0
      exact ⟨rfl, .inl rfl, grown_refl _ _⟩
  · have HW := hide hW
    have HL := hide hl
    clear hW
    go_enter Try.func13, Try.ntmps13
    go_wp2
    go_loopw [2, 3] (fun vi vj wr => ∃ (i : Nat) (xs : List Int), i ≤ len ∧ vi = .int .i64 i ∧ vj = .int .i64 ((len : Int) - 1 - (i : Int)) ∧ RevAt l xs i ∧ WRow wr g xs ∧ w.grownBy wr (some g)) (fun vi _ _ => len - (intOf vi).toNat)
    case atStart => exact ⟨0, l, Nat.zero_le _, rfl, by go_num, RevAt.zero l, unhide HW, grown_refl _ _⟩
    case round =>
      obtain ⟨i, xs, hi, rfl, rfl, hRv, hWx, hg⟩ := hrel
      have HRv := hide hRv
      have HWx := hide hWx
      have HG := hide hg
      by_cases hlt : (i : Int) < (len : Int) - 1 - (i : Int)
      · obtain ⟨j, hj⟩ : ∃ j, i + j + 1 = len := ⟨len - 1 - i, by omega⟩
        have hxl : xs.length = len := by rw [hRv.1, hl]
        have c1 := (hWx.at_ i (by omega)).1
        have f1 := (hWx.at_ i (by omega)).2
        have c2 := (hWx.at_ j (by omega)).1
        have f2 := (hWx.at_ j (by omega)).2
        obtain ⟨u, c3⟩ := hWx.c2 i j (by omega) (by omega) (xs.getD j 0)
        have HN := hide (hRv.next (i := i) (j := j) (by omega) (by omega))
        have HWS := hide ((hWx.set i (by omega) (xs.getD j 0)).set j (by simp; omega) (xs.getD i 0))
        have HGS := hide (grown_drew (grown_trans hg (grown_trans (grown_setCell wr g i (.int .i64 (xs.getD j 0))) (grown_setCell _ g j (.int .i64 (xs.getD i 0))))))
        have hiN : (i : Int) < (len : Int) := by omega
        have ea : ((len : Int) - 1 - (i : Int)).toNat = j := by omega
        have pa : (0 : Int) ≤ (len : Int) - 1 - (i : Int) := by omega
        have ba : (len : Int) - 1 - (i : Int) < (len : Int) := by omega
        have HJ := hide hj
        clear hRv hWx hg hj hxl
        generalize xs.getD i 0 = x at *
        generalize xs.getD j 0 = y at *
        go_wp2_with fail
        go_big_region
        clear c1 c2 c3 f1 f2 ea
        have HWD := hide (unhide HWS).drew
        go_wp2
        go_roundw
        case rel => exact ⟨i + 1, _, by omega, by go_num, by go_num, unhide HN, unhide HWD, unhide HGS⟩
        case measure => simp [intOf]; omega
      · have e := hRv.all (by omega)
        subst e
        clear hRv hWx hg
        go_wp2
        go_end0
        exact ⟨rfl, .inr ⟨g, rfl, unhide HWx⟩, unhide HG⟩
end Go.Proofs.Ytmafecagcglaoah
