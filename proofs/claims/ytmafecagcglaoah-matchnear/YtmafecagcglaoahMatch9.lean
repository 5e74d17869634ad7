/-
  What Expand answers.
-/
import Derived.Test.YtmafecagcglaoahMatch8
namespace Go.Proofs.Ytmafecagcglaoah
open Go.RowKit
set_option linter.unusedVariables false
set_option maxRecDepth 100000

theorem expand_err (a : Option Addr) (n cap : Nat) (l : List Tk) (w : World) (hl : l.length = n) (hT : TokIn w a l) (E : Int) (hE : Hid (errT l = E)) (h0 : E ≠ 0) :
    Calls Try.prog 36 #[.slice a n cap] w fun e w' => e = .returned (.tuple #[.slice none 0 0, .int .i64 E]) ∧ w.grownBy w' none := by
  have hb : (E != 0) = true := by rw [bne_iff_ne]; exact h0
  have HK := hide (check_any a n cap l w hl hT E hE)
  clear hT h0
  go_enter Try.func36, Try.ntmps36
  go_wp2_with fail
  refine (unhide HK).mono ?_
  rintro e w1 ⟨rfl, hg⟩
  have HG := hide hg
  clear hg
  go_wp2
  go_ret2
  exact ⟨rfl, unhide HG⟩

theorem own_shape {w : World} {B e size n : Nat} {v : Value} {xs : List Value} (h : w.ownsRow B e size v n xs) (hn : 0 < n) : ∃ g cap, v = .slice (some ⟨g, 0, none⟩) n cap ∧ B ≤ g ∧ g < w.heap.size := by
  rcases h.2 with ⟨h1, h2⟩ | ⟨g, cap, cur, h1, h2, h3⟩
  · omega
  · exact ⟨g, cap, h1, h2, (h.lt g (by rw [h1]; rfl)).2⟩
theorem u8_snoc (xs : List Nat) (y : Nat) : u8s (xs ++ [y]) = u8s xs ++ [.int .u8 (y : Int)] := by simp [u8s]

set_option maxHeartbeats 2000000 in
theorem expand_ok (a : Option Addr) (n cap : Nat) (l : List Tk) (w : World) (hl : l.length = n) (hT : TokIn w a l) (hE : errT l = 0) (R : List Nat) (hR : Hid (expF l [] = R)) :
    Calls Try.prog 36 #[.slice a n cap] w fun e w' => ∃ v, e = .returned (.tuple #[v, .int .i64 0]) ∧ w'.ownsRow w.heap.size 5 1 v R.length (u8s R) ∧ Below w.heap.size w w' := by
  obtain ⟨i0, hi, hz0, hz1, hz2⟩ := info_parts info_u8
  have HL := hide hl
  have HT := hide hT
  have HK := hide (check_any a n cap l w hl hT 0 hE)
  have hn : n ≤ 3000 ∧ chkF l 0 = 0 := by
    unfold errT at hE
    by_cases h : 3000 < l.length
    · rw [if_pos h] at hE; omega
    · rw [if_neg h] at hE; exact ⟨by omega, hE⟩
  obtain ⟨hn, hc⟩ := hn
  have HC0 := hide hc
  clear hT hE hc
  go_enter Try.func36, Try.ntmps36
  go_wp2_with fail
  refine (unhide HK).mono ?_
  rintro e w1 ⟨rfl, hg1⟩
  have HB1 := hide (below_none (Below.refl w.heap.size w) hg1 (Nat.le_refl _))
  clear hg1
  go_wp2
  go_loopw [5, 15] (fun v5 v15 wr => ∃ (k : Nat) (acc : List Nat), k ≤ n ∧ v15 = .int .i64 (k : Int) ∧ expF (l.drop k) acc = R ∧ chkF (l.drop k) acc.length = 0 ∧ wr.ownsRow w.heap.size 5 1 v5 acc.length (u8s acc) ∧ Below w.heap.size w wr) (fun _ v15 _ => n - (intOf v15).toNat)
  case atStart => exact ⟨0, [], Nat.zero_le _, rfl, by simpa using unhide hR, by simpa using unhide HC0, World.ownsRow_nil _ _ _ _, unhide HB1⟩
  case round =>
    obtain ⟨k, acc, hk, rfl, hX, hC, hO, hBr⟩ := hrel
    have HX := hide hX
    have HC := hide hC
    have HO := hide hO
    have HBr := hide hBr
    have hzr := hBr.size
    clear hX hC
    by_cases hlt : k < n
    · obtain ⟨tb, ts, tf, ht⟩ : ∃ tb ts tf, l.getD k (0, 0, 0) = (tb, ts, tf) := ⟨_, _, _, rfl⟩
      obtain ⟨b, o, rfl, hb, c1, c2, c3⟩ := tok_at (unhide HT) (fun b hb => hBr.block b hb) (by omega) ht
      have hstep := chkF_step (l := l) (k := k) (n := acc.length) (by omega)
      have hexp := expF_step (l := l) (k := k) (acc := acc) (by omega)
      rw [unhide HC, ht] at hstep
      rw [unhide HX, ht] at hexp
      have he0 : errOne (tb, ts, tf) acc.length = 0 := by
        by_cases h : errOne (tb, ts, tf) acc.length = 0
        · exact h
        · rw [if_neg h] at hstep; exact absurd hstep.symm h
      rw [if_pos he0] at hstep
      have hright := errOne_right he0
      simp only at hright
      have hle := chkF_zero hstep.symm
      have hpl := putT_length (t := (tb, ts, tf)) (acc := acc)
      rw [← hpl] at hstep hle
      have HST := hide hstep
      have HEX := hide hexp
      have hP : putT (tb, ts, tf) acc = if ts = 0 then acc ++ [tb] else copyN acc tf.toNat ts.toNat := rfl
      have HBa := hide ((unhide HBr).alloc (by omega) (.cells #[.int .u8 (tb : Int), .int .i64 ts, .int .i64 tf] 43))
      have HOa := hide ((unhide HO).alloc (.cells #[.int .u8 (tb : Int), .int .i64 ts, .int .i64 tf] 43))
      have hne : u5.ownBlock ≠ some wr.heap.size := fun e => by have := (hO.lt _ e).2; omega
      have q0 : (wr.alloc (.cells #[.int .u8 (tb : Int), .int .i64 ts, .int .i64 tf] 43)).cell? ⟨wr.heap.size, 0, none⟩ = some (.int .u8 (tb : Int)) := by simp
      have q1 : (wr.alloc (.cells #[.int .u8 (tb : Int), .int .i64 ts, .int .i64 tf] 43)).cell? ⟨wr.heap.size, 1, none⟩ = some (.int .i64 ts) := by simp
      have q2 : (wr.alloc (.cells #[.int .u8 (tb : Int), .int .i64 ts, .int .i64 tf] 43)).cell? ⟨wr.heap.size, 2, none⟩ = some (.int .i64 tf) := by simp
      have hza : (wr.alloc (.cells #[.int .u8 (tb : Int), .int .i64 ts, .int .i64 tf] 43)).heap.size = wr.heap.size + 1 := by simp
      clear hO hBr ht hstep hexp he0
      rcases hright with ⟨rfl, rfl⟩ | ⟨rfl, hs3, hs258, hf1, hfl⟩
      · rw [if_pos rfl] at hP
        rw [hP] at HST HEX hle
        simp only [List.length_append, List.length_cons, List.length_nil] at hle
        go_wp2_with (at_builtin; refine wpList_append_own_at _ rfl _ _ 23 rfl w.heap.size 5 i0 (.int .u8 0) 1 1 Try.underlying23 hi hz0 hz1 hz2 rfl (by decide) u5 acc.length (u8s acc) rfl ((unhide HOa).alloc _) ⟨wr.heap.size + 1, 0, none⟩ 1 1 [.int .u8 (tb : Int)] rfl rfl (by have := cell_one_new (wr.alloc (.cells #[.int .u8 (tb : Int), .int .i64 0, .int .i64 0] 43)) (.int .u8 (tb : Int)) 5; rw [hza] at this; exact this) (one_cell rfl) (by unfold maxLen; omega) (by omega) (by simp; omega) ?_)
        intro v' w3 hO3 hgrow _ hspot
        have hg2 : some wr.heap.size ≠ u5.ownBlock := fun e => hne e.symm
        have r1 : w3.cell? ⟨wr.heap.size, 1, none⟩ = some (.int .i64 0) := hgrow.cell (by simp) hg2
        have HO3 : Hid (w3.ownsRow w.heap.size 5 1 v' (acc ++ [tb]).length (u8s (acc ++ [tb]))) := by rw [u8_snoc, List.length_append]; exact hO3
        have HB3 := hide (((unhide HBa).alloc (by simp; omega) (.cells #[.int .u8 (tb : Int)] 5)).grown hgrow (by simp; omega) (fun g e => ((unhide HO).lt g e).1))
        clear hO3 hgrow hspot q0 q1 q2 hg2
        go_wp2
        go_loopw [5, 29] (fun v5 v29 wq => v29 = .int .i64 0 ∧ v5 = v' ∧ wq = w3) (fun _ _ _ => 0)
        case atStart => exact ⟨rfl, rfl, rfl⟩
        case round =>
          obtain ⟨rfl, rfl, rfl⟩ := hrel
          go_wp2
          go_roundw
          case rel => exact ⟨k + 1, acc ++ [tb], by omega, by go_num, (unhide HEX).symm, (unhide HST).symm, unhide HO3, unhide HB3⟩
          case measure => simp [intOf]; omega
      · obtain ⟨m, rfl⟩ := Int.eq_ofNat_of_zero_le (show 0 ≤ ts by omega)
        obtain ⟨f, rfl⟩ := Int.eq_ofNat_of_zero_le (show 0 ≤ tf by omega)
        rw [if_neg (by omega), Int.toNat_natCast, Int.toNat_natCast] at hP
        rw [hP] at HST HEX hle
        have hb1 : ((m : Int) == 0) = false := by rw [beq_eq_false_iff_ne]; omega
        have hXl := copyN_length f m acc
        rw [hXl] at hle
        obtain ⟨X, hX⟩ : ∃ X, copyN acc f m = X := ⟨_, rfl⟩
        rw [hX] at HST HEX
        have HXX := hide hX
        clear hP hX hXl hpl
        go_wp2
        clear c1 c2 c3
        have HB0 := hide (unhide HBa)
        clear HO HBr
        generalize wr.alloc (.cells #[.int .u8 ((0 : Nat) : Int), .int .i64 (m : Int), .int .i64 (f : Int)] 43) = W0 at *
        generalize wr.heap.size = b7 at *
        go_loopw [5, 29] (fun v5 v29 wr => ∃ (j : Nat) (xs : List Nat), j ≤ m ∧ v29 = .int .i64 (j : Int) ∧ copyN xs f (m - j) = X ∧ xs.length = acc.length + j ∧ wr.ownsRow w.heap.size 5 1 v5 xs.length (u8s xs) ∧ v5.ownBlock ≠ some b7 ∧ wr.cell? ⟨b7, 2, none⟩ = some (.int .i64 (f : Int)) ∧ Below w.heap.size w wr ∧ b7 < wr.heap.size) (fun _ v29 _ => m - (intOf v29).toNat)
        case atStart => exact ⟨0, acc, Nat.zero_le _, rfl, unhide HXX, rfl, unhide HOa, hne, q2, unhide HBa, by omega⟩
        case round =>
          obtain ⟨j, xs, hj, rfl, hcp, hxl, hOq, hneq, c2, hBq, hsq⟩ := hrel
          have HCP := hide hcp
          have HOq := hide hOq
          have HBq := hide hBq
          have HNq := hide hneq
          have hzq := hBq.size
          clear hcp hBq q0 q1 q2
          by_cases hjm : j < m
          · obtain ⟨g, c, rfl, hg1, hg2⟩ := own_shape hOq (show 0 < xs.length by omega)
            have cx : wr.cell? ⟨g, xs.length - f, none⟩ = some (.int .u8 ((xs.getD (xs.length - f) 0 : Nat) : Int)) := by
              rw [hOq.cellAt _ (by omega)]
              simp [u8s, List.getD, show xs.length - f < xs.length by omega]
            have HCN : Hid (copyN (xs ++ [xs.getD (xs.length - f) 0]) f (m - (j + 1)) = X) := by
              have := unhide HCP
              rw [show m - j = (m - (j + 1)) + 1 by omega, copyN] at this
              exact this
            obtain ⟨L, hL⟩ : ∃ L, xs.length = L := ⟨_, rfl⟩
            rw [hL] at cx HCN
            have HLx := hide hL
            have hLb : L = acc.length + j := by omega
            have HOL : Hid (wr.ownsRow w.heap.size 5 1 (.slice (some ⟨g, 0, none⟩) L c) L (u8s xs)) := by rw [← hL]; exact hOq
            have HN2 : Hid ((Value.slice (some ⟨g, 0, none⟩) L c).ownBlock ≠ some b7) := unhide HNq
            rw [hL]
            clear hOq hneq hL hxl HOq HNq
            generalize xs.getD (L - f) 0 = y at *
            have hfL : f ≤ L := by omega
            have hL3 : L + 1 ≤ 3000 := by omega
            have HLb := hide hLb
            clear hLb
            have hidx : ((L : Int) - (f : Int)).toNat = L - f := by omega
            go_wp2_with (at_builtin; refine wpList_append_own_at _ rfl _ _ 23 rfl w.heap.size 5 i0 (.int .u8 0) 1 1 Try.underlying23 hi hz0 hz1 hz2 rfl (by decide) _ L (u8s xs) rfl ((unhide HOL).alloc _) ⟨wr.heap.size, 0, none⟩ 1 1 [.int .u8 (y : Int)] rfl rfl (cell_one_new _ _ _) (one_cell rfl) (by unfold maxLen; omega) (by omega) (by simp; omega) ?_)
            intro v' w3 hO3 hgrow _ hspot
            have HO3 : Hid (w3.ownsRow w.heap.size 5 1 v' (xs ++ [y]).length (u8s (xs ++ [y]))) := by rw [u8_snoc, List.length_append, unhide HLx]; exact hO3
            have hgne : some b7 ≠ (Value.slice (some ⟨g, 0, none⟩) L c).ownBlock := fun e => unhide HN2 e.symm
            have r2 : w3.cell? ⟨b7, 2, none⟩ = some (.int .i64 (f : Int)) := hgrow.cell (by rw [World.cell?_alloc_past _ _ _ hsq]; exact c2) hgne
            have HN3 : Hid (v'.ownBlock ≠ some b7) := by
              rcases hspot with h | h
              · rw [h]; exact unhide HN2
              · rw [h]
                intro e
                have := Option.some.inj e
                omega
            have HB3 := hide (((unhide HBq).alloc (by omega) (.cells #[.int .u8 (y : Int)] 5)).grown hgrow (by simp; omega) (fun g e => ((unhide HOL).lt g e).1))
            have hs3' : b7 < w3.heap.size := Nat.lt_of_lt_of_le hsq (Nat.le_trans (by simp) hgrow.size)
            clear hO3 hgrow hspot hgne c2 cx
            go_wp2
            go_roundw
            case rel => exact ⟨j + 1, xs ++ [y], by omega, by go_num, unhide HCN, by have := unhide HLb; rw [List.length_append, unhide HLx]; simp; omega, unhide HO3, unhide HN3, r2, unhide HB3, hs3'⟩
            case measure => simp [intOf]; omega
          · obtain rfl : m = j := by omega
            have hend := unhide HCP
            rw [Nat.sub_self, copyN] at hend
            subst hend
            clear hOq hneq
            go_wp2
            go_roundw
            case rel => exact ⟨k + 1, xs, by omega, by go_num, (unhide HEX).symm, (unhide HST).symm, unhide HOq, unhide HBq⟩
            case measure => simp [intOf]; omega
    · obtain rfl : n = k := by omega
      have e := unhide HX
      rw [List.drop_of_length_le (by rw [unhide HL]; exact Nat.le_refl _), expF] at e
      subst e
      clear hO hBr
      go_wp2
      go_ret2
      exact ⟨u5, rfl, unhide HO, unhide HBr⟩
end Go.Proofs.Ytmafecagcglaoah
