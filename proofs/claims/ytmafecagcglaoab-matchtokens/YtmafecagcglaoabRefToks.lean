/-
  What the document's own TokensOf answers.
-/
import Derived.Test.YtmafecagcglaoabRefLng
import Derived.Test.YtmafecagcglaoabMatch7
import Derived.Test.YtmafecagcglaoabMatchIn
namespace Go.Proofs.Ytmafecagcglaoab
open Go.RowKit
set_option linter.unusedVariables false
set_option maxRecDepth 100000

theorem Lng.pos {bs : List Nat} {k n1 f1 : Nat} (h : lng bs k = (n1, f1)) (h0 : n1 ≠ 0) : 3 ≤ n1 ∧ k + n1 ≤ bs.length := by
  rcases lng_is bs k with ⟨e, _⟩ | hL
  · rw [e] at h
    have : 0 = n1 := by simpa using congrArg Prod.fst h
    omega
  · rw [h] at hL
    exact ⟨hL.three, hL.le.2⟩

set_option maxHeartbeats 4000000 in
theorem tokensOf_ok (a : Option Addr) (n cap : Nat) (bs : List Nat) (w : World) (hl : bs.length = n) (hn : n ≤ 3000) (hB : BytesIn w a bs) (L : Nat) (hL : Hid ((toks bs).length = L)) :
    Calls Try.prog 36 #[.slice a n cap] w fun e w' => ∃ a1 c1, e = .returned (.slice a1 L c1) ∧ TokIn w' a1 (toks bs) ∧ Below w.heap.size w w' := by
  obtain ⟨i0, hi, hz0, hz1, hz2⟩ := info_parts info_tok
  have HL := hide hl
  have HB := hide hB
  clear hB
  generalize hT : toks bs = T at *
  have HTT := hide hT
  clear hT
  go_enter Try.func36, Try.ntmps36
  go_wp2
  go_loopw [3, 4] (fun v3 v4 wr => ∃ (k fuel : Nat) (acc : List Tk), k ≤ n ∧ v4 = .int .i64 (k : Int) ∧ acc ++ tks bs fuel k = T ∧ n ≤ k + fuel ∧ acc.length ≤ k ∧ wr.ownsRow w.heap.size 59 3 v3 acc.length (tvs acc) ∧ Below w.heap.size w wr) (fun _ v4 _ => n - (intOf v4).toNat)
  case atStart => exact ⟨0, n, [], Nat.zero_le _, rfl, by rw [← unhide HTT]; simp [toks, unhide HL], by omega, Nat.le_refl _, World.ownsRow_nil _ _ _ _, Below.refl _ _⟩
  case round =>
    obtain ⟨k, fuel, acc, hk, rfl, hT, hf, hak, hO, hBr⟩ := hrel
    have hT2 := hide hT
    have HO := hide hO
    have HBr := hide hBr
    have hzr := hBr.size
    clear hT
    by_cases hlt : k < n
    · obtain ⟨b, o, rfl, hb, hBy⟩ := bytesIn_some (unhide HB) (by omega)
      have HBy : Hid (Bytes wr b o bs) := hBy.below hBr hb
      obtain ⟨fuel', hs1, hs2⟩ := tks_step bs fuel k (by omega) (by omega)
      have hw := tkAt_wid bs k (by omega)
      obtain ⟨n1, f1, h1⟩ : ∃ n1 f1, lng bs k = (n1, f1) := ⟨_, _, rfl⟩
      obtain ⟨n2, f2, h2⟩ : ∃ n2 f2, lng bs (k + 1) = (n2, f2) := ⟨_, _, rfl⟩
      have ht : tkAt bs k = if n1 = 0 then (bs.getD k 0, 0, 0) else if n1 < n2 then (bs.getD k 0, 0, 0) else (0, (n1 : Int), (f1 : Int)) := by
        unfold tkAt; rw [h1, h2]
      have hpos := Lng.pos h1
      have HTn : Hid ((acc ++ [tkAt bs k]) ++ tks bs fuel' (k + wid (tkAt bs k)) = T) := by
        rw [← unhide hT2, hs1, List.append_assoc]; rfl
      have ck := unhide HBy k (by omega)
      have HLa := hide (longestOf_any b o n cap k bs wr (unhide HL) hn (unhide HBy) hlt n1 f1 h1)
      have H2 := hide h2
      clear hO hBr h1 h2 hs1
      go_wp2_with fail
      refine (unhide HLa).mono ?_
      rintro e w2 ⟨rfl, q, rfl⟩
      by_cases hn1 : n1 = 0
      · rw [if_pos hn1] at ht
        generalize bs.getD k 0 = x at *
        rw [ht] at HTn hw hs2
        have hwd : wid (x, (0 : Int), (0 : Int)) = 1 := rfl
        rw [hwd] at HTn hw hs2
        subst hn1
        clear hpos ht hwd
        have HOw := hide ((unhide HO : (wr.drewN q).ownsRow w.heap.size 59 3 u3 acc.length (tvs acc)).alloc (.cells #[.int .u8 (x : Int), .int .i64 0, .int .i64 0] 59))
        have HBw := hide ((below_drewN (unhide HBr) q : Below w.heap.size w (wr.drewN q)).alloc hzr (.cells #[.int .u8 (x : Int), .int .i64 0, .int .i64 0] 59))
        have HCw := hide (tok_cells (wr.drewN q) (.int .u8 (x : Int)) (.int .i64 0) (.int .i64 0) 59)
        go_wp2_with (at_builtin; refine wpList_append_own_at _ rfl _ _ 46 rfl w.heap.size 59 i0 _ 3 24 Try.underlying46 hi hz0 hz1 hz2 rfl (by decide) u3 acc.length (tvs acc) rfl (unhide HOw) ⟨wr.heap.size, 0, none⟩ 1 1 [.int .u8 (x : Int), .int .i64 0, .int .i64 0] rfl rfl (unhide HCw) (by intro u hu; simp at hu; rcases hu with rfl | rfl | rfl <;> rfl) (by unfold maxLen; omega) (by omega) (by simp; omega) ?_)
        intro v' w4 hO4 hgrow _ hspot
        have HO4 : Hid (w4.ownsRow w.heap.size 59 3 v' (acc ++ [(x, 0, 0)]).length (tvs (acc ++ [(x, 0, 0)]))) := by
          rw [tvs_append, List.length_append]; exact hO4
        have HB4 := hide ((unhide HBw).grown hgrow (by simp; omega) (fun g e => ((unhide HO).lt g e).1))
        clear hO4 hgrow hspot HOw HBw HCw HO HBr
        go_wp2
        go_roundw
        case rel => exact ⟨k + 1, fuel', acc ++ [(x, 0, 0)], by omega, by go_num, unhide HTn, by omega, by simp; omega, unhide HO4, unhide HB4⟩
        case measure => simp [intOf]; omega
      · rw [if_neg hn1] at ht
        obtain ⟨hp3, hpn⟩ := hpos hn1
        have hb1 : ((n1 : Int) == 0) = false := by rw [beq_eq_false_iff_ne]; omega
        have hk1 : k + 1 < n := by omega
        have HLb := hide (longestOf_any b o n cap (k + 1) bs (wr.drewN q) (unhide HL) hn (unhide HBy) hk1 n2 f2 (unhide H2))
        clear hpos
        go_wp2_with fail
        refine (unhide HLb).mono ?_
        rintro e w3 ⟨rfl, q2, rfl⟩
        by_cases hn2 : n1 < n2
        · rw [if_pos hn2] at ht
          generalize bs.getD k 0 = x at *
          rw [ht] at HTn hw hs2
          have hwd : wid (x, (0 : Int), (0 : Int)) = 1 := rfl
          rw [hwd] at HTn hw hs2
          clear ht hwd
          have HOw := hide ((unhide HO : (wr.drewN (q + q2)).ownsRow w.heap.size 59 3 u3 acc.length (tvs acc)).alloc (.cells #[.int .u8 (x : Int), .int .i64 0, .int .i64 0] 59))
          have HBw := hide ((below_drewN (unhide HBr) (q + q2) : Below w.heap.size w (wr.drewN (q + q2))).alloc hzr (.cells #[.int .u8 (x : Int), .int .i64 0, .int .i64 0] 59))
          have HCw := hide (tok_cells (wr.drewN (q + q2)) (.int .u8 (x : Int)) (.int .i64 0) (.int .i64 0) 59)
          go_wp2_with (at_builtin; refine wpList_append_own_at _ rfl _ _ 46 rfl w.heap.size 59 i0 _ 3 24 Try.underlying46 hi hz0 hz1 hz2 rfl (by decide) u3 acc.length (tvs acc) rfl (unhide HOw) ⟨wr.heap.size, 0, none⟩ 1 1 [.int .u8 (x : Int), .int .i64 0, .int .i64 0] rfl rfl (unhide HCw) (by intro u hu; simp at hu; rcases hu with rfl | rfl | rfl <;> rfl) (by unfold maxLen; omega) (by omega) (by simp; omega) ?_)
          intro v' w4 hO4 hgrow _ hspot
          have HO4 : Hid (w4.ownsRow w.heap.size 59 3 v' (acc ++ [(x, 0, 0)]).length (tvs (acc ++ [(x, 0, 0)]))) := by
            rw [tvs_append, List.length_append]; exact hO4
          have HB4 := hide ((unhide HBw).grown hgrow (by simp; omega) (fun g e => ((unhide HO).lt g e).1))
          clear hO4 hgrow hspot HOw HBw HCw HO HBr
          go_wp2
          go_roundw
          case rel => exact ⟨k + 1, fuel', acc ++ [(x, 0, 0)], by omega, by go_num, unhide HTn, by omega, by simp; omega, unhide HO4, unhide HB4⟩
          case measure => simp [intOf]; omega
        · rw [if_neg hn2] at ht
          rw [ht] at HTn hw hs2
          have hwd : wid (0, (n1 : Int), (f1 : Int)) = n1 := by unfold wid; rw [if_neg (by simp only; omega)]; simp
          rw [hwd] at HTn hw hs2
          clear ht hwd ck
          have HOw := hide ((unhide HO : (wr.drewN (q + q2)).ownsRow w.heap.size 59 3 u3 acc.length (tvs acc)).alloc (.cells #[.int .u8 0, .int .i64 (n1 : Int), .int .i64 (f1 : Int)] 59))
          have HBw := hide ((below_drewN (unhide HBr) (q + q2) : Below w.heap.size w (wr.drewN (q + q2))).alloc hzr (.cells #[.int .u8 0, .int .i64 (n1 : Int), .int .i64 (f1 : Int)] 59))
          have HCw := hide (tok_cells (wr.drewN (q + q2)) (.int .u8 0) (.int .i64 (n1 : Int)) (.int .i64 (f1 : Int)) 59)
          go_wp2_with (at_builtin; refine wpList_append_own_at _ rfl _ _ 46 rfl w.heap.size 59 i0 _ 3 24 Try.underlying46 hi hz0 hz1 hz2 rfl (by decide) u3 acc.length (tvs acc) rfl (unhide HOw) ⟨wr.heap.size, 0, none⟩ 1 1 [.int .u8 0, .int .i64 (n1 : Int), .int .i64 (f1 : Int)] rfl rfl (unhide HCw) (by intro u hu; simp at hu; rcases hu with rfl | rfl | rfl <;> rfl) (by unfold maxLen; omega) (by omega) (by simp; omega) ?_)
          intro v' w4 hO4 hgrow _ hspot
          have HO4 : Hid (w4.ownsRow w.heap.size 59 3 v' (acc ++ [(0, (n1 : Int), (f1 : Int))]).length (tvs (acc ++ [(0, (n1 : Int), (f1 : Int))]))) := by
            rw [tvs_append, List.length_append]; exact hO4
          have HB4 := hide ((unhide HBw).grown hgrow (by simp; omega) (fun g e => ((unhide HO).lt g e).1))
          clear hO4 hgrow hspot HOw HBw HCw HO HBr
          go_wp2
          go_roundw
          case rel => exact ⟨k + n1, fuel', acc ++ [(0, (n1 : Int), (f1 : Int))], by omega, by go_num, unhide HTn, by omega, by simp; omega, unhide HO4, unhide HB4⟩
          case measure => simp [intOf]; omega
    · obtain rfl : n = k := by omega
      have e : acc = T := by
        have := unhide hT2
        rw [tks_done bs fuel n (by omega), List.append_nil] at this
        exact this
      subst e
      obtain ⟨hnl, a1, c1, rfl, hI⟩ := TokIn.ofOwn hO
      have HI := hide hI
      have e2 := unhide hL
      rw [e2]
      clear hO hBr hI
      go_wp2
      go_ret
      exact ⟨a1, ⟨c1, rfl⟩, unhide HI, unhide HBr⟩
end Go.Proofs.Ytmafecagcglaoab
