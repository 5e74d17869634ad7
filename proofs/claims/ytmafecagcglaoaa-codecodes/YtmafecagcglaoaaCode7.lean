/-
  The places of one length, one behind the other: what code.appendPlaces answers.
-/
import Derived.Test.YtmafecagcglaoaaCode3
namespace Go.Proofs.Ytmafecagcglaoaa
open Go.RowKit
set_option linter.unusedVariables false

/-- l lies below block B -/
def RowBelow (w : World) (B : Nat) (a : Option Addr) (l : List Int) : Prop := l = [] ∨ ∃ b o, a = some ⟨b, o, none⟩ ∧ b < B ∧ Row .i64 w b o l
theorem RowBelow.of {w : World} {a : Option Addr} {l : List Int} (h : RowIn .i64 w a l) : RowBelow w w.heap.size a l := h
theorem RowBelow.below {w w' : World} {B B' : Nat} {a : Option Addr} {l : List Int} (h : RowBelow w B a l) (hB : Below B w w') (hb : B ≤ B') : RowBelow w' B' a l := by
  rcases h with h | ⟨b, o, h1, h2, h3⟩
  · exact .inl h
  · exact .inr ⟨b, o, h1, by omega, h3.below hB h2⟩

set_option maxHeartbeats 1000000 in
set_option maxRecDepth 100000 in
theorem places_any (B : Nat) (v : Value) (n : Nat) (xs : List Nat) (a : Option Addr) (len cap : Nat) (l : List Int) (m : Nat) (w : World) (hl : l.length = len) (hlen : len ≤ 288) (hn : n ≤ 100000) (hBz : B ≤ w.heap.size)
    (hown : w.ownsRow B 3 1 v n (i64s xs)) (hR : RowBelow w B a l) :
    Calls Try.prog 62 #[v, .slice a len cap, .int .i64 m] w fun e w' => ∃ v', e = .returned v' ∧ w'.ownsRow B 3 1 v' (n + (plcK l m len).length) (i64s (xs ++ plcK l m len)) ∧ Below B w w' := by
  obtain ⟨i0, hi, hz0, hz1, hz2⟩ := info_parts info_int
  have HL := hide hl
  have HR := hide hR
  have HO0 := hide hown
  clear hR hown
  go_enter Try.func62, Try.ntmps62
  go_wp2
  go_loopw [0, 11] (fun vo i wr => ∃ k : Nat, k ≤ len ∧ i = .int .i64 k ∧ wr.ownsRow B 3 1 vo (n + (plcK l m k).length) (i64s (xs ++ plcK l m k)) ∧ Below B w wr) (fun _ i _ => len - (intOf i).toNat)
  case atStart => exact ⟨0, Nat.zero_le _, rfl, by rw [plcK, List.append_nil]; exact unhide HO0, Below.refl _ _⟩
  case round =>
    rename_i vo _
    obtain ⟨k, hk, rfl, hO, hB⟩ := hrel
    have HO := hide hO
    have HB := hide hB
    have hzr := hB.size
    by_cases hlt : k < len
    · have hlk : k < l.length := by omega
      obtain ⟨b, o, rfl, hb, hR⟩ : ∃ b o, a = some ⟨b, o, none⟩ ∧ b < B ∧ Row .i64 w b o l := by
        rcases unhide HR with rfl | h
        · simp at hlk
        · exact h
      have c1 := (hB.cell (p := ⟨b, o + k, none⟩) hb).trans (hR k hlk)
      have hpl := plcK_length l m k (by omega)
      have hpl2 := cnt_le (l.take k) m
      have hpl3 : (l.take k).length ≤ 288 := by simp; omega
      have HN : Hid (plcK l m (k + 1) = plcK l m k ++ (if l.getD k 0 = (m : Int) then [k] else [])) := rfl
      clear hO hB hR
      generalize l.getD k 0 = x at *
      by_cases hx : x = (m : Int)
      · subst hx
        rw [if_pos rfl] at HN
        go_wp2_with (at_builtin; refine wpList_append_own _ rfl _ _ 24 rfl B 3 i0 (.int .i64 0) 1 8 Try.underlying24 hi hz0 hz1 hz2 rfl (by decide) _ _ _ rfl ((unhide HO).alloc _) ⟨wr.heap.size, 0, none⟩ 1 1 [.int .i64 (k : Int)] rfl rfl (by intro j u hj; match j, hj with | 0, hj => simp at hj; subst hj; simp [Addr.add]) (by intro u hu; simp at hu; subst hu; rfl) (by unfold maxLen; omega) (by omega) (by simp; omega) ?_)
        intro v' w1 hO1 hgrow _
        have HO1 := hide hO1
        have HB1 := hide (((unhide HB).alloc (by omega) _).grown hgrow (by simp; omega) (fun k hk => ((unhide HO).lt k hk).1))
        clear hO1 hgrow
        go_wp2
        go_roundw
        case rel =>
          refine ⟨k + 1, by omega, by go_num, ?_, unhide HB1⟩
          have e : i64s (xs ++ plcK l m (k + 1)) = i64s xs ++ (i64s (plcK l m k) ++ [.int .i64 (k : Int)]) := by rw [unhide HN]; simp [i64s]
          have e2 : n + (plcK l m (k + 1)).length = n + cnt (l.take k) m + 1 := by rw [unhide HN, List.length_append, hpl]; rfl
          rw [e, e2]
          exact unhide HO1
        case measure => simp [intOf]; omega
      · rw [if_neg hx, List.append_nil] at HN
        have hxb : (x == (m : Int)) = false := by rw [beq_eq_false_iff_ne]; exact hx
        go_wp2
        go_roundw
        case rel => exact ⟨k + 1, by omega, by go_num, by rw [unhide HN]; exact unhide HO, unhide HB⟩
        case measure => simp [intOf]; omega
    · obtain rfl : k = len := by omega
      clear hO hB
      go_wp2
      go_ret
      exact ⟨_, rfl, unhide HO, unhide HB⟩
end Go.Proofs.Ytmafecagcglaoaa
