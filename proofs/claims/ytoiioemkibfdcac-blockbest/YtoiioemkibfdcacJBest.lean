/-
  The closed fact that the statements on package block ask for first: it is true.
-/
import Derived.Test.YtoiioemkibfdcacJPack
import Derived.Test.YtoiioemkibfdcacBeq
import Derived.Lib.SlBytesConst
namespace Go.Proofs.Ytoiioemkibfdcac
open Go.RowKit
set_option linter.unusedVariables false
set_option maxRecDepth 100000

theorem one_stor (bs : List Nat) : oneB bs 0 = padB (storB ([true] ++ numBits 0 2) bs) := by unfold oneB blkB; rw [if_pos rfl]; rfl
theorem one_fix (bs : List Nat) : oneB bs 1 = padB ([true] ++ numBits 1 2 ++ fixBits (toks bs)) := by unfold oneB blkB; rw [if_neg (by decide), if_pos rfl]; rfl
theorem one_dyn (bs : List Nat) : oneB bs 2 = padB ([true] ++ numBits 2 2 ++ dynB bs) := by unfold oneB blkB; rw [if_neg (by decide), if_neg (by decide)]; rfl
def pk7 : List Nat := [1, 2, 0, 253, 255, 97, 97]
theorem lt_of_all {l : List Nat} (h : l.all (fun x => decide (x < 256)) = true) (j : Nat) : l.getD j 0 < 256 := by
  by_cases hj : j < l.length
  · have := List.all_eq_true.1 h l[j] (List.getElem_mem hj)
    have := of_decide_eq_true this
    simpa [List.getD, hj] using this
  · simp only [List.getD]
    rw [List.getElem?_eq_none (by omega)]
    decide
theorem one7 : IsOne [97, 97] 0 pk7 := ⟨by rw [one_stor]; decide +kernel, lt_of_all (by decide)⟩
theorem one5 : IsOne [] 0 [1, 0, 0, 255, 255] := ⟨by rw [one_stor]; decide +kernel, lt_of_all (by decide)⟩
theorem one2 : IsOne [] 1 [3, 0] := ⟨by rw [one_fix]; decide +kernel, lt_of_all (by decide)⟩
theorem headB_ge (a b own : List Int) : 26 ≤ (headB a b own).length := by
  have h1 := ownN_ge own 19 (by decide)
  have h2 := ownN_le own 19
  unfold headB
  rw [List.length_append, List.length_append, List.length_append, List.length_append, numBits_length, numBits_length, numBits_length, own3_len, List.length_take]
  have : ord19.length = 19 := rfl
  omega
theorem dynB_ge (bs : List Nat) : 26 ≤ (dynB bs).length := by
  have h : ∀ a b ts, 26 ≤ (planB a b ts).length := fun a b ts => by
    have := headB_ge a b (ownD (a ++ b))
    unfold planB
    rw [List.length_append]
    omega
  unfold dynB
  split
  · exact h _ _ _
  · exact h _ _ _
theorem len2 : lenP [] 1 = 2 := one2.len.symm
theorem len5 : lenP [] 0 = 5 := one5.len.symm
theorem len3 : 3 ≤ lenP [] 2 := by
  have := dynB_ge []
  unfold lenP
  rw [one_dyn, padB_length]
  simp only [List.length_append, numBits_length, List.length_cons, List.length_nil]
  omega
theorem best0 : bestP [] 3 = 1 := by
  have e2 : bestP [] 2 = 1 := by
    rw [bestP_next [] 1 (by decide)]
    have : bestP [] 1 = 0 := rfl
    rw [this, len2, len5, if_pos (by decide)]
  rw [bestP_next [] 2 (by decide), e2, len2, if_neg (by have := len3; omega)]

theorem Bytes.new (w : World) (xs : List Nat) (t : TypeId) (A : Array Value) (b : Nat) (hb : b = w.heap.size) (hA : A = (u8s xs).toArray) : Bytes (w.alloc (.cells A t)) b 0 xs := by
  intro j hj
  rw [World.cell?_alloc_at _ _ _ _ (by rw [hb]), hA]
  simp [List.getD, hj]

set_option maxHeartbeats 1000000 in
theorem packed_any (w : World) : Calls Try.prog 13 #[] w fun e w' => e = .returned (.bool true) ∧ Below w.heap.size w w' := by
  have hcc := Lib.run_convert_bytes_const (P := Try.prog) w 22 5 #[.int .u8 97, .int .u8 97] 2 2 Try.underlying22 Try.underlying5
  have hbm : Bytes (w.alloc (.cells #[.int .u8 97, .int .u8 97] 5 (2, 3))) w.heap.size 0 [97, 97] := by
    intro j hj
    rw [Nat.zero_add, cell_of_row _ _ _ _ _ _ (heap_alloc_new w _)]
    match j, hj with
    | 0, _ => rfl
    | 1, _ => rfl
  have hO1 := fun T U => one_ok (some ⟨w.heap.size, 0, none⟩) 2 2 0 [97, 97] (w.alloc (.cells #[.int .u8 97, .int .u8 97] 5 (2, 3))) T U rfl (by decide) (fun e => by cases e) (.inr ⟨_, 0, rfl, by simp, hbm⟩) (lt_of_all (by decide)) (by decide) (by decide)
  simp only [World.size_alloc] at hO1
  have hl7 : lenP [97, 97] 0 = 7 := one7.len.symm
  rw [hl7] at hO1
  have HO1 := hide hO1
  have HBE := hide (fun W => by
    have := best_ok none 0 0 [] W rfl (by decide) (fun _ => rfl) (.inl rfl) (fun j => by simp) (by decide)
    rw [best0, len2] at this
    exact this)
  clear hO1 hbm
  go_enter Try.func13, Try.ntmps13
  go_wp2_with fail
  refine (unhide HO1 _ _).mono ?_
  rintro e w1 ⟨g1, c1, out1, rfl, hg1, hb1, hI1, hB1⟩
  obtain rfl := hI1.one one7
  have HBW : Hid (Below w.heap.size w w1) := hide (((Below.refl w.heap.size w).alloc (Nat.le_refl _) _).trans (hB1.mono (by omega)))
  have HY1 := hide hb1
  have hzw := (unhide HBW).size
  clear hI1 hB1 hb1 HO1
  go_wp2_with fail
  refine (unhide HBE _).mono ?_
  rintro e w2 ⟨g2, c2, out2, rfl, hg2, hb2, hI2, hB2⟩
  obtain rfl := hI2.one one2
  have hz2 := hB2.size
  have HY2 := hide hb2
  have HY1' := hide ((unhide HY1).below hB2 hg1)
  have HBW2 := hide ((unhide HBW).trans (hB2.mono hzw))
  clear hI2 hB2 hb2 HBE HY1 HBW
  have HQ1 : Hid (∀ (X : Obj), X = .cells #[.int .u8 1, .int .u8 2, .int .u8 0, .int .u8 253, .int .u8 255, .int .u8 97, .int .u8 97] 5 → Calls Try.prog 11 #[.slice (some ⟨g1, 0, none⟩) 7 c1, .slice (some ⟨w2.heap.size, 0, none⟩) 7 7] (w2.alloc X) fun e w' => e = .returned (.bool true) ∧ w' = w2.alloc X) := fun X hX => by
    subst hX
    have hb : (pk7 == pk7) = true := by simp
    have := bequal_in (some ⟨g1, 0, none⟩) (some ⟨w2.heap.size, 0, none⟩) 7 c1 7 7 pk7 pk7 (w2.alloc (.cells #[.int .u8 1, .int .u8 2, .int .u8 0, .int .u8 253, .int .u8 255, .int .u8 97, .int .u8 97] 5)) rfl rfl one7.val one7.val (.inr ⟨g1, 0, rfl, by simp; omega, (unhide HY1').below ((Below.refl w2.heap.size w2).alloc (Nat.le_refl _) _) (by omega)⟩) (.inr ⟨w2.heap.size, 0, rfl, by simp, Bytes.new w2 pk7 _ _ _ rfl rfl⟩)
    rw [hb] at this
    exact this
  have HQ2 : Hid (∀ (W : World) (X : Obj), Below w2.heap.size w2 W → X = .cells #[.int .u8 3, .int .u8 0] 5 → Calls Try.prog 11 #[.slice (some ⟨g2, 0, none⟩) 2 c2, .slice (some ⟨W.heap.size, 0, none⟩) 2 2] (W.alloc X) fun e w' => e = .returned (.bool true) ∧ w' = W.alloc X) := fun W X hW hX => by
    subst hX
    have hb : (([3, 0] : List Nat) == [3, 0]) = true := by decide
    have hz := hW.size
    have := bequal_in (some ⟨g2, 0, none⟩) (some ⟨W.heap.size, 0, none⟩) 2 c2 2 2 [3, 0] [3, 0] (W.alloc (.cells #[.int .u8 3, .int .u8 0] 5)) rfl rfl one2.val one2.val (.inr ⟨g2, 0, rfl, by simp; omega, ((unhide HY2).below hW hg2).below ((Below.refl W.heap.size W).alloc (Nat.le_refl _) _) (by omega)⟩) (.inr ⟨W.heap.size, 0, rfl, by simp, Bytes.new W [3, 0] _ _ _ rfl rfl⟩)
    rw [hb] at this
    exact this
  have HFB : Hid (∀ X Y : Obj, Below w.heap.size w ((w2.alloc X).alloc Y)) := fun X Y => ((unhide HBW2).alloc (by omega) X).alloc (by simp; omega) Y
  have HQ3 := hide (fun X Y hY => unhide HQ2 (w2.alloc X) Y ((Below.refl w2.heap.size w2).alloc (Nat.le_refl _) X) hY)
  simp only [World.size_alloc] at HQ3
  clear HQ2 HY1' HY2 HBW2
  go_wp2_with fail
  refine (unhide HQ1 _ rfl).mono ?_
  rintro e w3 ⟨rfl, rfl⟩
  go_wp2_with fail
  refine (unhide HQ3 _ _ rfl).mono ?_
  rintro e w4 ⟨rfl, rfl⟩
  go_wp2
  go_ret
  exact ⟨rfl, unhide HFB _ _⟩
end Go.Proofs.Ytoiioemkibfdcac

/-
  The walk of the law BlockBest.
-/
namespace Go.Proofs.Ytoiioemkibfdcac
open Go.RowKit
set_option linter.unusedVariables false
set_option maxRecDepth 100000

set_option maxHeartbeats 1000000 in
theorem bbest_many (a : Option Addr) (n cap : Nat) (bs : List Nat) (w : World) (hl : bs.length = n) (hcap : n ≤ cap) (hnil : a = none → cap = 0) (hB : BytesIn w a bs) (hx : ∀ j, bs.getD j 0 < 256) (hm : n ≤ 9223372036854775807) (h : 3000 < n) : Calls Try.prog 4 #[.slice a n cap] w fun e w' => e = .returned (.bool true) ∧ Below w.heap.size w w' := by
  have HBM := hide (best_many a n cap bs w hl hcap hnil hB hx hm h)
  clear hB hx hnil
  go_enter Try.func4, Try.ntmps4
  go_wp2_with fail
  refine (unhide HBM).mono ?_
  rintro e w1 ⟨rfl, hB1⟩
  have HB1 := hide hB1
  have hz1 := hB1.size
  clear hB1 HBM
  go_wp2_with fail
  refine (packed_any _).mono ?_
  rintro e w2 ⟨rfl, hB2⟩
  have HB2 := hide ((unhide HB1).trans (hB2.mono hz1))
  have hz2 := (unhide HB2).size
  clear hB2
  go_wp2_with fail
  refine (packed_any _).mono ?_
  rintro e w3 ⟨rfl, hB3⟩
  have HB3 := hide ((unhide HB2).trans (hB3.mono hz2))
  clear hB3
  go_wp2
  go_ret
  exact ⟨rfl, unhide HB3⟩

set_option maxHeartbeats 1000000 in
theorem bbest_few (a : Option Addr) (n cap : Nat) (bs : List Nat) (w : World) (hl : bs.length = n) (hcap : n ≤ cap) (hnil : a = none → cap = 0) (hB : BytesIn w a bs) (hx : ∀ j, bs.getD j 0 < 256) (hn : n ≤ 3000) : Calls Try.prog 4 #[.slice a n cap] w fun e w' => e = .returned (.bool true) ∧ Below w.heap.size w w' := by
  have HBO := hide (best_ok a n cap bs w hl hcap hnil hB hx hn)
  have HC := hide (fun (W : World) (k : Nat) (hk : k ≤ 2) (hW : Below w.heap.size w W) T U => one_ok a n cap k bs W T U hl hcap hnil (hB.below hW (Nat.le_refl _)) hx hn hk)
  obtain ⟨KB, hKB⟩ : ∃ KB, bestP bs 3 = KB := ⟨_, rfl⟩
  obtain ⟨LB, hLB⟩ : ∃ LB, lenP bs KB = LB := ⟨_, rfl⟩
  rw [hKB, hLB] at HBO
  have HKB := hide hKB
  have HLB := hide hLB
  clear hB hx hnil hKB hLB
  go_enter Try.func4, Try.ntmps4
  go_wp2_with fail
  refine (unhide HBO).mono ?_
  rintro e w1 ⟨g0, c0, out0, rfl, hg0, hy0, hI0, hB1⟩
  have HB1 := hide hB1
  have hz1 := hB1.size
  have HY0 := hide hy0
  have HI0 := hide hI0
  clear hB1 HBO hy0 hI0
  go_wp2_with fail
  refine (packed_any _).mono ?_
  rintro e w2 ⟨rfl, hB2⟩
  have HB2 := hide ((unhide HB1).trans (hB2.mono hz1))
  have HY2 := hide ((unhide HY0).below hB2 hg0)
  have hg2 : g0 < w2.heap.size := Nat.lt_of_lt_of_le hg0 hB2.size
  clear hB2 HB1 HY0
  go_wp2
  go_loopw [6, 7, 8] (fun v6 v7 v8 wr => ∃ k : Nat, k ≤ 3 ∧ v8 = .int .i64 (k : Int) ∧ Hid (Below w.heap.size w wr ∧ Below w2.heap.size w2 wr) ∧ ((k = 0 ∧ v6 = .int .i64 0 ∧ v7 = .slice none 0 0) ∨ (0 < k ∧ ∃ g c out, v7 = .slice (some ⟨g, 0, none⟩) (lenP bs (bestP bs k)) c ∧ v6 = .int .i64 (bestP bs k : Nat) ∧ g < wr.heap.size ∧ Bytes wr g 0 out ∧ IsOne bs (bestP bs k) out))) (fun _ _ v8 _ => 3 - (intOf v8).toNat)
  case atStart => exact ⟨0, by decide, rfl, hide ⟨unhide HB2, Below.refl _ _⟩, .inl ⟨rfl, rfl, rfl⟩⟩
  case round =>
    obtain ⟨k, hk, rfl, HBw, hs⟩ := hrel
    have hz := (unhide HBw).1.size
    have hz2 := (unhide HBw).2.size
    by_cases h3 : k = 3
    · subst h3
      rcases hs with ⟨h, _⟩ | ⟨_, g, c, out, rfl, rfl, hg, hby, hI⟩
      · omega
      · rw [unhide HKB] at hI ⊢
        rw [unhide HLB]
        have hoo : out = out0 := hI.one (unhide HI0)
        subst hoo
        have hbb : (out == out) = true := by simp
        have hle : out.length = LB := by rw [hI.len, unhide HLB]
        have HQ := hide (bequal_in (some ⟨g0, 0, none⟩) (some ⟨g, 0, none⟩) LB c0 LB c out out wr hle hle hI.val hI.val (.inr ⟨g0, 0, rfl, by omega, (unhide HY2).below (unhide HBw).2 hg2⟩) (.inr ⟨g, 0, rfl, hg, hby⟩))
        rw [hbb] at HQ
        clear hbb hle hI hby hg HC
        go_wp2_with fail
        refine (unhide HQ).mono ?_
        rintro e w4 ⟨rfl, rfl⟩
        go_wp2
        go_ret
        exact ⟨rfl, (unhide HBw).1⟩
    · have hk2 : k ≤ 2 := by omega
      have HCk := hide (fun T U => unhide HC wr k hk2 (unhide HBw).1 T U)
      clear HC
      rcases hs with ⟨rfl, rfl, rfl⟩ | ⟨h0, g, c, out, rfl, rfl, hg, hby, hI⟩
      · go_wp2_with fail
        refine (unhide HCk _ _).mono ?_
        rintro e w4 ⟨g1, c1, out1, rfl, hg1, hby1, hI1, hB1⟩
        have HF := hide (And.intro hg1 (And.intro hby1 (And.intro hI1 (And.intro ((unhide HBw).1.trans (hB1.mono hz)) ((unhide HBw).2.trans (hB1.mono hz2))))))
        have e1 : bestP bs 1 = 0 := rfl
        clear hg1 hby1 hI1 hB1
        go_wp2
        go_roundw
        case rel => exact ⟨1, by decide, by go_num, hide (unhide HF).2.2.2, .inr ⟨by decide, g1, c1, out1, by rw [e1], by rw [e1]; rfl, (unhide HF).1, (unhide HF).2.1, by rw [e1]; exact (unhide HF).2.2.1⟩⟩
        case measure => simp [intOf]
      · have HS := hide (And.intro hg (And.intro hby hI))
        have hbp := bestP_next bs k h0
        clear hg hby hI
        have hqI : (k : Int) ≤ 2 := by omega
        have hk0 : ((k : Int) == 0) = false := by rw [beq_eq_false_iff_ne]; omega
        obtain ⟨B, hBB⟩ : ∃ B, bestP bs k = B := ⟨_, rfl⟩
        rw [hBB] at hbp HS ⊢
        obtain ⟨l1, hl1⟩ : ∃ l1, lenP bs k = l1 := ⟨_, rfl⟩
        obtain ⟨l2, hl2⟩ : ∃ l2, lenP bs B = l2 := ⟨_, rfl⟩
        rw [hl1, hl2] at hbp
        rw [hl1] at HCk
        rw [hl2]
        have HBP := hide hbp
        have HL1 := hide hl1
        have HL2 := hide hl2
        clear hbp hl1 hl2 hBB
        go_wp2_with fail
        refine (unhide HCk _ _).mono ?_
        rintro e w4 ⟨g1, c1, out1, rfl, hg1, hby1, hI1, hB1⟩
        have HF := hide (And.intro hg1 (And.intro hby1 (And.intro hI1 (And.intro ((unhide HBw).1.trans (hB1.mono hz)) ((unhide HBw).2.trans (hB1.mono hz2))))))
        have HK := hide (And.intro (Nat.lt_of_lt_of_le (unhide HS).1 hB1.size) ((unhide HS).2.1.below hB1 (unhide HS).1))
        clear hg1 hby1 hI1 hB1
        by_cases hlt : l1 < l2
        · have hltI : (l1 : Int) < (l2 : Int) := by omega
          have hb : Hid (bestP bs (k + 1) = k) := hide (by rw [unhide HBP, if_pos hlt])
          clear hlt
          go_wp2
          go_roundw
          case rel => exact ⟨k + 1, by omega, by go_num, hide (unhide HF).2.2.2, .inr ⟨by omega, g1, c1, out1, by rw [unhide hb, unhide HL1], by rw [unhide hb], (unhide HF).1, (unhide HF).2.1, by rw [unhide hb]; exact (unhide HF).2.2.1⟩⟩
          case measure => simp [intOf]; omega
        · have hltI : ¬ (l1 : Int) < (l2 : Int) := by omega
          have hb : Hid (bestP bs (k + 1) = B) := hide (by rw [unhide HBP, if_neg hlt])
          clear hlt
          go_wp2
          go_roundw
          case rel => exact ⟨k + 1, by omega, by go_num, hide (unhide HF).2.2.2, .inr ⟨by omega, g, c, out, by rw [unhide hb, unhide HL2], by rw [unhide hb], (unhide HK).1, (unhide HK).2, by rw [unhide hb]; exact (unhide HS).2.2⟩⟩
          case measure => simp [intOf]; omega
end Go.Proofs.Ytoiioemkibfdcac
