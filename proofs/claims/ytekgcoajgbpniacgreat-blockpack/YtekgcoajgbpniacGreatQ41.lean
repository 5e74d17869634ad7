/-
  What the document's own Room and CheckLengths answer, code.Check, and slices.Contains.
-/
import Derived.Test.YtekgcoajgbpniacGreatQ15
import Derived.Test.YtekgcoajgbpniacGreatQ4
import Derived.Test.YtekgcoajgbpniacGreatCodesOf2
import Derived.Maps.Own
import Derived.Maps.OwnSet
import Derived.Maps.Views
import Derived.StringKeys
import Derived.Test.YtekgcoajgbpniacGreatQ34
import Derived.Test.YtekgcoajgbpniacGreatQ1
import Derived.Test.YtekgcoajgbpniacGreatQ31
namespace Go.Proofs.YtekgcoajgbpniacGreat
open Go.RowKit
set_option linter.unusedVariables false
set_option maxRecDepth 100000

theorem shr_step (m : Nat) (hm : m ≤ 15) : (32768 : Int) / 2 ^ m = ((2 ^ (15 - m) : Nat) : Int) := by
  have h : (2 : Nat) ^ (15 - m) * 2 ^ m = 32768 := by rw [← Nat.pow_add, show 15 - m + m = 15 by omega]
  have h2 : ((2 ^ (15 - m) : Nat) : Int) * ((2 ^ m : Nat) : Int) = 32768 := by exact_mod_cast h
  have hp : (0 : Int) < ((2 ^ m : Nat) : Int) := by exact_mod_cast Nat.pow_pos (n := m) (show 0 < 2 by decide)
  have e : (2 : Int) ^ m = ((2 ^ m : Nat) : Int) := by push_cast; rfl
  rw [e, ← h2, Int.mul_ediv_cancel _ (by omega)]

theorem room_any (a : Option Addr) (len cap : Nat) (l : List Int) (w : World) (hl : l.length = len) (hlen : len ≤ 288) (hR : RowIn .i64 w a l) (hok : ∀ j, j < l.length → 0 ≤ l.getD j 0 ∧ l.getD j 0 ≤ 15) :
    Calls Tryz.prog 57 #[.slice a len cap] w fun e w' => e = .returned (.int .i64 ((takenN (cnt l) 15 : Nat) : Int)) ∧ w' = w := by
  have HR := hide hR
  have HOK := hide hok
  have HF : Hid (roomN l len = takenN (cnt l) 15) := by
    have := roomN_taken l hok l.length (Nat.le_refl _)
    rw [List.take_length] at this
    rw [← hl]; exact this
  clear hR hok
  go_enter Tryz.func57, Tryz.ntmps57
  go_wp2
  go_loop [3, 8] (fun s i => ∃ k : Nat, k ≤ len ∧ i = .int .i64 (k : Int) ∧ s = .int .i64 ((roomN l k : Nat) : Int)) (fun _ i => len - (intOf i).toNat)
  case atStart => exact ⟨0, Nat.zero_le _, rfl, rfl⟩
  case round =>
    obtain ⟨k, hk, rfl, rfl⟩ := hrel
    by_cases hlt : k < len
    · have hlk : k < l.length := by omega
      obtain ⟨b, o, rfl, hb, hRw⟩ : ∃ b o, a = some ⟨b, o, none⟩ ∧ b < w.heap.size ∧ Row .i64 w b o l := by
        rcases unhide HR with rfl | h
        · simp at hlk
        · exact h
      have c1 := hRw k hlk
      obtain ⟨m, hm⟩ := Int.eq_ofNat_of_zero_le (unhide HOK k hlk).1
      have h15 := (unhide HOK k hlk).2
      have HU : Hid (roomN l (k + 1) = roomN l k + (if 0 < l.getD k 0 then 2 ^ (15 - (l.getD k 0).toNat) else 0)) := rfl
      have hle := roomN_le l k
      rw [hm] at c1 h15 HU
      rw [Int.toNat_natCast] at HU
      have hm15 : m ≤ 15 := by omega
      have hsh := shr_step m hm15
      have hp15 : 2 ^ (15 - m) ≤ 32768 := by
        have := Nat.pow_le_pow_right (n := 2) (by decide) (show 15 - m ≤ 15 by omega)
        omega
      clear hRw hm
      generalize roomN l k = u at *
      generalize 2 ^ (15 - m) = z at *
      by_cases hx0 : (0 : Int) < (m : Int)
      · rw [if_pos hx0] at HU
        go_wp2
        go_round
        case rel => exact ⟨k + 1, by omega, by go_num, by rw [unhide HU]; go_num⟩
        case measure => simp [intOf]; omega
      · rw [if_neg hx0] at HU
        go_wp2
        go_round
        case rel => exact ⟨k + 1, by omega, by go_num, by rw [unhide HU]; rfl⟩
        case measure => simp [intOf]; omega
    · obtain rfl : k = len := by omega
      go_wp2
      go_ret
      exact ⟨ret_int (by rw [unhide HF]), rfl⟩

theorem checkLengths_any (a : Option Addr) (len cap : Nat) (l : List Int) (w : World) (hl : l.length = len) (hM : len ≤ 9223372036854775807) (hR : RowIn .i64 w a l) :
    Calls Tryz.prog 44 #[.slice a len cap] w fun e w' => e = .returned (.int .i64 (errL l)) ∧ w' = w := by
  by_cases hm : 288 < len
  · have e : errL l = 2 := by unfold errL; rw [if_pos (by omega)]
    rw [e]
    clear e hR
    go_enter Tryz.func44, Tryz.ntmps44
    go_wp2
    go_ret
    exact ⟨rfl, rfl⟩
  · rcases first_bad (fun j => okLen (l.getD j 0)) len with hf | ⟨j0, hj0, hbad, hf⟩
    · have hn : ¬ ∃ j, j < l.length ∧ okLen (l.getD j 0) = false := by
        rintro ⟨j, hj, e⟩
        have := hf j (by omega)
        simp only [e] at this
        cases this
      have e : errL l = if 32768 < takenN (cnt l) 15 then 8 else 0 := by unfold errL; rw [if_neg (by omega), if_neg hn]
      have HRoom := hide (room_any a len cap l w hl (by omega) hR (fun j hj => okLen_true (hf j (by omega))))
      have HR := hide hR
      have HOK : Hid (∀ j, j < len → 0 ≤ l.getD j 0 ∧ l.getD j 0 ≤ 15) := fun j hj => okLen_true (hf j hj)
      rw [e]
      clear hR hf hn e
      go_enter Tryz.func44, Tryz.ntmps44
      go_wp2
      go_loop [10] (fun i => ∃ k : Nat, k ≤ len ∧ i = .int .i64 (k : Int)) (fun i => len - (intOf i).toNat)
      case atStart => exact ⟨0, Nat.zero_le _, rfl⟩
      case round =>
        obtain ⟨k, hk, rfl⟩ := hrel
        by_cases hlt : k < len
        · have hlk : k < l.length := by omega
          obtain ⟨b, o, rfl, hb, hRw⟩ : ∃ b o, a = some ⟨b, o, none⟩ ∧ b < w.heap.size ∧ Row .i64 w b o l := by
            rcases unhide HR with rfl | h
            · simp at hlk
            · exact h
          have c1 := hRw k hlk
          obtain ⟨h1, h2⟩ := unhide HOK k hlt
          clear hRw
          generalize l.getD k 0 = x at *
          have h1' : ¬ x < 0 := by omega
          have h2' : ¬ 15 < x := by omega
          go_wp2
          go_round
          case rel => exact ⟨k + 1, by omega, by go_num⟩
          case measure => simp [intOf]; omega
        · obtain rfl : k = len := by omega
          go_wp2_with fail
          refine (unhide HRoom).mono ?_
          rintro e w1 ⟨rfl, rfl⟩
          by_cases ht : 32768 < takenN (cnt l) 15
          · go_wp2
            go_ret
            exact ⟨by first | rfl | (rw [if_pos ht]; rfl), rfl⟩
          · go_wp2
            go_ret
            exact ⟨by first | rfl | (rw [if_neg ht]; rfl), rfl⟩
    · have e : errL l = 3 := by unfold errL; rw [if_neg (by omega), if_pos ⟨j0, by omega, hbad⟩]
      rw [e]
      obtain ⟨b, o, rfl, hb, hRw⟩ : ∃ b o, a = some ⟨b, o, none⟩ ∧ b < w.heap.size ∧ Row .i64 w b o l := by
        rcases hR with rfl | h
        · simp at hl; omega
        · exact h
      have HRw := hide hRw
      have HF : Hid (∀ j, j < j0 → 0 ≤ l.getD j 0 ∧ l.getD j 0 ≤ 15) := fun j hj => okLen_true (hf j hj)
      have HBad := hide (okLen_false hbad)
      clear hR hf hbad e hRw
      go_enter Tryz.func44, Tryz.ntmps44
      go_wp2
      go_loop [10] (fun i => ∃ k : Nat, k ≤ j0 ∧ i = .int .i64 (k : Int)) (fun i => len - (intOf i).toNat)
      case atStart => exact ⟨0, Nat.zero_le _, rfl⟩
      case round =>
        obtain ⟨k, hk, rfl⟩ := hrel
        have c1 := unhide HRw k (by omega)
        by_cases hlt : k < j0
        · obtain ⟨h1, h2⟩ := unhide HF k hlt
          generalize l.getD k 0 = x at *
          have h1' : ¬ x < 0 := by omega
          have h2' : ¬ 15 < x := by omega
          go_wp2
          go_round
          case rel => exact ⟨k + 1, by omega, by go_num⟩
          case measure => simp [intOf]; omega
        · obtain rfl : k = j0 := by omega
          have hb2 := unhide HBad
          generalize l.getD k 0 = x at *
          by_cases h1 : x < 0
          · clear hb2
            go_wp2
            go_ret
            exact ⟨rfl, rfl⟩
          · have h2 : 15 < x := by omega
            clear hb2
            go_wp2
            go_ret
            exact ⟨rfl, rfl⟩

end Go.Proofs.YtekgcoajgbpniacGreat

/-
  The document's own Codebook: places by their codes.
-/
namespace Go.Proofs.YtekgcoajgbpniacGreat
open Go.RowKit Go.Maps
set_option linter.unusedVariables false
set_option maxRecDepth 100000

def kT (s : List Bool) : Lit := .string (text s).data.toList
theorem kT_inj {s t : List Bool} (h : kT s = kT t) : s = t := by
  unfold kT text at h
  simp only [Lit.string.injEq] at h
  have h2 : s.map chr = t.map chr := by simpa using h
  have inj : ∀ a b : Bool, chr a = chr b → a = b := by intro a b; cases a <;> cases b <;> decide
  induction s generalizing t with
  | nil => cases t with
    | nil => rfl
    | cons y r => simp at h2
  | cons x r ih => cases t with
    | nil => simp at h2
    | cons y r2 =>
      simp only [List.map_cons, List.cons.injEq] at h2
      rw [inj x y h2.1, ih (t := r2) (by simp [h2.2]) h2.2]
theorem kT_key (s : List Bool) : WideAt.IsKeyLit (kT s) := by
  first | trivial | exact ⟨⟩ | (unfold kT WideAt.IsKeyLit; simp)

/-- the book behind k places -/
def bookD (l : List Int) : Nat → DataW Unit
  | 0 => .map []
  | k + 1 => if codeT l k = [] then bookD l k else (bookD l k).put (kT (codeT l k)) (.lit (.int .i64 (k : Int)))
theorem bookD_map (l : List Int) : ∀ k, IsMap (bookD l k)
  | 0 => isMap_empty
  | k + 1 => by
    rw [bookD]
    split
    · exact bookD_map l k
    · exact (bookD_map l k).put _ _
theorem book_has (l : List Int) (s : List Bool) (hs : s ≠ []) : ∀ k, Maps.has (bookD l k) (kT s) = decide (∃ q, q < k ∧ codeT l q = s)
  | 0 => by
    rw [decide_eq_false (by rintro ⟨q, h, _⟩; omega)]; rfl
  | k + 1 => by
    have ih := book_has l s hs k
    have e : (∃ q, q < k + 1 ∧ codeT l q = s) ↔ ((∃ q, q < k ∧ codeT l q = s) ∨ codeT l k = s) := by
      constructor
      · rintro ⟨q, h1, h2⟩
        by_cases hq : q = k
        · subst hq; exact .inr h2
        · exact .inl ⟨q, by omega, h2⟩
      · rintro (⟨q, h1, h2⟩ | h)
        · exact ⟨q, by omega, h2⟩
        · exact ⟨k, by omega, h⟩
    rw [bookD]
    by_cases h0 : codeT l k = []
    · rw [if_pos h0, ih, Bool.eq_iff_iff]
      simp only [decide_eq_true_eq, e]
      constructor
      · exact .inl
      · rintro (h | h)
        · exact h
        · rw [h0] at h; exact absurd h.symm hs
    · rw [if_neg h0]
      by_cases hk : codeT l k = s
      · rw [hk, has_put_same (bookD_map l k) (kT_key s), decide_eq_true (e.2 (.inr hk))]
      · rw [has_put_other (fun h => hk (kT_inj h).symm), ih, Bool.eq_iff_iff]
        simp only [decide_eq_true_eq, e]
        constructor
        · exact .inl
        · rintro (h | h)
          · exact h
          · exact absurd h hk
theorem book_at (l : List Int) (s : List Bool) (hs : s ≠ []) (hinj : ∀ q q', q < l.length → q' < l.length → codeT l q = s → codeT l q' = s → q = q') (z : DataW Unit) : ∀ k, k ≤ l.length → ∀ q, q < k → codeT l q = s → (bookD l k).atKey (kT s) z = .lit (.int .i64 (q : Int))
  | 0, _, q, h, _ => by omega
  | k + 1, hk, q, h, hq => by
    rw [bookD]
    by_cases h0 : codeT l k = []
    · rw [if_pos h0]
      have : q ≠ k := fun e => by subst e; rw [h0] at hq; exact hs hq.symm
      exact book_at l s hs hinj z k (by omega) q (by omega) hq
    · rw [if_neg h0]
      by_cases e : codeT l k = s
      · have := hinj q k (by omega) (by omega) hq e
        subst this
        rw [e, atKey_put_same (bookD_map l _) (kT_key s)]
      · rw [atKey_put_other (fun h => e (kT_inj h).symm)]
        have : q ≠ k := fun e2 => by subst e2; exact e hq
        exact book_at l s hs hinj z k (by omega) q (by omega) hq

theorem klaw : Keyed Tryz.prog 9 := string_keyed Tryz.underlying9
abbrev BookIs (w : World) (b n : Nat) (D : DataW Unit) : Prop := w.ownsMap Tryz.prog 9 (plainElem Tryz.prog 3) b n D

set_option maxHeartbeats 2000000 in
theorem codebook_any (a : Option Addr) (len cap : Nat) (l : List Int) (w : World) (hl : l.length = len) (hR : RowIn .i64 w a l) (hG : Good l) :
    Calls Tryz.prog 27 #[.slice a len cap] w fun e w' => ∃ b n, e = .returned (.map (some b)) ∧ w.heap.size ≤ b ∧ BookIs w' b n (bookD l len) ∧ Below w.heap.size w w' := by
  have hlen := hG.len
  have hmm := @run_makeMap Tryz.prog
  have HG := hide hG
  go_enter Tryz.func27, Tryz.ntmps27
  go_wp2_with fail
  refine (codesOf_any a len cap l _ hl (hR.alloc _) hG).mono ?_
  rintro e w1 ⟨g, rfl, hB1, hg1, hO1⟩
  have HO1 := hide hO1
  have hgl := (hO1.lt g rfl).2
  have HM1 : Hid (BookIs w1 w.heap.size 0 (bookD l 0)) := (World.ownsMap_made w Tryz.prog 9 (plainElem Tryz.prog 3)).kept (below_grown hB1) (by simp)
  have HB1 := hide (((Below.refl w.heap.size w).alloc (Nat.le_refl _) _).trans (hB1.mono (by simp)))
  have hz1 := hB1.size
  simp only [World.size_alloc] at hz1 hg1
  clear hB1 hO1 hR hG
  go_wp2
  go_loopw [10] (fun vi wr => ∃ k n : Nat, k ≤ len ∧ n ≤ k ∧ vi = .int .i64 (k : Int) ∧ BookIs wr w.heap.size n (bookD l k) ∧ w1.grownBy wr (some w.heap.size)) (fun vi _ => len - (intOf vi).toNat)
  case atStart => exact ⟨0, 0, Nat.zero_le _, Nat.le_refl _, rfl, unhide HM1, grown_refl _ _⟩
  case round =>
    obtain ⟨k, n, hk, hn, rfl, hM, hgr⟩ := hrel
    have HM := hide hM
    have HGr := hide hgr
    by_cases hlt : k < len
    · have c7 : wr.cell? ⟨g, k, none⟩ = some (.string (text (codeT l k))) := by
        refine hgr.cell ?_ (by simp; omega)
        rw [(unhide HO1).cellAt k (by omega)]
        simp [hlt]
      have HD : Hid (bookD l (k + 1) = if codeT l k = [] then bookD l k else (bookD l k).put (kT (codeT l k)) (.lit (.int .i64 (k : Int)))) := rfl
      have HKey : Hid (keyOf Tryz.prog 9 (.string (text (codeT l k))) = some (kT (codeT l k))) := Go.WideMaps.keyOf_string_mk Tryz.underlying9 (by
        rw [text_size]; unfold codeT; rw [hb_length]
        have := (unhide HG).ok k (by omega)
        unfold maxLen; omega)
      clear hM hgr
      have htl : (text (codeT l k)).toList.isEmpty = (codeT l k).isEmpty := by rw [Lib.toList_data]; cases codeT l k <;> rfl
      by_cases h0 : codeT l k = []
      · rw [if_pos h0] at HD
        have hem : (text (codeT l k)).toList.isEmpty = true := by rw [htl, h0]; rfl
        clear htl h0 HKey
        generalize text (codeT l k) = T at *
        go_wp2
        go_roundw
        case rel => exact ⟨k + 1, n, by omega, by omega, by go_num, by rw [unhide HD]; exact unhide HM, unhide HGr⟩
        case measure => simp [intOf]; omega
      · rw [if_neg h0] at HD
        have hem : (text (codeT l k)).toList.isEmpty = false := by
          rw [htl]
          cases e : codeT l k with
          | nil => exact absurd e h0
          | cons _ _ => rfl
        have hwf : (Lit.int .i64 (k : Int)).wf = true := WalkArith.wf_i64 (by omega)
        clear htl h0
        generalize text (codeT l k) = T at *
        generalize kT (codeT l k) = KK at *
        go_wp2_with (at_mapUpdate; refine wpList_mapUpdate_own _ rfl _ _ _ 68 rfl 9 3 klaw Tryz.underlying68 _ w.heap.size n _ rfl (unhide HM) (by unfold maxLen; omega) _ _ _ rfl rfl (unhide HKey) _ [] (plainElem_int Tryz.underlying3 hwf) ?_)
        intro w2 hM2 hg2
        have HM2 := hide hM2
        have HG2 := hide (grown_trans (unhide HGr) hg2)
        clear hM2 hg2
        go_wp2
        go_roundw
        case rel => exact ⟨k + 1, n + 1, by omega, by omega, by go_num, by rw [unhide HD]; exact unhide HM2, unhide HG2⟩
        case measure => simp [intOf]; omega
    · obtain rfl : k = len := by omega
      clear hM hgr
      go_wp2
      go_ret
      exact ⟨w.heap.size, n, rfl, Nat.le_refl _, unhide HM, (unhide HB1).grown (unhide HGr) (by omega) (fun j h => by cases h; exact Nat.le_refl _)⟩
end Go.Proofs.YtekgcoajgbpniacGreat

/-
  What the document's own RowOf says of bytes: their bits, the lowest one of the first byte first.
-/
namespace Go.Proofs.YtekgcoajgbpniacGreat
open Go.RowKit
set_option linter.unusedVariables false
set_option maxRecDepth 100000

theorem cells_snoc (l : List Bool) (b : Bool) (c : Int) (h : c = ((chr b).toNat : Int)) : Lib.byteCells (l.map chr) ++ [.int .u8 c] = Lib.byteCells ((l ++ [b]).map chr) := by
  rw [List.map_append, Lib.byteCells_append, h]; rfl

theorem chr_bit (x k : Nat) (hx : x < 256) : (48 + bits .and .u8 ((x : Int) / 2 ^ k) 1) % 256 = ((chr (x.testBit k)).toNat : Int) := by
  rw [u8_bit x k hx, bit_div]
  cases x.testBit k <;> rfl

set_option maxHeartbeats 2000000 in
theorem rowOf_yes (b o len cap : Nat) (xs : List Nat) (w : World) (hl : xs.length = len) (hx : ∀ j, xs.getD j 0 < 256) (hm : len ≤ 6000) (hb : b < w.heap.size) (hX : Bytes w b o xs) :
    Calls Tryz.prog 12 #[.slice (some ⟨b, o, none⟩) len cap] w fun e w' => e = .returned (.string (text (rowB xs len))) ∧ Below w.heap.size w w' := by
  have HX := hide hX
  have HL := hide hl
  have Hx := hide hx
  clear hX hl hx
  go_enter Tryz.func12, Tryz.ntmps12
  go_wp2
  go_loopw [9] (fun i wr => ∃ q : Nat, q ≤ len ∧ i = .int .i64 q ∧ IsB wr w.heap.size (Lib.byteCells ((rowB xs q).map chr)) ∧ Below w.heap.size w wr) (fun i _ => len - (intOf i).toNat)
  case atStart => exact ⟨0, Nat.zero_le _, rfl, IsB.new w, (Below.refl _ _).alloc (Nat.le_refl _) _⟩
  case round =>
    obtain ⟨q, hq, rfl, hI, hB⟩ := hrel
    have HI := hide hI
    have HB := hide hB
    have hzr := hB.size
    by_cases hlt : q < len
    · have c := (hB.cell (p := ⟨b, o + q, none⟩) hb).trans (unhide HX q (by rw [unhide HL]; exact hlt))
      have hx1 := unhide Hx q
      have H2 : Hid (rowB xs (q + 1) = rowB xs q ++ numBits (xs.getD q 0) 8) := rfl
      have HLN := hide (rowB_length xs q)
      generalize xs.getD q 0 = x at *
      clear hI hB
      go_wp2
      go_loopw [13] (fun i wq => ∃ k : Nat, k ≤ 8 ∧ i = .int .i64 k ∧ IsB wq w.heap.size (Lib.byteCells ((rowB xs q ++ numBits x k).map chr)) ∧ Below w.heap.size w wq) (fun i _ => 8 - (intOf i).toNat)
      case atStart => exact ⟨0, Nat.zero_le _, rfl, by simpa [numBits] using unhide HI, unhide HB⟩
      case round =>
        obtain ⟨k, hk, rfl, hI, hB⟩ := hrel
        have HI2 := hide hI
        have HB2 := hide hB
        clear hI hB
        by_cases hlt2 : k < 8
        · have hbl : (Lib.byteCells ((rowB xs q ++ numBits x k).map chr)).length ≤ 1000000 := by
            rw [Lib.byteCells_length, List.length_map, List.length_append, unhide HLN, numBits_length]; omega
          have H3 : Hid (numBits x (k + 1) = numBits x k ++ [x.testBit k]) := rfl
          go_wp2_with fail
          refine (writeByte_any _ _ _ _ (unhide HI2) hbl).mono ?_
          rintro e w3 ⟨rfl, hI3, hB3⟩
          have HI3 := hide hI3
          have HB3 := hide ((unhide HB2).trans hB3)
          clear hI3 hB3
          go_wp2
          go_roundw
          case rel => exact ⟨k + 1, by omega, by go_num, by rw [unhide H3, ← List.append_assoc, ← cells_snoc _ _ _ (chr_bit x k hx1)]; exact unhide HI3, unhide HB3⟩
          case measure => simp [intOf]; omega
        · obtain rfl : k = 8 := by omega
          go_wp2
          go_roundw
          case rel => exact ⟨q + 1, by omega, by go_num, by rw [unhide H2]; exact unhide HI2, unhide HB2⟩
          case measure => simp [intOf]; omega
    · obtain rfl : q = len := by omega
      clear hI hB
      go_wp2_with fail
      refine (string_any _ _ _ (unhide HI) hzr).mono ?_
      rintro e w5 ⟨rfl, hB5⟩
      have HB5 := hide ((unhide HB).trans hB5)
      clear hB5
      go_wp2
      go_ret
      exact ⟨rfl, unhide HB5⟩

theorem rowOf_none (a : Option Addr) (cap : Nat) (w : World) :
    Calls Tryz.prog 12 #[.slice a 0 cap] w fun e w' => e = .returned (.string (text [])) ∧ Below w.heap.size w w' := by
  go_enter Tryz.func12, Tryz.ntmps12
  go_wp2
  go_loopw [9] (fun i wr => i = .int .i64 0 ∧ IsB wr w.heap.size (Lib.byteCells ([].map chr)) ∧ Below w.heap.size w wr) (fun i _ => 0)
  case atStart => exact ⟨rfl, IsB.new w, (Below.refl _ _).alloc (Nat.le_refl _) _⟩
  case round =>
    obtain ⟨rfl, hI, hB⟩ := hrel
    have HI := hide hI
    have HB := hide hB
    have hzr := hB.size
    clear hI hB
    go_wp2_with fail
    refine (string_any _ _ _ (unhide HI) hzr).mono ?_
    rintro e w5 ⟨rfl, hB5⟩
    have HB5 := hide ((unhide HB).trans hB5)
    clear hB5
    go_wp2
    go_ret
    exact ⟨rfl, unhide HB5⟩

theorem rowOf_in (a : Option Addr) (len cap : Nat) (xs : List Nat) (w : World) (hl : xs.length = len) (hx : ∀ j, xs.getD j 0 < 256) (hm : len ≤ 6000) (hX : BytesIn w a xs) :
    Calls Tryz.prog 12 #[.slice a len cap] w fun e w' => e = .returned (.string (text (rowB xs len))) ∧ Below w.heap.size w w' := by
  rcases hX with rfl | ⟨b, o, rfl, hb, hX⟩
  · obtain rfl : len = 0 := by simp at hl; omega
    exact rowOf_none a cap w
  · exact rowOf_yes b o len cap xs w hl hx hm hb hX
end Go.Proofs.YtekgcoajgbpniacGreat

/-
  The document's own Next reads what code's reader reads.
-/
namespace Go.Proofs.YtekgcoajgbpniacGreat
open Go.RowKit Go.Maps
set_option linter.unusedVariables false
set_option maxRecDepth 100000

theorem plcK_inv (l : List Int) (m : Nat) : ∀ k, k ≤ l.length → ∀ i q, (plcK l m k)[i]? = some q → q < k ∧ l.getD q 0 = (m : Int) ∧ cnt (l.take q) m = i
  | 0, _, i, q, h => by simp [plcK] at h
  | k + 1, hk, i, q, h => by
    rw [plcK] at h
    have hlen := plcK_length l m k (by omega)
    by_cases hi : i < (plcK l m k).length
    · rw [List.getElem?_append_left hi] at h
      obtain ⟨a, b, c⟩ := plcK_inv l m k (by omega) i q h
      exact ⟨by omega, b, c⟩
    · rw [List.getElem?_append_right (by omega)] at h
      by_cases e : l.getD k 0 = (m : Int)
      · rw [if_pos e] at h
        have hi0 : i - (plcK l m k).length = 0 := by
          by_cases h0 : i - (plcK l m k).length = 0
          · exact h0
          · obtain ⟨j, hj⟩ : ∃ j, i - (plcK l m k).length = j + 1 := ⟨_, (Nat.succ_pred h0).symm⟩
            rw [hj] at h; simp at h
        rw [hi0] at h
        simp at h
        subst h
        exact ⟨by omega, e, by omega⟩
      · rw [if_neg e] at h
        simp at h

theorem hit_iff (l : List Int) (hG : Good l) (bs : List Nat) (p n : Nat) (h1 : 1 ≤ n) (h15 : n ≤ 15) : Hit l bs p n ↔ ∃ q, q < l.length ∧ codeT l q = hb (codeAt bs p n) n := by
  constructor
  · rintro ⟨a, b⟩
    obtain ⟨q, hq⟩ := plc_some l (k := n) (i := codeAt bs p n - firstN (cnt l) n) (by omega)
    obtain ⟨q1, q2, q3⟩ := plcK_inv l n l.length (Nat.le_refl _) _ _ hq
    refine ⟨q, q1, ?_⟩
    have e := codeN_nxt l q2
    unfold nxt at e
    rw [if_neg (by omega)] at e
    unfold codeT
    rw [q2, Int.toNat_natCast, e, q3, show firstN (cnt l) n + (codeAt bs p n - firstN (cnt l) n) = codeAt bs p n by omega]
  · rintro ⟨q, hq, e⟩
    obtain ⟨m, hm⟩ := Int.eq_ofNat_of_zero_le (hG.ok q hq).1
    have hl := congrArg List.length e
    unfold codeT at hl e
    rw [hm, Int.toNat_natCast] at hl e
    rw [hb_length, hb_length] at hl
    subst hl
    obtain ⟨c1, c2, c3⟩ := code_lt l hG hq hm (by omega)
    have := hb_inj m _ _ c3 (codeAt_lt bs p m) e
    unfold Hit
    rw [← this]
    exact ⟨c1, c2⟩
theorem hit_place (l : List Int) (hG : Good l) (bs : List Nat) (p n q : Nat) (h1 : 1 ≤ n) (hq : q < l.length) (e : codeT l q = hb (codeAt bs p n) n) : (plcK l n l.length)[codeAt bs p n - firstN (cnt l) n]? = some q := by
  obtain ⟨m, hm⟩ := Int.eq_ofNat_of_zero_le (hG.ok q hq).1
  have hl := congrArg List.length e
  unfold codeT at hl e
  rw [hm, Int.toNat_natCast] at hl e
  rw [hb_length, hb_length] at hl
  subst hl
  obtain ⟨c1, c2, c3⟩ := code_lt l hG hq hm (by omega)
  have e2 := hb_inj m _ _ c3 (codeAt_lt bs p m) e
  have e3 := codeN_nxt l hm
  unfold nxt at e3
  rw [if_neg (by omega)] at e3
  rw [← e2, show codeN l q - firstN (cnt l) m = cnt (l.take q) m by omega]
  exact plcK_at l hq hm
theorem pre_hb (bs : List Nat) (n2 p : Nat) : ∀ n, p + n ≤ 8 * n2 → ((rowB bs n2).drop p).take n = hb (codeAt bs p n) n
  | 0, _ => by simp [hb]
  | n + 1, h => by
    have ih := pre_hb bs n2 p n (by omega)
    have hlen := rowB_length bs n2
    have hb1 := bitL_lt bs (p + n)
    have hdl : n < ((rowB bs n2).drop p).length := by rw [List.length_drop]; omega
    rw [List.take_succ_eq_append_getElem hdl, ih, codeAt, hb, show (2 * codeAt bs p n + bitL bs (p + n)) / 2 = codeAt bs p n by omega]
    congr 2
    have e1 : ((rowB bs n2).drop p)[n] = (rowB bs n2).getD (p + n) false := by
      rw [List.getElem_drop]
      simp [List.getD, show p + n < (rowB bs n2).length by omega]
    rw [e1, rowB_getD bs n2 (p + n) (by omega), bitL_at]
    cases bitAt bs (p + n) <;> simp <;> omega
end Go.Proofs.YtekgcoajgbpniacGreat
