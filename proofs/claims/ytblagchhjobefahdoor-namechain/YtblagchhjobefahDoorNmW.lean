/-
  Package name: where a text leads, from the parts of a folder.
-/
import Derived.Test.YtblagchhjobefahDoorNmU
import Derived.Maps.AppendAt
namespace Go.Proofs.YtblagchhjobefahDoor
open Go.RowKit
set_option linter.unusedVariables false
set_option maxRecDepth 100000

def walkE (own : Nat) (acc ps : List (List UInt8)) : Nat := match walkF own acc ps with
  | none => 1
  | some _ => 0
def walkR (own : Nat) (acc ps : List (List UInt8)) : List (List UInt8) := (walkF own acc ps).getD []
theorem walkE_none {own : Nat} {acc ps : List (List UInt8)} (h : walkF own acc ps = none) : walkE own acc ps = 1 ∧ walkR own acc ps = [] := by simp [walkE, walkR, h]
theorem walkE_some {own : Nat} {acc ps r : List (List UInt8)} (h : walkF own acc ps = some r) : walkE own acc ps = 0 ∧ walkR own acc ps = r := by simp [walkE, walkR, h]
theorem walkF_skip {own : Nat} {acc r : List (List UInt8)} {p : List UInt8} (h : p = [] ∨ p = [46]) : walkF own acc (p :: r) = walkF own acc r := by rw [walkF, if_pos h]
theorem walkF_stop {own : Nat} {acc r : List (List UInt8)} (h : acc.length ≤ own) : walkF own acc ([46, 46] :: r) = none := by rw [walkF, if_neg (by simp), if_pos rfl, if_pos h]
theorem walkF_up {own : Nat} {acc r : List (List UInt8)} (h : own < acc.length) : walkF own acc ([46, 46] :: r) = walkF own acc.dropLast r := by rw [walkF, if_neg (by simp), if_pos rfl, if_neg (by omega)]
theorem walkF_on {own : Nat} {acc r : List (List UInt8)} {p : List UInt8} (h0 : p ≠ []) (h1 : p ≠ [46]) (h2 : p ≠ [46, 46]) : walkF own acc (p :: r) = walkF own (acc ++ [p]) r := by rw [walkF, if_neg (by simp [h0, h1]), if_neg h2]

theorem SRow.grown {w w' : World} {b : Nat} {v : Value} {ps : List (List UInt8)} {r : Option Nat} (h : SRow w b v ps) (hg : w.grownBy w' r) (hn : v.ownBlock = none ∨ v.ownBlock ≠ r) : SRow w' b v ps := h.kept hg hn
theorem SRow.lt' {w : World} {b : Nat} {v : Value} {ps : List (List UInt8)} (h : SRow w b v ps) {k : Nat} (hk : v.ownBlock = some k) : b ≤ k ∧ k < w.heap.size := World.ownsRow.lt h k hk
theorem SRow.slice {w : World} {b : Nat} {v : Value} {ps : List (List UInt8)} (h : SRow w b v ps) : ∃ a cap, v = .slice a ps.length cap := by
  rcases h.cases with ⟨rfl, rfl⟩ | ⟨g, cap, rfl, _⟩
  · exact ⟨none, 0, rfl⟩
  · exact ⟨_, cap, rfl⟩
theorem alloc_old {w : World} {k : Nat} (o : Obj) (hk : k < w.heap.size) : (w.alloc o).heap[k]? = w.heap[k]? := Lib.alloc_old w o k hk

theorem one_cell1 {x : Value} (h : x.oneCell' = true) : ∀ u ∈ [x], u.oneCell' = true := by
  intro u hu
  rw [List.mem_singleton] at hu
  rw [hu]
  exact h

set_option maxHeartbeats 2000000 in
theorem walk_any (b : Nat) (v : Value) (acc : List (List UInt8)) (s : List UInt8) (w : World) (h : SRow w b v acc) (hb : b ≤ w.heap.size) (ha : acc.length ≤ 100) (hs : s.length ≤ 1000) :
    Calls Tryd.prog 14 #[v, .string (B s)] w fun e w' => ∃ v', e = .returned (.tuple #[v', .int .i64 (walkE acc.length acc (spl s) : Nat)]) ∧ SRow w' b v' (walkR acc.length acc (spl s)) ∧ Below b w w' ∧ w.heap.size ≤ w'.heap.size := by
  obtain ⟨i0, hi, hz0, hz1, hz2⟩ := info_parts info_str
  obtain ⟨a0, c0, rfl⟩ := h.slice
  have hsp := split_any (B s) w (by rw [B_size]; omega)
  rw [data_B] at hsp
  have hcl : (spl s).length ≤ 1001 := by
    have := List.count_le_length (a := (47 : UInt8)) (l := s)
    rw [spl_len]; omega
  obtain ⟨L, hL⟩ : ∃ L, (spl s).length = L := ⟨_, rfl⟩
  rw [hL] at hsp hcl
  have HL := hide hL
  clear hL
  obtain ⟨own, hown⟩ : ∃ own, acc.length = own := ⟨_, rfl⟩
  have HOL := hide hown
  rw [hown] at ha ⊢
  have H0 := hide h
  clear hown h
  have HSl := hide (spl_le s)
  generalize B s = t at *
  go_enter Tryd.func14, Tryd.ntmps14
  go_wp2_with (go_at_call 12; refine hsp.mono ?_; rintro e w' ⟨rfl, hw⟩; rw [hw])
  clear hsp
  obtain ⟨g, hg⟩ : ∃ g, w.heap.size = g := ⟨_, rfl⟩
  have HG := hide hg
  have hbg : b ≤ g := by omega
  have HST : Hid (Below b w (w.alloc (.cells (strV (spl s)).toArray 9)) ∧ (w.alloc (.cells (strV (spl s)).toArray 9)).heap[g]? = some (.cells (strV (spl s)).toArray 9 (0, 0)) ∧ g < (w.alloc (.cells (strV (spl s)).toArray 9)).heap.size) :=
    ⟨(Below.refl _ _).alloc hb _, by rw [← hg]; exact heap_alloc_new w _, by simp; omega⟩
  have HS0 : Hid (SRow (w.alloc (.cells (strV (spl s)).toArray 9)) b (.slice a0 own c0) acc) := by
    have := (unhide H0).below (below_new w (.cells (strV (spl s)).toArray 9))
    rw [unhide HOL] at this
    exact this
  have HN0 : Hid ((Value.slice a0 own c0).ownBlock ≠ some g) := by
    intro e
    have h1 := (unhide H0).lt' (k := g) (by rw [unhide HOL]; exact e)
    omega
  generalize w.alloc (.cells (strV (spl s)).toArray 9) = W1 at *
  rw [hg]
  clear hg hb
  go_loopw [0, 8, 14, 23, 26] (fun v0 _ i _ _ wr => ∃ (k n : Nat) (acc' : List (List UInt8)) (a : Option Addr) (c : Nat), k ≤ L ∧ i = .int .i64 k ∧ v0 = .slice a n c ∧ own ≤ n ∧ n ≤ own + k ∧ Hid (acc'.length = n) ∧ Hid (SRow wr b (.slice a n c) acc') ∧ Hid ((Value.slice a n c).ownBlock ≠ some g) ∧ Hid (Below b w wr) ∧ Hid (wr.heap[g]? = some (.cells (strV (spl s)).toArray 9 (0, 0))) ∧ g < wr.heap.size ∧ Hid (walkF own acc' ((spl s).drop k) = walkF own acc (spl s))) (fun _ _ i _ _ _ => L - (intOf i).toNat)
  case atStart => exact ⟨0, own, acc, a0, c0, Nat.zero_le _, rfl, rfl, Nat.le_refl _, by omega, unhide HOL, unhide HS0, unhide HN0, (unhide HST).1, (unhide HST).2.1, (unhide HST).2.2, rfl⟩
  case round =>
    obtain ⟨k, n, ac, a, c, hk, rfl, rfl, hn1, hn2, HA, HR, HN, HB, HC, hgs, HF⟩ := hrel
    by_cases hlt : k < L
    · have hlt' : k < (spl s).length := by rw [unhide HL]; exact hlt
      have hcell : wr.cell? ⟨g, k, none⟩ = some (.string (B ((spl s)[k]'hlt'))) := by
        rw [Lib.cell_of_heap (unhide HC)]
        simp [strV, hlt']
      have HD : Hid ((spl s).drop k = (spl s)[k]'hlt' :: (spl s).drop (k + 1)) := List.drop_eq_getElem_cons hlt'
      have hql := (unhide HSl) _ (List.getElem_mem hlt')
      generalize (spl s)[k]'hlt' = q at *
      by_cases hq0 : q = [] ∨ q = [46]
      · have HF2 : Hid (walkF own ac ((spl s).drop (k + 1)) = walkF own acc (spl s)) := by
          have := unhide HF
          rw [unhide HD, walkF_skip hq0] at this
          exact this
        clear HF HD
        rcases hq0 with rfl | rfl
        · have hcell2 : wr.cell? ⟨g, k, none⟩ = some (.string ⟨#[]⟩) := hcell
          clear hcell
          go_wp2
          go_roundw
          case rel => exact ⟨k + 1, n, ac, a, c, by omega, by go_num, rfl, hn1, by omega, HA, HR, HN, HB, HC, hgs, HF2⟩
          case measure => simp [intOf]; omega
        · have hcell2 : wr.cell? ⟨g, k, none⟩ = some (.string ⟨#[46]⟩) := hcell
          clear hcell
          go_wp2
          go_roundw
          case rel => exact ⟨k + 1, n, ac, a, c, by omega, by go_num, rfl, hn1, by omega, HA, HR, HN, HB, HC, hgs, HF2⟩
          case measure => simp [intOf]; omega
      · by_cases hq2 : q = [46, 46]
        · subst hq2
          have hcell2 : wr.cell? ⟨g, k, none⟩ = some (.string ⟨#[46, 46]⟩) := hcell
          clear hcell hq0 hql
          by_cases hno : n = own
          · subst hno
            have HX : Hid (walkF n acc (spl s) = none) := by
              have := unhide HF
              rw [unhide HD, walkF_stop (by rw [unhide HA]; exact Nat.le_refl _)] at this
              exact this.symm
            go_wp2
            go_ret2
            obtain ⟨e1, e2⟩ := walkE_none (unhide HX)
            rw [e1, e2]
            exact ⟨_, rfl, SRow.nil _ _, unhide HB, by have := unhide HG; omega⟩
          · have hno' : ¬ (n : Int) = (own : Int) := by omega
            have HF2 : Hid (walkF own ac.dropLast ((spl s).drop (k + 1)) = walkF own acc (spl s)) := by
              have := unhide HF
              rw [unhide HD, walkF_up (by rw [unhide HA]; omega)] at this
              exact this
            obtain ⟨g0, hcap, rfl⟩ : ∃ g0, n ≤ c ∧ a = some ⟨g0, 0, none⟩ := by
              rcases (unhide HR).cases with ⟨e, e2⟩ | ⟨g0, cap, e, _, _, e3, _⟩
              · injection e with e1 e2 e3
                omega
              · injection e with f1 f2 f3
                subst f1; subst f3
                exact ⟨g0, by rw [← unhide HA]; exact e3, rfl⟩
            have HR2 : Hid (SRow wr b (.slice (some ⟨g0, 0, none⟩) (n - 1) c) ac.dropLast) := by
              have h1 := unhide HR
              rw [← unhide HA] at h1
              have := h1.cut
              rw [unhide HA] at this
              exact this
            have HA2 : Hid (ac.dropLast.length = n - 1) := by rw [Hid, List.length_dropLast, unhide HA]
            have h1n : 1 ≤ n := by omega
            have hnm : ((n : Int) - 1).toNat = n - 1 := by omega
            clear HF HD HA HR hno
            go_wp2
            go_roundw
            case rel => exact ⟨k + 1, n - 1, ac.dropLast, _, c, by omega, by go_num, rfl, by omega, by omega, HA2, HR2, unhide HN, HB, HC, hgs, HF2⟩
            case measure => simp [intOf]; omega
        · have hq0' : q ≠ [] := fun e => hq0 (.inl e)
          have hq1' : q ≠ [46] := fun e => hq0 (.inr e)
          have HF2 : Hid (walkF own (ac ++ [q]) ((spl s).drop (k + 1)) = walkF own acc (spl s)) := by
            have := unhide HF
            rw [unhide HD, walkF_on hq0' hq1' hq2] at this
            exact this
          have e0 := str_none (B q) hq0'
          have e1 := str_ne (B q) [46] hq1'
          have e2 := str_ne (B q) [46, 46] hq2
          have HV : Hid (strV ac ++ [Value.string (B q)] = strV (ac ++ [q])) := by simp [Hid, strV]
          have HO : Hid (wr.ownsRow b 9 1 (.slice a n c) n (strV ac)) := by
            have := unhide HR
            unfold SRow at this
            rw [unhide HA] at this
            exact this
          have HA2 : Hid ((ac ++ [q]).length = n + 1) := by simp [Hid, unhide HA]
          have hbr : b ≤ wr.heap.size := by omega
          generalize B q = qb at *
          clear HF HD hq0 hq2 hq0' hq1' hql HA HR
          go_wp2_with (at_builtin; refine wpList_append_own_at _ rfl _ _ 30 rfl b 9 i0 (.string ByteArray.empty) 1 16 Tryd.underlying30 hi hz0 hz1 hz2 rfl (by decide) _ n (strV ac) rfl ((unhide HO).alloc _) ⟨wr.heap.size, 0, none⟩ 1 1 [.string qb] rfl rfl (cell_one_new _ _ _) (one_cell1 rfl) (by unfold maxLen; omega) (by omega) (by simp; omega) ?_; intro v' w2 hown' hgrow hnil hat; have HO2 := hide hown'; have HG2 := hide hgrow; have HT := hide hat; clear hown' hgrow hnil hat)
          obtain ⟨a', c', rfl⟩ : ∃ a' c', v' = .slice a' (n + 1) c' := by
            rcases (unhide HO2).2 with ⟨_, h0⟩ | ⟨g', cap', cur', hv, _⟩
            · omega
            · exact ⟨_, _, hv⟩
          go_wp2
          go_roundw
          case rel =>
            have hG2 := unhide HG2
            refine ⟨k + 1, n + 1, ac ++ [q], a', c', by omega, by go_num, rfl, by omega, by omega, HA2, ?_, ?_, ?_, ?_, ?_, HF2⟩
            · have h1 := unhide HO2
              rw [unhide HV] at h1
              show World.ownsRow _ _ _ _ _ _ _
              rw [unhide HA2]
              exact h1
            · intro e
              rcases unhide HT with h1 | h1
              · rw [h1] at e; exact (unhide HN) e
              · rw [h1] at e
                injection e with e
                simp at e
                omega
            · refine ((unhide HB).alloc hbr _).grown hG2 (by simp; omega) ?_
              intro j hj
              exact ((unhide HO).lt j hj).1
            · have h1 : (wr.alloc (.cells #[.string qb] 9)).heap[g]? = some (.cells (strV (spl s)).toArray 9 (0, 0)) := by rw [alloc_old _ hgs]; exact unhide HC
              exact (hG2.block g (by simp; omega) (fun e => (unhide HN) e.symm)).trans h1
            · have := hG2.size
              simp at this
              omega
          case measure => simp [intOf]; omega
    · obtain rfl : k = L := by omega
      go_wp2
      go_ret2
      have hd : walkF own ac [] = walkF own acc (spl s) := by
        have := unhide HF
        rw [List.drop_eq_nil_of_le (by rw [unhide HL]; exact Nat.le_refl _)] at this
        exact this
      obtain ⟨e1, e2⟩ := walkE_some hd.symm
      rw [e1, e2]
      refine ⟨_, rfl, unhide HR, unhide HB, by have := unhide HG; omega⟩
end Go.Proofs.YtblagchhjobefahDoor
