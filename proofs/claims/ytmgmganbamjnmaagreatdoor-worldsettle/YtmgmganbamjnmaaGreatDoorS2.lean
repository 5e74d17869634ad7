/-
  Package name: which bytes may stand in a part, which parts may stand in a name.
-/
import Derived.Test.YtmgmganbamjnmaaGreatDoorQ1
import Derived.Test.YtmgmganbamjnmaaGreatDoorQ0
import Derived.Shelf.Strings.Split
namespace Go.Proofs.YtmgmganbamjnmaaGreatDoor
open Go.RowKit
set_option linter.unusedVariables false
set_option maxRecDepth 100000

def spn : List (Nat × Nat) := [(97, 122), (65, 90), (48, 57), (46, 46), (95, 95), (45, 45)]
def spanB (c : Nat) (p : Nat × Nat) : Bool := decide (p.1 ≤ c) && decide (c ≤ p.2)
theorem okB_spn : ∀ c : UInt8, okB c = spn.any (spanB c.toNat) := by
  have h : ∀ n : Fin 256, okB (UInt8.ofNat n.val) = spn.any (spanB n.val) := by decide +kernel
  intro c
  have := h ⟨c.toNat, c.toNat_lt⟩
  simpa using this
theorem idxS0 (W : World) : (Instr.index 154 (.agg #[.int .u8 97, .int .u8 122, .int .u8 65, .int .u8 90, .int .u8 48, .int .u8 57, .int .u8 46, .int .u8 46, .int .u8 95, .int .u8 95, .int .u8 45, .int .u8 45]) (.int .i64 0)).run Tryz.prog W = .ok (.agg #[.int .u8 97, .int .u8 122]) W := by kernel_rfl
theorem idxS1 (W : World) : (Instr.index 154 (.agg #[.int .u8 97, .int .u8 122, .int .u8 65, .int .u8 90, .int .u8 48, .int .u8 57, .int .u8 46, .int .u8 46, .int .u8 95, .int .u8 95, .int .u8 45, .int .u8 45]) (.int .i64 1)).run Tryz.prog W = .ok (.agg #[.int .u8 65, .int .u8 90]) W := by kernel_rfl
theorem idxS2 (W : World) : (Instr.index 154 (.agg #[.int .u8 97, .int .u8 122, .int .u8 65, .int .u8 90, .int .u8 48, .int .u8 57, .int .u8 46, .int .u8 46, .int .u8 95, .int .u8 95, .int .u8 45, .int .u8 45]) (.int .i64 2)).run Tryz.prog W = .ok (.agg #[.int .u8 48, .int .u8 57]) W := by kernel_rfl
theorem idxS3 (W : World) : (Instr.index 154 (.agg #[.int .u8 97, .int .u8 122, .int .u8 65, .int .u8 90, .int .u8 48, .int .u8 57, .int .u8 46, .int .u8 46, .int .u8 95, .int .u8 95, .int .u8 45, .int .u8 45]) (.int .i64 3)).run Tryz.prog W = .ok (.agg #[.int .u8 46, .int .u8 46]) W := by kernel_rfl
theorem idxS4 (W : World) : (Instr.index 154 (.agg #[.int .u8 97, .int .u8 122, .int .u8 65, .int .u8 90, .int .u8 48, .int .u8 57, .int .u8 46, .int .u8 46, .int .u8 95, .int .u8 95, .int .u8 45, .int .u8 45]) (.int .i64 4)).run Tryz.prog W = .ok (.agg #[.int .u8 95, .int .u8 95]) W := by kernel_rfl
theorem idxS5 (W : World) : (Instr.index 154 (.agg #[.int .u8 97, .int .u8 122, .int .u8 65, .int .u8 90, .int .u8 48, .int .u8 57, .int .u8 46, .int .u8 46, .int .u8 95, .int .u8 95, .int .u8 45, .int .u8 45]) (.int .i64 5)).run Tryz.prog W = .ok (.agg #[.int .u8 45, .int .u8 45]) W := by kernel_rfl
theorem idxS (k : Nat) (hk : k < 6) (W : World) : (Instr.index 154 (.agg #[.int .u8 97, .int .u8 122, .int .u8 65, .int .u8 90, .int .u8 48, .int .u8 57, .int .u8 46, .int .u8 46, .int .u8 95, .int .u8 95, .int .u8 45, .int .u8 45]) (.int .i64 (k : Int))).run Tryz.prog W = .ok (.agg #[.int .u8 ((spn.getD k (0, 0)).1 : Nat), .int .u8 ((spn.getD k (0, 0)).2 : Nat)]) W := by
  have h : k = 0 ∨ k = 1 ∨ k = 2 ∨ k = 3 ∨ k = 4 ∨ k = 5 := by omega
  rcases h with rfl | rfl | rfl | rfl | rfl | rfl
  · exact idxS0 W
  · exact idxS1 W
  · exact idxS2 W
  · exact idxS3 W
  · exact idxS4 W
  · exact idxS5 W
theorem spn_lt (k : Nat) : (spn.getD k (0, 0)).1 < 256 ∧ (spn.getD k (0, 0)).2 < 256 := by
  match k with
  | 0 => decide
  | 1 => decide
  | 2 => decide
  | 3 => decide
  | 4 => decide
  | 5 => decide
  | k + 6 => simp [spn]
theorem spn_any (n k : Nat) (hk : k < 6) (h : spanB n (spn.getD k (0, 0)) = true) : spn.any (spanB n) = true := by
  rw [List.any_eq_true]
  refine ⟨spn.getD k (0, 0), ?_, h⟩
  have hl : k < spn.length := hk
  simp [List.getD, hl]
theorem spn_none (n : Nat) (h : ∀ j, j < 6 → spanB n (spn.getD j (0, 0)) = false) : spn.any (spanB n) = false := by
  rw [List.any_eq_false]
  intro x hx
  obtain ⟨j, hj, rfl⟩ := List.mem_iff_getElem.1 hx
  have := h j hj
  simp [List.getD, hj] at this
  simp [this]

set_option maxHeartbeats 1000000 in
theorem mayStand_num (n : Nat) (hn : n < 256) (w : World) :
    Calls Tryz.prog 119 #[.int .u8 n] w fun e w' => e = .returned (.bool (spn.any (spanB n))) ∧ Below w.heap.size w w' := by
  have hI := idxS
  go_enter Tryz.func119, Tryz.ntmps119
  go_wp2
  go_loopw [12] (fun i wr => ∃ k : Nat, k ≤ 6 ∧ i = .int .i64 k ∧ Hid (∀ j, j < k → spanB n (spn.getD j (0, 0)) = false) ∧ Hid (Below w.heap.size w wr)) (fun i _ => 6 - (intOf i).toNat)
  case atStart => exact ⟨0, Nat.zero_le _, rfl, fun j hj => absurd hj (by omega), Below.refl _ _⟩
  case round =>
    obtain ⟨k, hk, rfl, HN, HB⟩ := hrel
    by_cases hlt : k < 6
    · have hix := hI k hlt
      obtain ⟨h1, h2⟩ := spn_lt k
      have HS : Hid (spanB n (spn.getD k (0, 0)) = (decide ((spn.getD k (0, 0)).1 ≤ n) && decide (n ≤ (spn.getD k (0, 0)).2))) := rfl
      have HY := hide (spn_any n k hlt)
      generalize (spn.getD k (0, 0)).1 = lo at *
      generalize (spn.getD k (0, 0)).2 = hi at *
      clear hI
      have hz := (unhide HB).size
      by_cases ha : lo ≤ n
      · by_cases hb : n ≤ hi
        · go_wp2
          go_ret
          refine ⟨ret_bool ((unhide HY) ?_).symm, (unhide HB).alloc (unhide HB).size _⟩
          rw [unhide HS]; simp [ha, hb]
        · go_wp2
          go_roundw
          case rel =>
            refine ⟨k + 1, by omega, by go_num, fun j hj => ?_, (unhide HB).alloc (unhide HB).size _⟩
            by_cases hjk : j = k
            · subst hjk; rw [unhide HS]; simp [hb]
            · exact (unhide HN) j (by omega)
          case measure => simp [intOf]; omega
      · go_wp2
        go_roundw
        case rel =>
          refine ⟨k + 1, by omega, by go_num, fun j hj => ?_, (unhide HB).alloc (unhide HB).size _⟩
          by_cases hjk : j = k
          · subst hjk; rw [unhide HS]; simp [ha]
          · exact (unhide HN) j (by omega)
        case measure => simp [intOf]; omega
    · obtain rfl : k = 6 := by omega
      go_wp2
      go_ret
      exact ⟨ret_bool (spn_none n (unhide HN)).symm, unhide HB⟩

/-- which parts may stand -/
theorem okP_bytes (p : ByteArray) (h0 : p.data.toList ≠ []) (h1 : p.data.toList ≠ [46]) (h2 : p.data.toList ≠ [46, 46]) (hall : ∀ j (h : j < p.size), spn.any (spanB (p[j]'h).toNat) = true) : okP p.data.toList = true := by
  simp only [okP, Bool.and_eq_true, bne_iff_ne]
  refine ⟨⟨⟨h0, h1⟩, h2⟩, ?_⟩
  rw [List.all_eq_true]
  intro x hx
  obtain ⟨j, hj, rfl⟩ := List.mem_iff_getElem.1 hx
  rw [okB_spn]
  have hs : j < p.size := by rw [size_len]; exact hj
  exact hall j hs
theorem okP_bad (p : ByteArray) (j : Nat) (h : j < p.size) (hbad : spn.any (spanB (p[j]'h).toNat) = false) : okP p.data.toList = false := by
  have hb : okB (p[j]'h) = false := by rw [okB_spn]; exact hbad
  have : p.data.toList.all okB = false := by
    rw [List.all_eq_false]
    refine ⟨p[j]'h, ?_, by simp [hb]⟩
    exact Array.mem_toList_iff.2 (Array.getElem_mem _)
  simp [okP, this]

theorem str_ne (p : ByteArray) (l : List UInt8) (h : ¬ p.data.toList = l) : (p.toList == l) = false := by
  rw [Lib.toList_data]
  simpa using h
theorem str_none (p : ByteArray) (h : ¬ p.data.toList = []) : p.toList.isEmpty = false := by
  rw [Lib.toList_data]
  cases hl : p.data.toList with
  | nil => exact absurd hl h
  | cons x xs => rfl
set_option maxHeartbeats 1000000 in
theorem isPart_any (p : ByteArray) (hp : p.size ≤ maxLen) (w : World) :
    Calls Tryz.prog 104 #[.string p] w fun e w' => e = .returned (.bool (okP p.data.toList)) ∧ Below w.heap.size w w' := by
  by_cases h0 : p.data.toList = []
  · obtain rfl : p = ⟨#[]⟩ := by rw [← B_data p, h0]; rfl
    go_enter Tryz.func104, Tryz.ntmps104
    go_wp2
    go_ret
    exact ⟨rfl, Below.refl _ _⟩
  by_cases h1 : p.data.toList = [46]
  · obtain rfl : p = ⟨#[46]⟩ := by rw [← B_data p, h1]; rfl
    go_enter Tryz.func104, Tryz.ntmps104
    go_wp2
    go_ret
    exact ⟨rfl, Below.refl _ _⟩
  by_cases h2 : p.data.toList = [46, 46]
  · obtain rfl : p = ⟨#[46, 46]⟩ := by rw [← B_data p, h2]; rfl
    go_enter Tryz.func104, Tryz.ntmps104
    go_wp2
    go_ret
    exact ⟨rfl, Below.refl _ _⟩
  have HP := hide (okP_bytes p h0 h1 h2)
  have e0 := str_none p h0
  have e1 := str_ne p [46] h1
  have e2 := str_ne p [46, 46] h2
  clear h0 h1 h2
  have HQ := hide (okP_bad p)
  go_enter Tryz.func104, Tryz.ntmps104
  go_wp2
  go_loopw [3, 16] (fun _ i wr => ∃ k : Nat, k ≤ p.size ∧ i = .int .i64 k ∧ Hid (∀ j (h : j < p.size), j < k → spn.any (spanB (p[j]'h).toNat) = true) ∧ Hid (Below w.heap.size w wr)) (fun _ i _ => p.size - (intOf i).toNat)
  case atStart => exact ⟨0, Nat.zero_le _, rfl, fun j _ hj => absurd hj (by omega), Below.refl _ _⟩
  case round =>
    obtain ⟨k, hk, rfl, HN, HB⟩ := hrel
    unfold maxLen at hp
    have hz := (unhide HB).size
    by_cases hlt : k < p.size
    · have HM := hide (fun W => mayStand_num (p[k]'hlt).toNat (p[k]'hlt).toNat_lt W)
      cases hm : spn.any (spanB (p[k]'hlt).toNat) with
      | true =>
        rw [hm] at HM
        have HM2 := hide hm
        clear hm
        go_wp2_with (go_at_call 119; refine ((unhide HM) _).mono ?_; rintro e w1 ⟨rfl, hb1⟩; have HB1 := hide ((unhide HB).trans (hb1.mono hz)); clear hb1)
        go_roundw
        case rel =>
          refine ⟨k + 1, by omega, by go_num, fun j h hj => ?_, unhide HB1⟩
          by_cases hjk : j = k
          · subst hjk; exact unhide HM2
          · exact (unhide HN) j h (by omega)
        case measure => simp [intOf]; omega
      | false =>
        rw [hm] at HM
        have HM2 := hide hm
        clear hm
        go_wp2_with (go_at_call 119; refine ((unhide HM) _).mono ?_; rintro e w1 ⟨rfl, hb1⟩; have HB1 := hide ((unhide HB).trans (hb1.mono hz)); clear hb1)
        go_ret
        exact ⟨ret_bool ((unhide HQ) k hlt (unhide HM2)).symm, unhide HB1⟩
    · obtain rfl : k = p.size := by omega
      go_wp2
      go_ret
      exact ⟨ret_bool ((unhide HP) (fun j h => (unhide HN) j h h)).symm, unhide HB⟩
end Go.Proofs.YtmgmganbamjnmaaGreatDoor

/-
  The library's strings.Split at a slash: what stands between slashes.
-/
namespace Go.Proofs.YtmgmganbamjnmaaGreatDoor
open Go.RowKit
set_option linter.unusedVariables false
set_option maxRecDepth 100000

def splRen : Go.Shelf.Ren := ⟨fun | 221 => 62 | 268 => 81 | 138 => 82 | 143 => 83 | 195 => 105 | 197 => 85 | 218 => 106 | 219 => 107 | 260 => 108 | 217 => 120 | 225 => 121 | 224 => 122 | 267 => 123 | 266 => 127 | 314 => 128 | n => n, fun | 9 => 9 | 3 => 3 | 31 => 67 | 4 => 4 | 0 => 0 | 105 => 114 | 21 => 21 | 5 => 5 | 46 => 110 | 119 => 145 | 139 => 148 | 138 => 147 | 146 => 155 | 51 => 131 | n => n, fun | 1 => 0 | 3 => 1 | 4 => 2 | n => n⟩
theorem splLays : Go.Proofs.Lays.n221 Tryz.prog splRen := {
  mixed := by kernel_rfl
  f138 := Tryz.func82.trans (congrArg some (by kernel_rfl))
  f143 := Tryz.func83.trans (congrArg some (by kernel_rfl))
  f195 := Tryz.func105.trans (congrArg some (by kernel_rfl))
  f197 := Tryz.func85.trans (congrArg some (by kernel_rfl))
  f217 := Tryz.func120.trans (congrArg some (by kernel_rfl))
  f218 := Tryz.func106.trans (congrArg some (by kernel_rfl))
  f219 := Tryz.func107.trans (congrArg some (by kernel_rfl))
  f221 := Tryz.func62.trans (congrArg some (by kernel_rfl))
  f224 := Tryz.func122.trans (congrArg some (by kernel_rfl))
  f225 := Tryz.func121.trans (congrArg some (by kernel_rfl))
  f260 := Tryz.func108.trans (congrArg some (by kernel_rfl))
  f266 := Tryz.func127.trans (congrArg some (by kernel_rfl))
  f267 := Tryz.func123.trans (congrArg some (by kernel_rfl))
  f268 := Tryz.func81.trans (congrArg some (by kernel_rfl))
  f314 := Tryz.func128.trans (congrArg some (by kernel_rfl))
  t0 := Tryz.underlying0
  a0 := Tryz.isAgg0
  z0 := Tryz.sizeOf0
  v0 := Tryz.zeroValue0
  t3 := Tryz.underlying3
  a3 := Tryz.isAgg3
  z3 := Tryz.sizeOf3
  v3 := Tryz.zeroValue3
  t4 := Tryz.underlying4
  a4 := Tryz.isAgg4
  z4 := Tryz.sizeOf4
  v4 := Tryz.zeroValue4
  t5 := Tryz.underlying5
  a5 := Tryz.isAgg5
  z5 := Tryz.sizeOf5
  v5 := Tryz.zeroValue5
  t9 := Tryz.underlying9
  a9 := Tryz.isAgg9
  z9 := Tryz.sizeOf9
  v9 := Tryz.zeroValue9
  t21 := Tryz.underlying21
  a21 := Tryz.isAgg21
  z21 := Tryz.sizeOf21
  v21 := Tryz.zeroValue21
  t31 := Tryz.underlying67
  a31 := Tryz.isAgg67
  z31 := Tryz.sizeOf67
  v31 := Tryz.zeroValue67
  t46 := Tryz.underlying110
  a46 := Tryz.isAgg110
  z46 := Tryz.sizeOf110
  v46 := Tryz.zeroValue110
  t51 := Tryz.underlying131
  a51 := Tryz.isAgg131
  z51 := Tryz.sizeOf131
  v51 := Tryz.zeroValue131
  t105 := Tryz.underlying114
  a105 := Tryz.isAgg114
  z105 := Tryz.sizeOf114
  v105 := Tryz.zeroValue114
  t119 := Tryz.underlying145
  a119 := Tryz.isAgg145
  z119 := Tryz.sizeOf145
  t138 := Tryz.underlying147
  a138 := Tryz.isAgg147
  z138 := Tryz.sizeOf147
  v138 := Tryz.zeroValue147
  t139 := Tryz.underlying148
  a139 := Tryz.isAgg148
  z139 := Tryz.sizeOf148
  v139 := Tryz.zeroValue148
  t146 := Tryz.underlying155
  a146 := Tryz.isAgg155
  z146 := Tryz.sizeOf155
  v146 := Tryz.zeroValue155
  g1 := by kernel_rfl
  g3 := by kernel_rfl
  g4 := by kernel_rfl }

/-- the cells of a row of texts -/
def strV (ps : List (List UInt8)) : List Value := ps.map fun p => .string (B p)
theorem info_str : (Tryz.prog.info? 9).map (fun i => (i.zero, i.size, i.bytes)) = some (some (.string ByteArray.empty), 1, 16) := by kernel_rfl

theorem genSplit_any (s : ByteArray) (w : World) (hs : s.size < 4294967281) :
    Calls Tryz.prog 62 #[.string s, .string ⟨#[47]⟩, .int .i64 0, .int .i64 (-1)] w fun e w' =>
      e = .returned (.slice (some ⟨w.heap.size, 0, none⟩) (spl s.data.toList).length (spl s.data.toList).length) ∧ w' = w.alloc (.cells (strV (spl s.data.toList)).toArray 9) := by
  have hsz : (⟨#[47]⟩ : ByteArray).size = 1 := rfl
  have hle := Lib.countB_le ⟨#[47]⟩ (by rw [hsz]; decide) s.size s (Nat.le_refl _)
  have hlen := Lib.splitB_all ⟨#[47]⟩ (by rw [hsz]; decide) 0 _ s rfl
  have hI : ∀ (x : ByteArray) (c : Array Value), x.size ≤ s.size → Calls Tryz.prog (splRen.f 143) #[.string x, .string ⟨#[47]⟩] (w.alloc (.cells c (splRen.t 9))) fun e w' => e = .returned (.int .i64 (Lib.indexB x ⟨#[47]⟩)) ∧ w' = w.alloc (.cells c (splRen.t 9)) := by
    intro x c _
    refine (Any.strings_Index_one { splLays with } x 47 _).mono ?_
    rintro e w' ⟨rfl, rfl⟩
    refine ⟨?_, rfl⟩
    show _ = Ending.returned (Value.int .i64 (Lib.index x.data.toList [47]))
    rw [Lib.index_one]
  have hC : Calls Tryz.prog (splRen.f 138) #[.string s, .string ⟨#[47]⟩] w fun e w' => e = .returned (.int .i64 (Lib.countB s ⟨#[47]⟩)) ∧ w' = w := by
    refine (Any.strings_Count_one { splLays with } s 47 w).mono ?_
    rintro e w' ⟨rfl, rfl⟩
    refine ⟨?_, rfl⟩
    show _ = Ending.returned (Value.int .i64 ((Lib.count s.data.toList [47] : Nat) : Int))
    rw [Lib.count_one]
    rfl
  have c := Any.strings_genSplit_core splLays info_str s ⟨#[47]⟩ 0 (-1) (Lib.countB s ⟨#[47]⟩ + 1) w hs (by rw [hsz]; decide) (Nat.zero_le _) hI hC (by decide) (by decide) (by rw [if_pos (by decide)]; omega)
  rw [Nat.add_sub_cancel] at c
  have e2 : Lib.cellsOf (Lib.splitB ⟨#[47]⟩ 0 (Lib.countB s ⟨#[47]⟩) s) (Lib.countB s ⟨#[47]⟩ + 1) = ((Lib.splitB ⟨#[47]⟩ 0 (Lib.countB s ⟨#[47]⟩) s).map Value.string).toArray := by rw [← hlen]; exact Lib.cellsOf_full _
  rw [e2, splitB_spl, countB_spl] at c
  refine c.mono ?_
  rintro e w' ⟨rfl, rfl⟩
  refine ⟨by simp, ?_⟩
  simp only [strV, List.map_map]
  rfl

theorem split_any (s : ByteArray) (w : World) (hs : s.size < 4294967281) :
    Calls Tryz.prog 47 #[.string s, .string ⟨#[47]⟩] w fun e w' =>
      e = .returned (.slice (some ⟨w.heap.size, 0, none⟩) (spl s.data.toList).length (spl s.data.toList).length) ∧ w' = w.alloc (.cells (strV (spl s.data.toList)).toArray 9) := by
  have c := genSplit_any s w hs
  go_enter Tryz.func47, Tryz.ntmps47
  go_wp2_with (go_at_call 62; refine c.mono ?_; rintro e w' ⟨rfl, hw⟩; rw [hw])
  go_ret
  exact ⟨rfl, rfl⟩
end Go.Proofs.YtmgmganbamjnmaaGreatDoor

/-
  Files in memory; what holds of bytes, numbers and texts that are held against each other.
-/
namespace Go.Proofs.YtmgmganbamjnmaaGreatDoor
open Go.RowKit
set_option linter.unusedVariables false
set_option maxRecDepth 100000
theorem isNaN_int (x : Int) (w : World) : Calls Tryz.prog 112 #[.int .i64 x] w fun e w' => e = .returned (.bool false) ∧ w' = w := by
  have h : (x != x) = false := by simp
  go_enter Tryz.func112, Tryz.ntmps112
  go_wp2
  go_ret
  exact ⟨rfl, rfl⟩
theorem isNaN_str (x : ByteArray) (w : World) : Calls Tryz.prog 111 #[.string x] w fun e w' => e = .returned (.bool false) ∧ w' = w := by
  have h : (x.toList == x.toList) = true := by simp
  go_enter Tryz.func111, Tryz.ntmps111
  go_wp2
  go_ret
  exact ⟨rfl, rfl⟩
theorem cmp_int (x y : Int) (w : World) : Calls Tryz.prog 89 #[.int .i64 x, .int .i64 y] w fun e w' => e = .returned (.int .i64 (cmpI x y)) ∧ w' = w := by
  unfold cmpI
  rcases Int.lt_trichotomy x y with h | h | h
  · rw [if_pos h]
    go_enter Tryz.func89, Tryz.ntmps89
    go_wp2_with (go_at_call 112; refine (isNaN_int _ _).mono ?_; rintro e w' ⟨rfl, rfl⟩)
    go_ret
    exact ⟨rfl, rfl⟩
  · subst h
    rw [if_neg (by omega), if_neg (by omega)]
    go_enter Tryz.func89, Tryz.ntmps89
    go_wp2_with (go_at_call 112; refine (isNaN_int _ _).mono ?_; rintro e w' ⟨rfl, rfl⟩)
    go_ret
    exact ⟨rfl, rfl⟩
  · rw [if_neg (by omega), if_pos h]
    have h2 : ¬ x < y := by omega
    go_enter Tryz.func89, Tryz.ntmps89
    go_wp2_with (go_at_call 112; refine (isNaN_int _ _).mono ?_; rintro e w' ⟨rfl, rfl⟩)
    go_ret
    exact ⟨rfl, rfl⟩
theorem cmp_str (x y : List UInt8) (w : World) : Calls Tryz.prog 88 #[.string (B x), .string (B y)] w fun e w' => e = .returned (.int .i64 (cmpB x y)) ∧ w' = w := by
  have h1 : Op.bytesLess (B x).toList (B y).toList = decide (cmpB x y < 0) := by rw [toList_B, toList_B, less_cmp]
  have h2 : ((B x).toList == (B y).toList) = decide (cmpB x y = 0) := by
    rw [toList_B, toList_B, Bool.eq_iff_iff, beq_iff_eq, decide_eq_true_iff, cmpB_zero]
  rcases cmpB_three x y with h | h | h
  all_goals (
    rw [h] at h1 h2 ⊢
    simp only [Int.reduceLT, Int.reduceEq, Int.reduceNeg, decide_true, decide_false] at h1 h2
    clear h
    generalize B x = s at *
    generalize B y = t at *
    go_enter Tryz.func88, Tryz.ntmps88
    go_wp2_with (go_at_call 111; refine (isNaN_str _ _).mono ?_; rintro e w' ⟨rfl, rfl⟩)
    go_ret
    exact ⟨rfl, rfl⟩)
theorem gone_cmp (x y : Bool) (w : World) : Calls Tryz.prog 90 #[.bool x, .bool y] w fun e w' => e = .returned (.int .i64 (cmpG x y)) ∧ w' = w := by
  cases x <;> cases y
  all_goals (
    go_enter Tryz.func90, Tryz.ntmps90
    go_wp2
    go_ret
    exact ⟨rfl, rfl⟩)
theorem cmp_bytes {w : World} {a a2 : Option Addr} {c c2 : Nat} {x y : List UInt8} (h : BsIn w a c x) (h2 : BsIn w a2 c2 y) :
    Calls Tryz.prog 91 #[.slice a x.length c, .slice a2 y.length c2] w fun e w' => e = .returned (.int .i64 (cmpB x y)) ∧ w' = w := by
  have e1 := bytesOf_is h
  have e2 := bytesOf_is h2
  have e3 : (Extern.BytealgCompare.compare #[.slice a x.length c, .slice a2 y.length c2]).run Tryz.prog w = .ok (.int .i64 (cmpB x y)) w := by
    change Sem.run Tryz.prog (do pure (goInt (Extern.BytealgCompare.cmp (← Extern.Bytes.bytesOf (.slice a x.length c)) (← Extern.Bytes.bytesOf (.slice a2 y.length c2))))) w = _
    simp only [Sem.run_bind, e1, e2, Sem.run_pure, Result.andThen]
    rw [Lib.cmp_eq]
    rfl
  clear h h2 e1 e2
  go_enter Tryz.func91, Tryz.ntmps91
  go_wp2
  rw [run_callFunc_extern Tryz.func113 (by kernel_rfl) (by kernel_rfl) (by kernel_rfl) (e := Extern.BytealgCompare.compare) (by kernel_rfl), e3]
  simp only [Result.andThen]
  rw [Oper.upon_value]
  go_wp2
  go_ret
  exact ⟨rfl, rfl⟩
end Go.Proofs.YtmgmganbamjnmaaGreatDoor
