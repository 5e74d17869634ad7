/-
  Package merge: files are checked.
-/
import Derived.Test.YtmgmganbamjnmaaGreatDoorS3
import Derived.Test.YtmgmganbamjnmaaGreatDoorS2
import Derived.Test.YtmgmganbamjnmaaGreatDoorQ4
import Derived.Deep.RegionHeld3
namespace Go.Proofs.YtmgmganbamjnmaaGreatDoor
open Go.RowKit
set_option linter.unusedVariables false
set_option maxRecDepth 100000
/-- the one ahead of the k-th -/
def ahd (xs : List Fv) : Nat → Option Fl
  | 0 => none
  | k + 1 => (fls xs)[k]?
theorem errR_step {xs : List Fv} {k : Nat} {x : Fv} (h : xs[k]? = some x) :
    errR (ahd xs k) ((fls xs).drop k) = if errV x.f ≠ 0 then errV x.f else if behind (ahd xs k) x.f = false then 4 else errR (ahd xs (k + 1)) ((fls xs).drop (k + 1)) := by
  have hf : (fls xs)[k]? = some x.f := by simp [fls, h]
  have hlt : k < (fls xs).length := by
    rcases Nat.lt_or_ge k (fls xs).length with h' | h'
    · exact h'
    · rw [List.getElem?_eq_none h'] at hf; cases hf
  have e : (fls xs).drop k = x.f :: (fls xs).drop (k + 1) := by
    rw [List.drop_eq_getElem_cons hlt]
    congr 1
    rw [List.getElem?_eq_getElem hlt] at hf
    exact Option.some.inj hf
  rw [e, errR]
  show _ = if errV x.f ≠ 0 then errV x.f else if behind (ahd xs k) x.f = false then 4 else errR ((fls xs)[k]?) _
  rw [hf]
theorem str_le (x y : List UInt8) : Op.bytesLess (B x).toList (B y).toList = decide (cmpB x y < 0) := by rw [toList_B, toList_B, less_cmp]
theorem str_eq (x y : List UInt8) : ((B x).toList == (B y).toList) = decide (cmpB x y = 0) := by
  rw [toList_B, toList_B, Bool.eq_iff_iff, beq_iff_eq, decide_eq_true_iff, cmpB_zero]

theorem check_many (ad : Option Addr) (n c : Nat) (w : World) (h : 12 < n) : Calls Tryz.prog 25 #[.slice ad n c] w fun e w' => e = .returned (.int .i64 2) ∧ w' = w := by
  go_enter Tryz.func25, Tryz.ntmps25
  go_wp2
  go_ret
  exact ⟨rfl, rfl⟩

set_option maxHeartbeats 4000000 in
theorem check_files (ad : Option Addr) (c : Nat) (xs : List Fv) (w : World) (h : FsIn w ad c xs) (n : Nat) (hn : xs.length = n) :
    Calls Tryz.prog 25 #[.slice ad n c] w fun e w' => e = .returned (.int .i64 (errM (fls xs) : Nat)) ∧ Below w.heap.size w w' := by
  have hl : (fls xs).length = n := by simp [fls, hn]
  by_cases hm : 12 < n
  · have e : errM (fls xs) = 2 := by unfold errM; rw [if_pos (by omega)]
    rw [e]
    refine (check_many ad n c w hm).mono ?_
    rintro e w' ⟨rfl, rfl⟩
    exact ⟨rfl, Below.refl _ _⟩
  · have e : errM (fls xs) = errR none (fls xs) := by unfold errM; rw [if_neg (by omega)]
    obtain ⟨E, hE⟩ : ∃ E, errR none (fls xs) = E := ⟨_, rfl⟩
    rw [e, hE]
    have HI := hide h
    have HN := hide hn
    have HE := hide hE
    have HL := hide hl
    clear h e hE hn hl
    go_enter Tryz.func25, Tryz.ntmps25
    go_wp2
    go_loopw [3, 4, 5, 11] (fun _ _ _ i wr => ∃ k : Nat, k ≤ n ∧ i = .int .i64 (k : Int) ∧ Hid (errR (ahd xs k) ((fls xs).drop k) = E) ∧ Hid (Below w.heap.size w wr)) (fun _ _ _ i _ => n - (intOf i).toNat)
    case atStart => exact ⟨0, Nat.zero_le _, rfl, unhide HE, Below.refl _ _⟩
    case round =>
      obtain ⟨k, hk, rfl, HR, HB⟩ := hrel
      by_cases hlt : k < n
      · obtain ⟨x, hx, hxm⟩ := get_of (xs := xs) (k := k) (by rw [unhide HN]; exact hlt)
        obtain ⟨b, o, rfl, hb, c0, c1, c2, c3, c4⟩ := (unhide HI).get (unhide HB) hx
        have hst := errR_step hx
        rw [unhide HR] at hst
        have hz := (unhide HB).size
        have HCK := hide (fun W (hW : Below w.heap.size w W) => checkFile_any x W (((unhide HI).all x hxm).below hW (Nat.le_refl _)))
        have HS := hide hst
        rw [val_is] at HCK
        unfold Fv.sl at c1
        obtain ⟨er, her⟩ : ∃ er, errV x.f = er := ⟨_, rfl⟩
        rw [her] at HCK HS
        clear hst her hxm
        have HX := hide hx
        clear hx
        obtain ⟨xf, xa, xc⟩ := x
        simp only at *
        have hname : ∃ nm, xf.name = nm := ⟨_, rfl⟩
        obtain ⟨nm, hnm⟩ := hname
        rw [hnm] at c0 HCK
        obtain ⟨t, ht⟩ : ∃ t, B nm = t := ⟨_, rfl⟩
        rw [ht] at c0 HCK
        have HT := hide ht
        have HNM := hide hnm
        clear ht hnm
        generalize xf.bytes.length = nb at *
        generalize xf.stamp = st at *
        generalize xf.node = nd at *
        generalize xf.gone = gn at *
        have hbl : ∀ o', Below w.heap.size w (wr.alloc o') := fun o' => (unhide HB).alloc hz o'
        have HBL := hide hbl
        clear hbl
        by_cases he : er = 0
        · subst he
          cases k with
          | zero =>
            simp only [Nat.zero_mul, Nat.add_zero] at c0 c1 c2 c3 c4
            have hst := unhide HS
            rw [if_neg (by simp), if_neg (by simp [ahd, behind])] at hst
            have HN2 := hide hst
            clear hst
            go_wp2_with fail
            refine (unhide HCK _ (unhide HBL _)).mono ?_
            rintro e w1 ⟨rfl, hb1⟩
            have HB1 := hide ((unhide HBL _).trans (hb1.mono (by simp; omega)))
            clear hb1
            go_wp2
            go_quiet (fail)
            go_wp2
            go_roundw
            case rel => exact ⟨1, by omega, by go_num, (unhide HN2).symm, below_drewN (unhide HB1) _⟩
            case measure => simp [intOf]; omega
          | succ j =>
            obtain ⟨y, hy, hym⟩ := get_of (xs := xs) (k := j) (by rw [unhide HN]; omega)
            obtain ⟨b', o', hab, hb', d0, _⟩ := (unhide HI).get (unhide HB) hy
            cases hab
            have hst := unhide HS
            rw [if_neg (by simp)] at hst
            have ha : ahd xs (j + 1) = some y.f := by show (fls xs)[j]? = _; simp [fls, hy]
            rw [ha] at hst
            have hle := str_le nm y.f.name
            have heq := str_eq nm y.f.name
            have hbh : behind (some y.f) xf = decide (cmpB y.f.name nm < 0) := by show decide (cmpB y.f.name xf.name < 0) = _; rw [unhide HNM]
            rw [hbh] at hst
            have hanti := cmpB_anti nm y.f.name
            rw [unhide HT] at hle heq
            generalize B y.f.name = t' at *
            generalize y.f.name = ny at *
            clear hbh ha hy hym
            have hji : ((j + 1 : Nat) : Int) - 1 = (j : Int) := by omega
            have hjn : (j : Int) < (n : Int) := by omega
            by_cases h1 : cmpB nm ny = 1
            · rw [h1] at hle heq hanti
              rw [if_neg (by rw [hanti]; decide)] at hst
              have HN2 := hide hst
              simp only [Int.reduceLT, Int.reduceEq, decide_false] at hle heq
              clear hst hanti h1
              go_wp2_with fail
              refine (unhide HCK _ (unhide HBL _)).mono ?_
              rintro e w1 ⟨rfl, hb1⟩
              have HB1 := hide ((unhide HBL _).trans (hb1.mono (by simp; omega)))
              have q0 : w1.cell? ⟨wr.heap.size, 0, none⟩ = some (.string t) := (hb1.cell (p := ⟨wr.heap.size, 0, none⟩) (by simp)).trans (by simp)
              have r0 : w1.cell? ⟨b, o + j * 5, none⟩ = some (.string t') := (hb1.cell (p := ⟨b, o + j * 5, none⟩) (by simp; omega)).trans ((World.cell?_alloc_past _ _ _ (by show b < wr.heap.size; omega)).trans d0)
              clear hb1
              go_wp2
              go_quiet (fail)
              go_wp2
              go_roundw
              case rel => exact ⟨j + 2, by omega, by go_num, (unhide HN2).symm, below_drewN (unhide HB1) _⟩
              case measure => simp [intOf]; omega
            · have h2 : (cmpB nm ny = -1 ∨ cmpB nm ny = 0) := by rcases cmpB_three nm ny with h | h | h <;> omega
              rw [if_pos (by rw [hanti]; apply decide_eq_false; omega)] at hst
              have HN2 := hide hst
              clear hst hanti h1
              rcases h2 with h2 | h2
              all_goals (
                rw [h2] at hle heq
                simp only [Int.reduceLT, Int.reduceEq, Int.reduceNeg, decide_true, decide_false] at hle heq
                clear h2
                go_wp2_with fail
                refine (unhide HCK _ (unhide HBL _)).mono ?_
                rintro e w1 ⟨rfl, hb1⟩
                have HB1 := hide ((unhide HBL _).trans (hb1.mono (by simp; omega)))
                have q0 : w1.cell? ⟨wr.heap.size, 0, none⟩ = some (.string t) := (hb1.cell (p := ⟨wr.heap.size, 0, none⟩) (by simp)).trans (by simp)
                have r0 : w1.cell? ⟨b, o + j * 5, none⟩ = some (.string t') := (hb1.cell (p := ⟨b, o + j * 5, none⟩) (by simp; omega)).trans ((World.cell?_alloc_past _ _ _ (by show b < wr.heap.size; omega)).trans d0)
                clear hb1
                go_wp2
                go_quiet (fail)
                go_wp2
                go_ret
                exact ⟨ret_int (by rw [unhide HN2]; rfl), below_drewN (unhide HB1) _⟩)
        · have hst := unhide HS
          rw [if_pos (by simpa using he)] at hst
          have HN2 := hide hst
          clear hst
          go_wp2_with fail
          refine (unhide HCK _ (unhide HBL _)).mono ?_
          rintro e w1 ⟨rfl, hb1⟩
          have HB1 := hide ((unhide HBL _).trans (hb1.mono (by simp; omega)))
          clear hb1
          go_wp2
          go_ret
          exact ⟨ret_int (by rw [unhide HN2]), unhide HB1⟩
      · obtain rfl : n = k := by omega
        go_wp2
        go_ret
        have := unhide HR
        rw [List.drop_of_length_le (by rw [unhide HL]; exact Nat.le_refl _)] at this
        exact ⟨ret_int (by rw [← this]; rfl), unhide HB⟩

end Go.Proofs.YtmgmganbamjnmaaGreatDoor

/-
  Package merge: which of two files is newer.
-/
namespace Go.Proofs.YtmgmganbamjnmaaGreatDoor
open Go.RowKit
set_option linter.unusedVariables false
set_option maxRecDepth 100000

theorem newer_b0 (w : World) (o1 o2 : Obj) : Below w.heap.size w ((w.alloc o1).alloc o2).drew := below_drewN (((Below.refl _ w).alloc (Nat.le_refl _) o1).alloc (by simp) o2) 1
theorem newer_b1 (w : World) (o1 o2 o3 : Obj) : Below w.heap.size w (((w.alloc o1).alloc o2).alloc o3).drew := below_drewN ((((Below.refl _ w).alloc (Nat.le_refl _) o1).alloc (by simp) o2).alloc (by simp; omega) o3) 1
theorem newer_b2 (w : World) (o1 o2 o3 : Obj) (v1 v2 v3 v4 : Value) : Below w.heap.size w (((w.alloc o1).alloc o2).alloc o3).drew := below_drewN ((((Below.refl _ w).alloc (Nat.le_refl _) o1).alloc (by simp) o2).alloc (by simp; omega) o3) 1
theorem idxN0 (a b c d : Int) (W : World) : (Instr.index 120 (.agg #[.int .i64 a, .int .i64 b, .int .i64 c, .int .i64 d]) (.int .i64 0)).run Tryz.prog W = .ok (.int .i64 a) W := by kernel_rfl
theorem idxN1 (a b c d : Int) (W : World) : (Instr.index 120 (.agg #[.int .i64 a, .int .i64 b, .int .i64 c, .int .i64 d]) (.int .i64 1)).run Tryz.prog W = .ok (.int .i64 b) W := by kernel_rfl
theorem idxN2 (a b c d : Int) (W : World) : (Instr.index 120 (.agg #[.int .i64 a, .int .i64 b, .int .i64 c, .int .i64 d]) (.int .i64 2)).run Tryz.prog W = .ok (.int .i64 c) W := by kernel_rfl
theorem idxN3 (a b c d : Int) (W : World) : (Instr.index 120 (.agg #[.int .i64 a, .int .i64 b, .int .i64 c, .int .i64 d]) (.int .i64 3)).run Tryz.prog W = .ok (.int .i64 d) W := by kernel_rfl
theorem nz_at {a b : Int} (h : a ≠ 0) : nz a b = a := by unfold nz; rw [if_pos h]
theorem nz_past {b : Int} : nz 0 b = b := by unfold nz; rw [if_neg (by decide)]
theorem ne_b {a : Int} (h : a ≠ 0) : (a != 0) = true := by rw [bne_iff_ne]; exact h

set_option maxHeartbeats 4000000 in
theorem newer_any (x y : Fv) (w : World) (hx : FvIn w x) (hy : FvIn w y) :
    Calls Tryz.prog 71 #[x.val, y.val] w fun e w' => e = .returned (.int .i64 (nwr x.f y.f)) ∧ Below w.heap.size w w' := by
  have hb : ∀ W, Below w.heap.size w W → Calls Tryz.prog 91 #[.slice x.a x.f.bytes.length x.c, .slice y.a y.f.bytes.length y.c] W fun e w' => e = .returned (.int .i64 (cmpB x.f.bytes y.f.bytes)) ∧ w' = W :=
    fun W hW => cmp_bytes (hx.bs.below hW (Nat.le_refl _)) (hy.bs.below hW (Nat.le_refl _))
  have hd : nwr x.f y.f = nz (cmpI x.f.stamp y.f.stamp) (nz (cmpI x.f.node y.f.node) (nz (cmpG x.f.gone y.f.gone) (cmpB x.f.bytes y.f.bytes))) := rfl
  rw [val_is, val_is, hd]
  clear hx hy hd
  obtain ⟨⟨nm, bs, st, nd, gn⟩, a, c⟩ := x
  obtain ⟨⟨nm2, bs2, st2, nd2, gn2⟩, a2, c2⟩ := y
  simp only at *
  generalize B nm = t at *
  generalize B nm2 = t2 at *
  generalize bs.length = n at *
  generalize bs2.length = n2 at *
  have h3 := gone_cmp gn gn2
  generalize cmpG gn gn2 = k3 at *
  generalize cmpB bs bs2 = k4 at *
  have H3 := hide h3
  have H4 := hide hb
  clear h3 hb
  go_enter Tryz.func71, Tryz.ntmps71
  go_wp2
  go_region_held3 (fun W => Below w.heap.size w W ∧ W.cell? ⟨w.heap.size, 1, none⟩ = some (.slice a n c) ∧ W.cell? ⟨w.heap.size, 2, none⟩ = some (.int .i64 st) ∧ W.cell? ⟨w.heap.size, 3, none⟩ = some (.int .i64 nd) ∧ W.cell? ⟨w.heap.size, 4, none⟩ = some (.bool gn) ∧ W.cell? ⟨w.heap.size + 1, 1, none⟩ = some (.slice a2 n2 c2) ∧ W.cell? ⟨w.heap.size + 1, 2, none⟩ = some (.int .i64 st2) ∧ W.cell? ⟨w.heap.size + 1, 3, none⟩ = some (.int .i64 nd2) ∧ W.cell? ⟨w.heap.size + 1, 4, none⟩ = some (.bool gn2)) (refine ⟨?_, ?_, ?_, ?_, ?_, ?_, ?_, ?_, ?_⟩ <;> first | exact newer_b0 _ _ _ | exact newer_b1 _ _ _ _ | exact newer_b2 _ _ _ _ _ _ _ _ | go_keep)
    (first | (go_at_call 89; refine (cmp_int _ _ _).mono ?_; rintro e w' ⟨rfl, rfl⟩) | (go_at_call 90; refine (unhide H3 _).mono ?_; rintro e w' ⟨rfl, rfl⟩) | (go_at_call 91; refine (unhide H4 _ (by first | exact newer_b0 _ _ _ | exact newer_b1 _ _ _ _)).mono ?_; rintro e w' ⟨rfl, rfl⟩))
  all_goals (
    generalize hk1 : cmpI st st2 = k1
    generalize hk2 : cmpI nd nd2 = k2
    have HK1 := hide hk1
    have HK2 := hide hk2
    clear hk1 hk2
    have i0 := idxN0 k1 k2 k3 k4
    have i1 := idxN1 k1 k2 k3 k4
    have i2 := idxN2 k1 k2 k3 k4
    have i3 := idxN3 k1 k2 k3 k4
    clear H3 H4
    go_wp2
    go_loopw [7, 30] (fun _ i wr => Hid (Below w.heap.size w wr) ∧ ((i = .int .i64 0) ∨ (i = .int .i64 1 ∧ k1 = 0) ∨ (i = .int .i64 2 ∧ k1 = 0 ∧ k2 = 0) ∨ (i = .int .i64 3 ∧ k1 = 0 ∧ k2 = 0 ∧ k3 = 0) ∨ (i = .int .i64 4 ∧ k1 = 0 ∧ k2 = 0 ∧ k3 = 0 ∧ k4 = 0))) (fun _ i _ => 4 - (intOf i).toNat)
    case atStart => exact ⟨newer_b1 _ _ _ _, .inl rfl⟩
    case round =>
      obtain ⟨HB, rfl | ⟨rfl, rfl⟩ | ⟨rfl, rfl, rfl⟩ | ⟨rfl, rfl, rfl, rfl⟩ | ⟨rfl, rfl, rfl, rfl, rfl⟩⟩ := hrel
      · by_cases h : k1 = 0
        · subst h
          go_wp2
          go_roundw
          case rel => exact ⟨HB, by simp⟩
          case measure => simp [intOf]
        · have hb := ne_b h
          go_wp2
          go_ret
          exact ⟨ret_int (by rw [unhide HK1, nz_at h]), unhide HB⟩
      · by_cases h : k2 = 0
        · subst h
          go_wp2
          go_roundw
          case rel => exact ⟨HB, by simp⟩
          case measure => simp [intOf]
        · have hb := ne_b h
          go_wp2
          go_ret
          exact ⟨ret_int (by rw [unhide HK1, unhide HK2, nz_past, nz_at h]), unhide HB⟩
      · by_cases h : k3 = 0
        · subst h
          go_wp2
          go_roundw
          case rel => exact ⟨HB, by simp⟩
          case measure => simp [intOf]
        · have hb := ne_b h
          go_wp2
          go_ret
          exact ⟨ret_int (by rw [unhide HK1, unhide HK2, nz_past, nz_past, nz_at h]), unhide HB⟩
      · by_cases h : k4 = 0
        · subst h
          go_wp2
          go_roundw
          case rel => exact ⟨HB, by simp⟩
          case measure => simp [intOf]
        · have hb := ne_b h
          go_wp2
          go_ret
          exact ⟨ret_int (by rw [unhide HK1, unhide HK2, nz_past, nz_past, nz_past]), unhide HB⟩
      · go_wp2
        go_ret
        exact ⟨ret_int (by rw [unhide HK1, unhide HK2, nz_past, nz_past, nz_past]), unhide HB⟩)
end Go.Proofs.YtmgmganbamjnmaaGreatDoor

/-
  Package merge: Check, checkEach.
-/
namespace Go.Proofs.YtmgmganbamjnmaaGreatDoor
open Go.RowKit
set_option linter.unusedVariables false
set_option maxRecDepth 100000
theorem idxF0 (a b : Option Addr) (n m c d : Nat) (W : World) : (Instr.index 106 (.agg #[.slice a n c, .slice b m d]) (.int .i64 0)).run Tryz.prog W = .ok (.slice a n c) W := by kernel_rfl
theorem idxF1 (a b : Option Addr) (n m c d : Nat) (W : World) : (Instr.index 106 (.agg #[.slice a n c, .slice b m d]) (.int .i64 1)).run Tryz.prog W = .ok (.slice b m d) W := by kernel_rfl
/-- what is wrong with two lists, of the first one first -/
def errE (a b : List Fl) : Nat := if errM a ≠ 0 then errM a else errM b
theorem errE_fst {a b : List Fl} (h : errM a ≠ 0) : errE a b = errM a := by unfold errE; rw [if_pos h]
theorem errE_snd {a b : List Fl} (h : errM a = 0) : errE a b = errM b := by unfold errE; rw [if_neg (by simp [h])]
theorem errE_zero {a b : List Fl} : errE a b = 0 ↔ errM a = 0 ∧ errM b = 0 := by
  unfold errE
  split
  · rename_i h; simp [h]
  · rename_i h; simp at h; simp [h]

set_option maxHeartbeats 2000000 in
theorem checkEach_any (ad bd : Option Addr) (c d : Nat) (xs ys : List Fv) (w : World) (h : FsIn w ad c xs) (k : FsIn w bd d ys) (n m : Nat) (hn : xs.length = n) (hm : ys.length = m) :
    Calls Tryz.prog 49 #[.slice ad n c, .slice bd m d] w fun e w' => e = .returned (.int .i64 (errE (fls xs) (fls ys) : Nat)) ∧ Below w.heap.size w w' := by
  have HS := hide (fun W (hW : Below w.heap.size w W) => check_files ad c xs W (h.below hW (Nat.le_refl _)) n hn)
  have HF := hide (fun W (hW : Below w.heap.size w W) => check_files bd d ys W (k.below hW (Nat.le_refl _)) m hm)
  have i0 := idxF0 ad bd n m c d
  have i1 := idxF1 ad bd n m c d
  have e0 := @errE_fst (fls xs) (fls ys)
  have e1 := @errE_snd (fls xs) (fls ys)
  obtain ⟨E, hE⟩ : ∃ E, errE (fls xs) (fls ys) = E := ⟨_, rfl⟩
  rw [hE] at e0 e1 ⊢
  generalize errM (fls xs) = x at *
  generalize errM (fls ys) = y at *
  clear h k hn hm hE
  have E0 := hide e0
  have E1 := hide e1
  clear e0 e1
  go_enter Tryz.func49, Tryz.ntmps49
  go_wp2
  go_loopw [6, 7, 11] (fun _ _ i wr => Hid (Below w.heap.size w wr) ∧ ((i = .int .i64 0) ∨ (i = .int .i64 1 ∧ x = 0) ∨ (i = .int .i64 2 ∧ x = 0 ∧ y = 0))) (fun _ _ i _ => 2 - (intOf i).toNat)
  case atStart => exact ⟨Below.refl _ _, .inl rfl⟩
  case round =>
    obtain ⟨HB, rfl | ⟨rfl, rfl⟩ | ⟨rfl, rfl, rfl⟩⟩ := hrel
    · by_cases he : x = 0
      · subst he
        go_wp2_with (go_at_call 25; refine (unhide HS _ (unhide HB)).mono ?_; rintro e w1 ⟨rfl, hb1⟩; have HB1 := hide ((unhide HB).trans (hb1.mono (unhide HB).size)); clear hb1)
        go_roundw
        case rel => exact ⟨HB1, by simp⟩
        case measure => simp [intOf]
      · go_wp2_with (go_at_call 25; refine (unhide HS _ (unhide HB)).mono ?_; rintro e w1 ⟨rfl, hb1⟩; have HB1 := hide ((unhide HB).trans (hb1.mono (unhide HB).size)); clear hb1)
        go_ret
        exact ⟨ret_int (by rw [unhide E0 he]), unhide HB1⟩
    · have hyE := unhide E1 rfl
      subst hyE
      by_cases he : E = 0
      · subst he
        go_wp2_with (go_at_call 25; refine (unhide HF _ (unhide HB)).mono ?_; rintro e w1 ⟨rfl, hb1⟩; have HB1 := hide ((unhide HB).trans (hb1.mono (unhide HB).size)); clear hb1)
        go_roundw
        case rel => exact ⟨HB1, by simp⟩
        case measure => simp [intOf]
      · go_wp2_with (go_at_call 25; refine (unhide HF _ (unhide HB)).mono ?_; rintro e w1 ⟨rfl, hb1⟩; have HB1 := hide ((unhide HB).trans (hb1.mono (unhide HB).size)); clear hb1)
        go_ret
        exact ⟨rfl, unhide HB1⟩
    · have hyE := unhide E1 rfl
      subst hyE
      go_wp2
      go_ret
      exact ⟨rfl, unhide HB⟩
end Go.Proofs.YtmgmganbamjnmaaGreatDoor
