/-
  The library's stable sort: blocks of twenty by insertion, then merged, two and two.
-/
import Derived.Test.YtgknmpdfikbdmabSort4
namespace Go.Proofs.Ytgknmpdfikbdmab
open Go.RowKit
set_option linter.unusedVariables false

/-- each block of B is sorted -/
def Blocks (d : Nat → Int × Int) (n B : Nat) : Prop := ∀ s, Stab.Srt Stab.lx d (s * B) (min (s * B + B) n)
def Cuts (d : Nat → Int × Int) (n B : Nat) : Prop := ∀ s, CutAt d n (s * B)
/-- the first t blocks of X are sorted, the rest is as it was -/
structure Part (d dk : Nat → Int × Int) (n X t : Nat) : Prop where
  srt : ∀ s, s < t → Stab.Srt Stab.lx d (s * X) (s * X + X)
  rest : ∀ k, t * X ≤ k → d k = dk k
  cuts : Cuts d n X
theorem blk_lt {s t : Nat} (X : Nat) (h : s < t) : s * X + X ≤ t * X := by
  have := Nat.mul_le_mul_right X (show s + 1 ≤ t from h)
  rwa [Nat.succ_mul] at this
theorem blk_le {s t : Nat} (X : Nat) (h : s ≤ t) : s * X ≤ t * X := Nat.mul_le_mul_right X h
theorem cut_ways (s t X n : Nat) : s * X ≤ t * X ∨ t * X + X ≤ s * X := by
  by_cases h : s ≤ t
  · exact .inl (blk_le X h)
  · exact .inr (blk_lt X (by omega))
theorem Part.step {d dk d' : Nat → Int × Int} {n X t : Nat} (h : Part d dk n X t) (hn : t * X + X ≤ n) (hm : Stab.Moved (t * X) (t * X + X) d d') (hs : Stab.Srt Stab.lx d' (t * X) (t * X + X)) : Part d' dk n X (t + 1) := by
  refine ⟨fun s hst => ?_, fun k hk => ?_, fun s => (h.cuts s).moved hm hn (cut_ways s t X n)⟩
  · by_cases e : s = t
    · subst e; exact hs
    · have := blk_lt X (show s < t by omega)
      exact (h.srt s (by omega)).congr (fun k h1 h2 => hm.out k (by omega))
  · rw [Nat.succ_mul] at hk
    rw [hm.out k (by omega)]
    exact h.rest k (by omega)
theorem Part.last {d dk d' : Nat → Int × Int} {n X t : Nat} (h : Part d dk n X t) (h1 : t * X ≤ n) (h2 : n ≤ t * X + X) (hm : Stab.Moved (t * X) n d d') (hs : Stab.Srt Stab.lx d' (t * X) n) : Blocks d' n X ∧ Cuts d' n X := by
  refine ⟨fun s => ?_, fun s => ?_⟩
  · rcases Nat.lt_trichotomy s t with e | e | e
    · have := blk_lt X e
      rw [Nat.min_eq_left (by omega)]
      exact (h.srt s e).congr (fun k h1 h2 => hm.out k (by omega))
    · subst e
      rw [Nat.min_eq_right h2]
      exact hs
    · have := blk_lt X e
      intro i j hi hij hj
      have : j < n := Nat.lt_of_lt_of_le hj (Nat.min_le_right _ _)
      omega
  · rcases cut_ways s t X n with e | e
    · exact (h.cuts s).moved hm (Nat.le_refl _) (.inl e)
    · exact (h.cuts s).moved hm (Nat.le_refl _) (.inr (by omega))
/-- two blocks that are to be merged -/
theorem two_runs {d dk : Nat → Int × Int} {n B t e : Nat} (hb : Blocks dk n B) (hc : Cuts dk n B) (hr : ∀ k, t * (2 * B) ≤ k → d k = dk k) (h1 : t * (2 * B) + B < e) (h2 : e ≤ t * (2 * B) + 2 * B) (h3 : e ≤ n) (h4 : e = n ∨ e = t * (2 * B) + 2 * B) :
    Stab.Srt Stab.lx d (t * (2 * B)) (t * (2 * B) + B) ∧ Stab.Srt Stab.lx d (t * (2 * B) + B) e ∧ Stab.Cross d (t * (2 * B)) (t * (2 * B) + B) e := by
  have e1 : (2 * t) * B = t * (2 * B) := by rw [Nat.mul_comm 2 t, Nat.mul_assoc]
  have e2 : (2 * t + 1) * B = t * (2 * B) + B := by rw [Nat.succ_mul, e1]
  have b1 := hb (2 * t)
  have b2 := hb (2 * t + 1)
  have c := hc (2 * t + 1)
  rw [e1, Nat.min_eq_left (by omega)] at b1
  rw [e2] at b2 c
  generalize t * (2 * B) = a at *
  refine ⟨b1.congr (fun k h _ => hr k h), ?_, fun i j hi hi2 hj hj2 => ?_⟩
  · refine Stab.Srt.congr (d := dk) (b2.sub (Nat.le_refl _) ?_) (fun k h _ => hr k (by omega))
    rcases h4 with rfl | rfl
    · exact Nat.le_min.2 ⟨by omega, Nat.le_refl _⟩
    · exact Nat.le_min.2 ⟨by omega, h3⟩
  · rw [hr i hi, hr j (by omega)]
    exact c i j hi2 hj (by omega)
/-- one block that stands alone -/
theorem one_run {d dk : Nat → Int × Int} {n B t : Nat} (hb : Blocks dk n B) (hr : ∀ k, t * (2 * B) ≤ k → d k = dk k) (h : n ≤ t * (2 * B) + B) : Stab.Srt Stab.lx d (t * (2 * B)) n := by
  have e1 : (2 * t) * B = t * (2 * B) := by rw [Nat.mul_comm 2 t, Nat.mul_assoc]
  have b1 := hb (2 * t)
  rw [e1, Nat.min_eq_right h] at b1
  exact b1.congr (fun k h _ => hr k h)
theorem Cuts.double {d : Nat → Int × Int} {n B : Nat} (h : Cuts d n B) : Cuts d n (2 * B) := fun s => by
  have e : s * (2 * B) = (2 * s) * B := by rw [Nat.mul_comm 2 s, Nat.mul_assoc]
  rw [e]; exact h (2 * s)

set_option maxHeartbeats 4000000 in
set_option maxRecDepth 100000 in
theorem stable_any (h : Value) (hh : Hid (h = typeHandle Try.prog 73)) (N bp bx cap : Nat) (d : Nat → Int × Int) (w : World) (hN : N ≤ 288) (hbp : bp < w.heap.size) (hbx : bx < w.heap.size) (hne : bx ≠ bp)
    (hbox : w.cell? ⟨bx, 0, none⟩ = some (.slice (some ⟨bp, 0, none⟩) N cap)) (hP : PS N bp d w) (hr : Rise d 0 N) :
    Calls Try.prog 37 #[.agg #[LF bx, SF h N bp cap], .int .i64 N] w fun e w' => e = .returned (.tuple #[]) ∧ ∃ d', PS N bp d' w' ∧ Stab.Moved 0 N d d' ∧ Stab.Srt Stab.lx d' 0 N ∧ w.grownBy w' (some bp) := by
  have S0 : Hid (MSt h N bp bx cap w (w.alloc (.cells #[LF bx, SF h N bp cap] 89)) d) := ⟨hP.alloc hbp _, grown_alloc' (grown_refl' _ _) _, by simp, by simp, by rw [World.cell?_alloc_past _ _ _ hbx]; exact hbox, hbp⟩
  have HR := hide hr
  have HC0 : Hid (Part d d N 20 0) := ⟨fun s h => by omega, fun _ _ => rfl, fun s i j hi hj hn => hr i j (Nat.zero_le _) (by omega) hn⟩
  have HMG := hide (symMerge_any h hh N bp bx cap hN hne N)
  clear hP hbox hr
  go_enter Try.func37, Try.ntmps37
  go_wp2
  go_loopw [5, 6] (fun va vb wr => ∃ (t α : Nat) (dk : Nat → Int × Int), Hid (α = t * 20) ∧ α ≤ N ∧ va = .int .i64 α ∧ vb = .int .i64 ((α : Int) + 20) ∧ MSt h N bp bx cap w wr dk ∧ Stab.Moved 0 N d dk ∧ Part dk d N 20 t) (fun va _ _ => N + 1 - (intOf va).toNat)
  case atStart => exact ⟨0, 0, d, hide rfl, Nat.zero_le _, rfl, rfl, unhide S0, Stab.Moved.refl _ _ _, unhide HC0⟩
  case round =>
    obtain ⟨t, α, dk, hα, hαN, rfl, rfl, hS, hM, hPt⟩ := hrel
    have HS := hide hS
    have HM := hide hM
    have HPt := hide hPt
    have ca := hS.c0
    have cb := hS.c1
    have HRi : Hid (∀ e, e ≤ N → Rise dk α e) := fun e he i j h1 h2 h3 => by
      rw [unhide hα] at h1
      rw [hPt.rest i h1, hPt.rest j (by omega)]
      exact unhide HR i j (Nat.zero_le _) h2 (by omega)
    clear hS hM hPt S0 HC0
    by_cases hlt : α + 20 ≤ N
    · have hltI : (α : Int) + 20 ≤ (N : Int) := by omega
      have E : Hid ((α : Int) + 20 = ((α + 20 : Nat) : Int)) := by unfold Hid; omega
      go_wp2_with fail
      rw [unhide E]
      refine (insertion_any h hh N bp bx cap dk α (α + 20) _ hN (by omega) hlt (Nat.lt_of_lt_of_le hbp (unhide HS).grown.size) (Nat.lt_of_lt_of_le hbx (unhide HS).grown.size) hne (unhide HS).box (unhide HS).ps (unhide HRi (α + 20) hlt)).mono ?_
      rintro e w2 ⟨rfl, d', p2, m2, s2, g2⟩
      have HS2 := hide ((unhide HS).next hbx hne p2 g2)
      have HM2 := hide ((unhide HM).trans (m2.wider (Nat.zero_le _) (by omega) hlt))
      have HP2 : Hid (Part d' d N 20 (t + 1)) := by
        have ha := unhide hα
        rw [ha] at m2 s2 hlt
        exact (unhide HPt).step hlt m2 s2
      have hα2 : Hid (α + 20 = (t + 1) * 20) := by have := unhide hα; unfold Hid; omega
      clear p2 m2 s2 g2
      go_wp2
      go_roundw
      case rel => exact ⟨t + 1, α + 20, d', hα2, hlt, rfl, by go_num, unhide HS2, unhide HM2, unhide HP2⟩
      case measure => simp [intOf]; omega
    · have hltI : ¬ (α : Int) + 20 ≤ (N : Int) := by omega
      go_wp2_with fail
      refine (insertion_any h hh N bp bx cap dk α N _ hN hαN (Nat.le_refl _) (Nat.lt_of_lt_of_le hbp (unhide HS).grown.size) (Nat.lt_of_lt_of_le hbx (unhide HS).grown.size) hne (unhide HS).box (unhide HS).ps (unhide HRi N (Nat.le_refl _))).mono ?_
      rintro e w2 ⟨rfl, d', p2, m2, s2, g2⟩
      have HS2 := hide ((unhide HS).next hbx hne p2 g2)
      have HM2 := hide ((unhide HM).trans (m2.wider (Nat.zero_le _) hαN (Nat.le_refl _)))
      have HB2 : Hid (Blocks d' N 20 ∧ Cuts d' N 20) := by
        have ha := unhide hα
        rw [ha] at m2 s2
        exact (unhide HPt).last (by omega) (by omega) m2 s2
      clear p2 m2 s2 g2 HS HM HPt HRi ca cb hα hαN hlt hltI
      go_wp2
      go_loopw [4, 5, 6, 7] (fun vB _ _ _ wr => ∃ (B : Nat) (dB : Nat → Int × Int), 0 < B ∧ B ≤ 1000 ∧ vB = .int .i64 B ∧ MSt h N bp bx cap w wr dB ∧ Stab.Moved 0 N d dB ∧ Blocks dB N B ∧ Cuts dB N B) (fun vB _ _ _ _ => N - (intOf vB).toNat)
      case atStart => exact ⟨20, d', by omega, by omega, rfl, unhide HS2, unhide HM2, (unhide HB2).1, (unhide HB2).2⟩
      case round =>
        obtain ⟨B, dB, hB0, hB1, rfl, hS, hM, hbl, hcu⟩ := hrel
        have HS := hide hS
        have HM := hide hM
        have HBl := hide hbl
        have HCu := hide hcu
        have ca := hS.c0
        have cb := hS.c1
        have HP0 : Hid (Part dB dB N (2 * B) 0) := ⟨fun s h => by omega, fun _ _ => rfl, hcu.double⟩
        clear hS hM hbl hcu HS2 HM2 HB2
        by_cases hBN : B < N
        · go_wp2
          go_loopw [5, 6] (fun va vb wr => ∃ (t α : Nat) (dk : Nat → Int × Int), Hid (α = t * (2 * B)) ∧ α ≤ N ∧ va = .int .i64 α ∧ vb = .int .i64 ((α : Int) + 2 * (B : Int)) ∧ MSt h N bp bx cap w wr dk ∧ Stab.Moved 0 N d dk ∧ Part dk dB N (2 * B) t) (fun va _ _ => N + 1 - (intOf va).toNat)
          case atStart => exact ⟨0, 0, dB, hide (Nat.zero_mul _).symm, Nat.zero_le _, rfl, by go_num, unhide HS, unhide HM, unhide HP0⟩
          case round =>
            obtain ⟨t, α, dk, hα, hαN, rfl, rfl, hS, hM, hPt⟩ := hrel
            have HS1 := hide hS
            have HM1 := hide hM
            have HPt := hide hPt
            have ca1 := hS.c0
            have cb1 := hS.c1
            clear hS hM hPt HP0
            by_cases hlt : α + 2 * B ≤ N
            · have hltI : (α : Int) + 2 * (B : Int) ≤ (N : Int) := by omega
              have E : Hid ((α : Int) + 2 * (B : Int) = ((α + 2 * B : Nat) : Int)) := by unfold Hid; omega
              have E2 : Hid ((α : Int) + (B : Int) = ((α + B : Nat) : Int)) := by unfold Hid; omega
              have HRu : Hid (Stab.Srt Stab.lx dk α (α + B) ∧ Stab.Srt Stab.lx dk (α + B) (α + 2 * B) ∧ Stab.Cross dk α (α + B) (α + 2 * B)) := by
                have ha := unhide hα
                rw [ha]
                rw [ha] at hlt
                exact two_runs (unhide HBl) (unhide HCu) (unhide HPt).rest (by omega) (Nat.le_refl _) hlt (.inr rfl)
              go_wp2_with fail
              rw [unhide E, unhide E2]
              refine (unhide HMG dk α (α + B) (α + 2 * B) _ (by omega) (by omega) (by omega) hlt (Nat.lt_of_lt_of_le hbp (unhide HS1).grown.size) (Nat.lt_of_lt_of_le hbx (unhide HS1).grown.size) (unhide HS1).box (unhide HS1).ps (unhide HRu).1 (unhide HRu).2.1 (unhide HRu).2.2).mono ?_
              rintro e w3 ⟨rfl, d3, p3, m3, s3, g3⟩
              have HS3 := hide ((unhide HS1).next hbx hne p3 g3)
              have HM3 := hide ((unhide HM1).trans (m3.wider (Nat.zero_le _) (by omega) hlt))
              have HP3 : Hid (Part d3 dB N (2 * B) (t + 1)) := by
                have ha := unhide hα
                rw [ha] at m3 s3 hlt
                exact (unhide HPt).step hlt m3 s3
              have hα3 : Hid (α + 2 * B = (t + 1) * (2 * B)) := by have := unhide hα; unfold Hid; rw [Nat.succ_mul t (2 * B), ← this]
              clear p3 m3 s3 g3 HRu
              go_wp2
              go_roundw
              case rel => exact ⟨t + 1, α + 2 * B, d3, hα3, hlt, rfl, by go_num, unhide HS3, unhide HM3, unhide HP3⟩
              case measure => simp [intOf]; omega
            · have hltI : ¬ (α : Int) + 2 * (B : Int) ≤ (N : Int) := by omega
              by_cases hm : α + B < N
              · have hmI : (α : Int) + (B : Int) < (N : Int) := by omega
                have E2 : Hid ((α : Int) + (B : Int) = ((α + B : Nat) : Int)) := by unfold Hid; omega
                have HRu : Hid (Stab.Srt Stab.lx dk α (α + B) ∧ Stab.Srt Stab.lx dk (α + B) N ∧ Stab.Cross dk α (α + B) N) := by
                  have ha := unhide hα
                  rw [ha]
                  rw [ha] at hlt hm
                  exact two_runs (unhide HBl) (unhide HCu) (unhide HPt).rest hm (by omega) (Nat.le_refl _) (.inl rfl)
                go_wp2_with fail
                rw [unhide E2]
                refine (unhide HMG dk α (α + B) N _ (by omega) (by omega) hm (Nat.le_refl _) (Nat.lt_of_lt_of_le hbp (unhide HS1).grown.size) (Nat.lt_of_lt_of_le hbx (unhide HS1).grown.size) (unhide HS1).box (unhide HS1).ps (unhide HRu).1 (unhide HRu).2.1 (unhide HRu).2.2).mono ?_
                rintro e w3 ⟨rfl, d3, p3, m3, s3, g3⟩
                have HS3 := hide ((unhide HS1).next hbx hne p3 g3)
                have HM3 := hide ((unhide HM1).trans (m3.wider (Nat.zero_le _) hαN (Nat.le_refl _)))
                have HB3 : Hid (Blocks d3 N (2 * B) ∧ Cuts d3 N (2 * B)) := by
                  have ha := unhide hα
                  rw [ha] at m3 s3
                  exact (unhide HPt).last (by omega) (by omega) m3 s3
                clear p3 m3 s3 g3 HRu HPt hα
                go_wp2
                go_roundw
                case rel => exact ⟨2 * B, d3, by omega, by omega, congrArg (Value.int .i64) (by omega), unhide HS3, unhide HM3, (unhide HB3).1, (unhide HB3).2⟩
                case measure => simp [intOf]; omega
              · have hmI : ¬ (α : Int) + (B : Int) < (N : Int) := by omega
                have HB3 : Hid (Blocks dk N (2 * B) ∧ Cuts dk N (2 * B)) := by
                  have ha := unhide hα
                  rw [ha] at hlt hm hαN
                  exact (unhide HPt).last hαN (by omega) (Stab.Moved.refl _ _ _) (one_run (unhide HBl) (unhide HPt).rest (by omega))
                clear HPt hα
                go_wp2
                go_roundw
                case rel => exact ⟨2 * B, dk, by omega, by omega, congrArg (Value.int .i64) (by omega), unhide HS1, unhide HM1, (unhide HB3).1, (unhide HB3).2⟩
                case measure => simp [intOf]; omega
        · have HF : Hid (Stab.Srt Stab.lx dB 0 N) := by
            have := unhide HBl 0
            rw [Nat.zero_mul, Nat.min_eq_right (by omega)] at this
            exact this
          clear HP0
          go_wp2
          go_end0
          exact ⟨rfl, dB, (unhide HS).ps, unhide HM, unhide HF, (unhide HS).grown⟩
end Go.Proofs.Ytgknmpdfikbdmab
