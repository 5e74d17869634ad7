/-
  The library's merge of two sorted runs: it sorts what they hold; and its stable sort.
-/
import Derived.Test.YtekgcoajgbpniacGreatSort2
namespace Go.Proofs.YtekgcoajgbpniacGreat
open Go.RowKit
set_option linter.unusedVariables false

/-- what the merge answers, for all runs of at most so many elements -/
def MergeUpTo (h : Value) (N bp bx cap L : Nat) : Prop := ∀ (d : Nat → Int × Int) (a m b : Nat) (w : World), b - a ≤ L → a < m → m < b → b ≤ N → bp < w.heap.size → bx < w.heap.size →
    w.cell? ⟨bx, 0, none⟩ = some (.slice (some ⟨bp, 0, none⟩) N cap) → PS N bp d w → Stab.Srt Stab.lx d a m → Stab.Srt Stab.lx d m b → Stab.Cross d a m b →
    Calls Tryz.prog 107 #[.agg #[LF bx, SF h N bp cap], .int .i64 a, .int .i64 m, .int .i64 b] w fun e w' => e = .returned (.tuple #[]) ∧ ∃ d', PS N bp d' w' ∧ Stab.Moved a b d d' ∧ Stab.Srt Stab.lx d' a b ∧ w.grownBy w' (some bp)

/-- where the merge's last part stands -/
structure MSt (h : Value) (N bp bx cap : Nat) (w W : World) (D : Nat → Int × Int) : Prop where
  ps : PS N bp D W
  grown : w.grownBy W (some bp)
  c0 : W.cell? ⟨w.heap.size, 0, none⟩ = some (LF bx)
  c1 : W.cell? ⟨w.heap.size, 1, none⟩ = some (SF h N bp cap)
  box : W.cell? ⟨bx, 0, none⟩ = some (.slice (some ⟨bp, 0, none⟩) N cap)
  new : bp < w.heap.size
theorem MSt.next {h : Value} {N bp bx cap : Nat} {w W W' : World} {D D' : Nat → Int × Int} (s : MSt h N bp bx cap w W D) (hbx : bx < w.heap.size) (hne : bx ≠ bp) (p : PS N bp D' W') (g : W.grownBy W' (some bp)) : MSt h N bp bx cap w W' D' :=
  ⟨p, grown_trans' s.grown g, g.cell s.c0 (by have := s.new; simp; omega), g.cell s.c1 (by have := s.new; simp; omega), g.cell s.box (by simpa using hne), s.new⟩
/-- the second pair of runs is as it was behind the first was merged -/
theorem mp_next {D d1 : Nat → Int × Int} {a st mid en b : Nat} (mp : (Stab.Srt Stab.lx D a st ∧ Stab.Srt Stab.lx D st mid ∧ Stab.Cross D a st mid) ∧ (Stab.Srt Stab.lx D mid en ∧ Stab.Srt Stab.lx D en b ∧ Stab.Cross D mid en b)) (hm : Stab.Moved a mid D d1) (hen : mid ≤ en) :
    Stab.Srt Stab.lx d1 mid en ∧ Stab.Srt Stab.lx d1 en b ∧ Stab.Cross d1 mid en b :=
  ⟨mp.2.1.congr (fun k hk _ => hm.out k (by omega)), mp.2.2.1.congr (fun k hk _ => hm.out k (by omega)), mp.2.2.2.congr (fun k hk _ => hm.out k (by omega))⟩

set_option maxHeartbeats 4000000 in
set_option maxRecDepth 100000 in
theorem symMerge_both (h : Value) (hh : Hid (h = typeHandle Tryz.prog 125)) (N bp bx cap L : Nat) (hIH : Hid (MergeUpTo h N bp bx cap L)) (d : Nat → Int × Int) (a m b mid lo hi : Nat) (w : World) (hN : N ≤ 288) (hL : b - a ≤ L + 1) (ham : a + 1 < m) (hmb : m + 1 < b) (hb : b ≤ N) (hbp : bp < w.heap.size) (hbx : bx < w.heap.size) (hne : bx ≠ bp)
    (hmid : Hid (mid = (a + b) / 2)) (hway : Hid ((mid < m ∧ lo + b = mid + m ∧ hi = mid) ∨ (m ≤ mid ∧ lo = a ∧ hi = m)))
    (hbox : w.cell? ⟨bx, 0, none⟩ = some (.slice (some ⟨bp, 0, none⟩) N cap)) (hP : PS N bp d w) (sL : Stab.Srt Stab.lx d a m) (sR : Stab.Srt Stab.lx d m b) (hc : Stab.Cross d a m b) :
    Calls Tryz.prog 107 #[.agg #[LF bx, SF h N bp cap], .int .i64 a, .int .i64 m, .int .i64 b] w fun e w' => e = .returned (.tuple #[]) ∧ ∃ d', PS N bp d' w' ∧ Stab.Moved a b d d' ∧ Stab.Srt Stab.lx d' a b ∧ w.grownBy w' (some bp) := by
  have HP := hide hP
  have HSL := hide sL
  have HSR := hide sR
  have HC := hide hc
  have HBX := hide hbox
  have h1 : ((m : Int) - (a : Int) == 1) = false := by rw [beq_eq_false_iff_ne]; omega
  have h2 : ((b : Int) - (m : Int) == 1) = false := by rw [beq_eq_false_iff_ne]; omega
  have hlo : a ≤ lo ∧ lo ≤ hi ∧ hi ≤ m ∧ hi ≤ mid ∧ a < mid ∧ mid < b ∧ mid + m ≤ lo + b := by have := unhide hmid; have := unhide hway; omega
  obtain ⟨q1, q2, q3, q4, q5, q6, q7⟩ := hlo
  have hmI : ((a : Int) + (b : Int)) / 2 = (mid : Int) := by have := unhide hmid; omega
  have HMI := hide hmI
  clear hP sL sR hc hbox hmI
  rcases unhide hway with ⟨v1, v2, v3⟩ | ⟨v1, v2, v3⟩
  case' inl => have hcmp : ((a : Int) + (b : Int)) / 2 < (m : Int) := by rw [unhide HMI]; omega
  case' inr => have hcmp : ¬ ((a : Int) + (b : Int)) / 2 < (m : Int) := by rw [unhide HMI]; omega
  all_goals
    have V2 := hide v2
    have V3 := hide v3
    clear v2 v3
    go_enter Tryz.func107, Tryz.ntmps107
    go_wp2
    go_loopw [18, 19, 21] (fun vi vj vh wr => ∃ st r q : Nat, lo ≤ st ∧ st ≤ r ∧ r ≤ hi ∧ vi = .int .i64 st ∧ vj = .int .i64 r ∧ (lo < st → Stab.lx (d (st - 1)) (d (mid + m - st))) ∧ (r < hi → Stab.lx (d (mid + m - 1 - r)) (d r)) ∧ wr = (w.alloc (.cells #[LF bx, SF h N bp cap] 157)).drewN q) (fun vi vj _ _ => (intOf vj).toNat - (intOf vi).toNat)
    case atStart => exact ⟨lo, hi, 0, Nat.le_refl _, q2, Nat.le_refl _, congrArg (Value.int .i64) (by have := unhide V2; have := unhide HMI; omega), congrArg (Value.int .i64) (by have := unhide V3; have := unhide HMI; omega), fun h => by omega, fun h => by omega, rfl⟩
    case round =>
      obtain ⟨st, r, q, hi1, hij, hj, rfl, rfl, hlo, hhi, rfl⟩ := hrel
      have HLO := hide hlo
      have HHI := hide hhi
      clear hlo hhi
      by_cases hlt : st < r
      · obtain ⟨c, hcc⟩ : ∃ c, c = (st + r) / 2 := ⟨_, rfl⟩
        have hc1 : st ≤ c := by omega
        have hc2 : c < r := by omega
        have E : Hid (((st : Int) + (r : Int)) / 2 = (c : Int)) := by unfold Hid; omega
        have E2 : Hid (((a : Int) + (b : Int)) / 2 + (m : Int) - 1 - (c : Int) = ((mid + m - 1 - c : Nat) : Int)) := by unfold Hid; have := unhide HMI; omega
        have hx := Stab.cross_less (unhide HC c (mid + m - 1 - c) (by omega) (by omega) (by omega) (by omega))
        clear hcc
        go_wp2_with fail
        rw [unhide E, unhide E2]
        refine (less_any N bp bx cap d _ (mid + m - 1 - c) c (by omega) (by omega) hN (((unhide HP).alloc hbp _).drewN q) (by rw [World.cell?_drewN, World.cell?_alloc_past _ _ _ hbx]; exact unhide HBX)).mono ?_
        rintro e w2 ⟨rfl, q2, rfl⟩
        rw [World.drewN_drewN]
        cases hd : decide ((d (mid + m - 1 - c)).1 < (d c).1) with
        | true =>
          have HX := hide (hx.1 hd)
          clear hx hd
          go_wp2
          go_roundw
          case rel => exact ⟨st, c, _, hi1, hc1, by omega, rfl, rfl, unhide HLO, fun _ => unhide HX, rfl⟩
          case measure => simp [intOf]; omega
        | false =>
          have HX := hide (hx.2 hd)
          have ee : Hid (mid + m - (c + 1) = mid + m - 1 - c) := by unfold Hid; omega
          clear hx hd
          go_wp2
          go_roundw
          case rel => exact ⟨c + 1, r, _, by omega, by omega, hj, by go_num, rfl, fun _ => by rw [unhide ee]; exact unhide HX, unhide HHI, rfl⟩
          case measure => simp [intOf]; omega
      · obtain rfl : st = r := by omega
        have hno : ¬ (st : Int) < (st : Int) := by omega
        obtain ⟨en, hen⟩ : ∃ en, en + st = mid + m := ⟨mid + m - st, by omega⟩
        have hEN : (mid : Int) + (m : Int) - (st : Int) = (en : Int) := by omega
        have hmm : mid + m = st + en := by omega
        have hen1 : m ≤ en := by have := unhide hway; omega
        have hen2 : en ≤ b := by omega
        have hen3 : mid ≤ en := by omega
        have MP := hide (Stab.merge_parts (show a ≤ st by omega) (show st ≤ m by omega) hen1 hen2 hmm (unhide HSL) (unhide HSR) (unhide HC))
        have CL : Hid (a < st → en < b → Stab.lx (d (st - 1)) (d en)) := fun c1 c2 => by
          have h := unhide HLO (by have := unhide V2; have := unhide hway; omega)
          rw [show mid + m - st = en by omega] at h
          exact h
        have CR : Hid (st < m → m < en → Stab.lx (d (en - 1)) (d st)) := fun c1 c2 => by
          have h := unhide HHI (by have := unhide V3; have := unhide hway; omega)
          rw [show mid + m - 1 - st = en - 1 by omega] at h
          exact h
        have S0 : Hid (MSt h N bp bx cap w ((w.alloc (.cells #[LF bx, SF h N bp cap] 157)).drewN q) d) := ⟨((unhide HP).alloc hbp _).drewN q, grown_drewN' (grown_alloc' (grown_refl' _ _) _) q, by rw [World.cell?_drewN]; simp, by rw [World.cell?_drewN]; simp, by rw [World.cell?_drewN, World.cell?_alloc_past _ _ _ hbx]; exact unhide HBX, hbp⟩
        have ca0 := (unhide S0).c0
        have cb0 := (unhide S0).c1
        rw [unhide HMI]
        generalize (w.alloc (.cells #[LF bx, SF h N bp cap] 157)).drewN q = w0 at *
        have ww : (st < m ∧ m < en ∧ a < st ∧ en < b ∧ st < mid ∧ mid < en) ∨ (st < m ∧ m < en ∧ a < st ∧ en = b ∧ st < mid ∧ mid < en) ∨ (st < m ∧ m < en ∧ st = a ∧ en < b ∧ st < mid ∧ mid < en) ∨ (st < m ∧ m < en ∧ st = a ∧ en = b ∧ st < mid ∧ mid < en) ∨ (st = m ∧ en = mid ∧ a < st ∧ st < mid) ∨ (st = m ∧ en = mid ∧ a < st ∧ st = mid) ∨ (st < m ∧ en = m ∧ st = mid ∧ a < st ∧ mid < en ∧ en < b) := by omega
        clear HLO HHI hen
        rcases ww with ww | ww | ww | ww | ww | ww | ww
        · have k1 : (st : Int) < (m : Int) := by omega
          have k2 : (m : Int) < (en : Int) := by omega
          have l1 : (a : Int) < (st : Int) := by omega
          have l2 : (st : Int) < (mid : Int) := by omega
          have n1 : (mid : Int) < (en : Int) := by omega
          have n2 : (en : Int) < (b : Int) := by omega
          have WW := hide ww
          clear ww
          go_wp2_with fail
          refine (rotate_any h hh N bp bx cap d st m en _ hN (by have := unhide WW; omega) (by have := unhide WW; omega) (by have := unhide WW; omega) (Nat.lt_of_lt_of_le hbp (unhide S0).grown.size) (unhide S0).ps).mono ?_
          rintro e w1 ⟨rfl, p1, g1⟩
          have S1 := hide ((unhide S0).next hbx hne p1 g1)
          have ca1 := (unhide S1).c0
          have cb1 := (unhide S1).c1
          clear p1 g1
          go_wp2_with fail
          refine (unhide hIH (Stab.rot d st m en) a st mid _ (by have := unhide WW; omega) (by have := unhide WW; omega) (by have := unhide WW; omega) (by have := unhide WW; omega) (Nat.lt_of_lt_of_le hbp (unhide S1).grown.size) (Nat.lt_of_lt_of_le hbx (unhide S1).grown.size) (unhide S1).box (unhide S1).ps (unhide MP).1.1 (unhide MP).1.2.1 (unhide MP).1.2.2).mono ?_
          rintro e w2 ⟨rfl, d1, p2, m1, s1, g2⟩
          have S2 := hide ((unhide S1).next hbx hne p2 g2)
          have MM1 := hide m1
          have SS1 := hide s1
          have ca2 := (unhide S2).c0
          have cb2 := (unhide S2).c1
          clear p2 g2 m1 s1
          have MP2 := hide (mp_next (unhide MP) (unhide MM1) hen3)
          go_wp2_with fail
          refine (unhide hIH d1 mid en b _ (by have := unhide WW; omega) (by have := unhide WW; omega) (by have := unhide WW; omega) (by have := unhide WW; omega) (Nat.lt_of_lt_of_le hbp (unhide S2).grown.size) (Nat.lt_of_lt_of_le hbx (unhide S2).grown.size) (unhide S2).box (unhide S2).ps (unhide MP2).1 (unhide MP2).2.1 (unhide MP2).2.2).mono ?_
          rintro e w3 ⟨rfl, d2, p3, m2, s2, g3⟩
          have S3 := hide ((unhide S2).next hbx hne p3 g3)
          have MM2 := hide m2
          have SS2 := hide s2
          clear p3 g3 m2 s2
          have FIN := hide (Stab.merge_step Stab.lx_trans (by have := unhide WW; omega) (by have := unhide WW; omega) (by have := unhide WW; omega) (by have := unhide WW; omega) hmm (unhide HSL) (unhide HSR) (unhide CL) (unhide CR) (unhide MM1) (unhide SS1) (unhide MM2) (unhide SS2))
          go_wp2
          all_goals (go_end0; exact ⟨rfl, d2, (unhide S3).ps, (unhide FIN).2, (unhide FIN).1, (unhide S3).grown⟩)
        · have k1 : (st : Int) < (m : Int) := by omega
          have k2 : (m : Int) < (en : Int) := by omega
          have l1 : (a : Int) < (st : Int) := by omega
          have l2 : (st : Int) < (mid : Int) := by omega
          have n1 : (mid : Int) < (en : Int) := by omega
          have n2 : ¬ (en : Int) < (b : Int) := by omega
          have WW := hide ww
          clear ww
          go_wp2_with fail
          refine (rotate_any h hh N bp bx cap d st m en _ hN (by have := unhide WW; omega) (by have := unhide WW; omega) (by have := unhide WW; omega) (Nat.lt_of_lt_of_le hbp (unhide S0).grown.size) (unhide S0).ps).mono ?_
          rintro e w1 ⟨rfl, p1, g1⟩
          have S1 := hide ((unhide S0).next hbx hne p1 g1)
          have ca1 := (unhide S1).c0
          have cb1 := (unhide S1).c1
          clear p1 g1
          go_wp2_with fail
          refine (unhide hIH (Stab.rot d st m en) a st mid _ (by have := unhide WW; omega) (by have := unhide WW; omega) (by have := unhide WW; omega) (by have := unhide WW; omega) (Nat.lt_of_lt_of_le hbp (unhide S1).grown.size) (Nat.lt_of_lt_of_le hbx (unhide S1).grown.size) (unhide S1).box (unhide S1).ps (unhide MP).1.1 (unhide MP).1.2.1 (unhide MP).1.2.2).mono ?_
          rintro e w2 ⟨rfl, d1, p2, m1, s1, g2⟩
          have S2 := hide ((unhide S1).next hbx hne p2 g2)
          have MM1 := hide m1
          have SS1 := hide s1
          have ca2 := (unhide S2).c0
          have cb2 := (unhide S2).c1
          clear p2 g2 m1 s1
          have MP2 := hide (mp_next (unhide MP) (unhide MM1) hen3)
          have S3 := S2
          obtain ⟨d2, hd2⟩ : ∃ d2, d2 = d1 := ⟨_, rfl⟩
          rw [← hd2] at S3
          have MM2 : Hid (Stab.Moved mid b d1 d2) := by rw [hd2]; exact Stab.Moved.refl _ _ _
          have SS2 : Hid (Stab.Srt Stab.lx d2 mid b) := by rw [hd2]; exact (unhide MP2).1.sub (Nat.le_refl _) (by have := unhide WW; omega)
          clear hd2
          have FIN := hide (Stab.merge_step Stab.lx_trans (by have := unhide WW; omega) (by have := unhide WW; omega) (by have := unhide WW; omega) (by have := unhide WW; omega) hmm (unhide HSL) (unhide HSR) (unhide CL) (unhide CR) (unhide MM1) (unhide SS1) (unhide MM2) (unhide SS2))
          go_wp2
          all_goals (go_end0; exact ⟨rfl, d2, (unhide S3).ps, (unhide FIN).2, (unhide FIN).1, (unhide S3).grown⟩)
        · have k1 : (st : Int) < (m : Int) := by omega
          have k2 : (m : Int) < (en : Int) := by omega
          have l1 : ¬ (a : Int) < (st : Int) := by omega
          have n1 : (mid : Int) < (en : Int) := by omega
          have n2 : (en : Int) < (b : Int) := by omega
          have WW := hide ww
          clear ww
          go_wp2_with fail
          refine (rotate_any h hh N bp bx cap d st m en _ hN (by have := unhide WW; omega) (by have := unhide WW; omega) (by have := unhide WW; omega) (Nat.lt_of_lt_of_le hbp (unhide S0).grown.size) (unhide S0).ps).mono ?_
          rintro e w1 ⟨rfl, p1, g1⟩
          have S1 := hide ((unhide S0).next hbx hne p1 g1)
          have ca1 := (unhide S1).c0
          have cb1 := (unhide S1).c1
          clear p1 g1
          have S2 := S1
          obtain ⟨d1, hd1⟩ : ∃ d1, d1 = Stab.rot d st m en := ⟨_, rfl⟩
          rw [← hd1] at S2
          have MM1 : Hid (Stab.Moved a mid (Stab.rot d st m en) d1) := by rw [hd1]; exact Stab.Moved.refl _ _ _
          have SS1 : Hid (Stab.Srt Stab.lx d1 a mid) := by rw [hd1]; exact (unhide MP).1.2.1.sub (by have := unhide WW; omega) (Nat.le_refl _)
          clear hd1
          have MP2 := hide (mp_next (unhide MP) (unhide MM1) hen3)
          go_wp2_with fail
          refine (unhide hIH d1 mid en b _ (by have := unhide WW; omega) (by have := unhide WW; omega) (by have := unhide WW; omega) (by have := unhide WW; omega) (Nat.lt_of_lt_of_le hbp (unhide S2).grown.size) (Nat.lt_of_lt_of_le hbx (unhide S2).grown.size) (unhide S2).box (unhide S2).ps (unhide MP2).1 (unhide MP2).2.1 (unhide MP2).2.2).mono ?_
          rintro e w3 ⟨rfl, d2, p3, m2, s2, g3⟩
          have S3 := hide ((unhide S2).next hbx hne p3 g3)
          have MM2 := hide m2
          have SS2 := hide s2
          clear p3 g3 m2 s2
          have FIN := hide (Stab.merge_step Stab.lx_trans (by have := unhide WW; omega) (by have := unhide WW; omega) (by have := unhide WW; omega) (by have := unhide WW; omega) hmm (unhide HSL) (unhide HSR) (unhide CL) (unhide CR) (unhide MM1) (unhide SS1) (unhide MM2) (unhide SS2))
          go_wp2
          all_goals (go_end0; exact ⟨rfl, d2, (unhide S3).ps, (unhide FIN).2, (unhide FIN).1, (unhide S3).grown⟩)
        · have k1 : (st : Int) < (m : Int) := by omega
          have k2 : (m : Int) < (en : Int) := by omega
          have l1 : ¬ (a : Int) < (st : Int) := by omega
          have n1 : (mid : Int) < (en : Int) := by omega
          have n2 : ¬ (en : Int) < (b : Int) := by omega
          have WW := hide ww
          clear ww
          go_wp2_with fail
          refine (rotate_any h hh N bp bx cap d st m en _ hN (by have := unhide WW; omega) (by have := unhide WW; omega) (by have := unhide WW; omega) (Nat.lt_of_lt_of_le hbp (unhide S0).grown.size) (unhide S0).ps).mono ?_
          rintro e w1 ⟨rfl, p1, g1⟩
          have S1 := hide ((unhide S0).next hbx hne p1 g1)
          have ca1 := (unhide S1).c0
          have cb1 := (unhide S1).c1
          clear p1 g1
          have S2 := S1
          obtain ⟨d1, hd1⟩ : ∃ d1, d1 = Stab.rot d st m en := ⟨_, rfl⟩
          rw [← hd1] at S2
          have MM1 : Hid (Stab.Moved a mid (Stab.rot d st m en) d1) := by rw [hd1]; exact Stab.Moved.refl _ _ _
          have SS1 : Hid (Stab.Srt Stab.lx d1 a mid) := by rw [hd1]; exact (unhide MP).1.2.1.sub (by have := unhide WW; omega) (Nat.le_refl _)
          clear hd1
          have MP2 := hide (mp_next (unhide MP) (unhide MM1) hen3)
          have S3 := S2
          obtain ⟨d2, hd2⟩ : ∃ d2, d2 = d1 := ⟨_, rfl⟩
          rw [← hd2] at S3
          have MM2 : Hid (Stab.Moved mid b d1 d2) := by rw [hd2]; exact Stab.Moved.refl _ _ _
          have SS2 : Hid (Stab.Srt Stab.lx d2 mid b) := by rw [hd2]; exact (unhide MP2).1.sub (Nat.le_refl _) (by have := unhide WW; omega)
          clear hd2
          have FIN := hide (Stab.merge_step Stab.lx_trans (by have := unhide WW; omega) (by have := unhide WW; omega) (by have := unhide WW; omega) (by have := unhide WW; omega) hmm (unhide HSL) (unhide HSR) (unhide CL) (unhide CR) (unhide MM1) (unhide SS1) (unhide MM2) (unhide SS2))
          go_wp2
          all_goals (go_end0; exact ⟨rfl, d2, (unhide S3).ps, (unhide FIN).2, (unhide FIN).1, (unhide S3).grown⟩)
        · have k1 : ¬ (st : Int) < (m : Int) := by omega
          have l1 : (a : Int) < (st : Int) := by omega
          have l2 : (st : Int) < (mid : Int) := by omega
          have n1 : ¬ (mid : Int) < (en : Int) := by omega
          have WW := hide ww
          clear ww
          have S1 : Hid (MSt h N bp bx cap w w0 (Stab.rot d st m en)) := by rw [show Stab.rot d st m en = d from by rw [show st = m by have := unhide WW; omega]; exact Stab.rot_left d m en]; exact unhide S0
          have ca1 := (unhide S1).c0
          have cb1 := (unhide S1).c1
          go_wp2_with fail
          refine (unhide hIH (Stab.rot d st m en) a st mid _ (by have := unhide WW; omega) (by have := unhide WW; omega) (by have := unhide WW; omega) (by have := unhide WW; omega) (Nat.lt_of_lt_of_le hbp (unhide S1).grown.size) (Nat.lt_of_lt_of_le hbx (unhide S1).grown.size) (unhide S1).box (unhide S1).ps (unhide MP).1.1 (unhide MP).1.2.1 (unhide MP).1.2.2).mono ?_
          rintro e w2 ⟨rfl, d1, p2, m1, s1, g2⟩
          have S2 := hide ((unhide S1).next hbx hne p2 g2)
          have MM1 := hide m1
          have SS1 := hide s1
          have ca2 := (unhide S2).c0
          have cb2 := (unhide S2).c1
          clear p2 g2 m1 s1
          have MP2 := hide (mp_next (unhide MP) (unhide MM1) hen3)
          have S3 := S2
          obtain ⟨d2, hd2⟩ : ∃ d2, d2 = d1 := ⟨_, rfl⟩
          rw [← hd2] at S3
          have MM2 : Hid (Stab.Moved mid b d1 d2) := by rw [hd2]; exact Stab.Moved.refl _ _ _
          have SS2 : Hid (Stab.Srt Stab.lx d2 mid b) := by rw [hd2]; exact (unhide MP2).2.1.sub (by have := unhide WW; omega) (Nat.le_refl _)
          clear hd2
          have FIN := hide (Stab.merge_step Stab.lx_trans (by have := unhide WW; omega) (by have := unhide WW; omega) (by have := unhide WW; omega) (by have := unhide WW; omega) hmm (unhide HSL) (unhide HSR) (unhide CL) (unhide CR) (unhide MM1) (unhide SS1) (unhide MM2) (unhide SS2))
          go_wp2
          all_goals (go_end0; exact ⟨rfl, d2, (unhide S3).ps, (unhide FIN).2, (unhide FIN).1, (unhide S3).grown⟩)
        · have k1 : ¬ (st : Int) < (m : Int) := by omega
          have l1 : (a : Int) < (st : Int) := by omega
          have l2 : ¬ (st : Int) < (mid : Int) := by omega
          have n1 : ¬ (mid : Int) < (en : Int) := by omega
          have WW := hide ww
          clear ww
          have S1 : Hid (MSt h N bp bx cap w w0 (Stab.rot d st m en)) := by rw [show Stab.rot d st m en = d from by rw [show st = m by have := unhide WW; omega]; exact Stab.rot_left d m en]; exact unhide S0
          have ca1 := (unhide S1).c0
          have cb1 := (unhide S1).c1
          have S2 := S1
          obtain ⟨d1, hd1⟩ : ∃ d1, d1 = Stab.rot d st m en := ⟨_, rfl⟩
          rw [← hd1] at S2
          have MM1 : Hid (Stab.Moved a mid (Stab.rot d st m en) d1) := by rw [hd1]; exact Stab.Moved.refl _ _ _
          have SS1 : Hid (Stab.Srt Stab.lx d1 a mid) := by rw [hd1]; exact (unhide MP).1.1.sub (Nat.le_refl _) (by have := unhide WW; omega)
          clear hd1
          have MP2 := hide (mp_next (unhide MP) (unhide MM1) hen3)
          have S3 := S2
          obtain ⟨d2, hd2⟩ : ∃ d2, d2 = d1 := ⟨_, rfl⟩
          rw [← hd2] at S3
          have MM2 : Hid (Stab.Moved mid b d1 d2) := by rw [hd2]; exact Stab.Moved.refl _ _ _
          have SS2 : Hid (Stab.Srt Stab.lx d2 mid b) := by rw [hd2]; exact (unhide MP2).2.1.sub (by have := unhide WW; omega) (Nat.le_refl _)
          clear hd2
          have FIN := hide (Stab.merge_step Stab.lx_trans (by have := unhide WW; omega) (by have := unhide WW; omega) (by have := unhide WW; omega) (by have := unhide WW; omega) hmm (unhide HSL) (unhide HSR) (unhide CL) (unhide CR) (unhide MM1) (unhide SS1) (unhide MM2) (unhide SS2))
          go_wp2
          all_goals (go_end0; exact ⟨rfl, d2, (unhide S3).ps, (unhide FIN).2, (unhide FIN).1, (unhide S3).grown⟩)
        · have k1 : (st : Int) < (m : Int) := by omega
          have k2 : ¬ (m : Int) < (en : Int) := by omega
          have l1 : (a : Int) < (st : Int) := by omega
          have l2 : ¬ (st : Int) < (mid : Int) := by omega
          have n1 : (mid : Int) < (en : Int) := by omega
          have n2 : (en : Int) < (b : Int) := by omega
          have WW := hide ww
          clear ww
          have S1 : Hid (MSt h N bp bx cap w w0 (Stab.rot d st m en)) := by rw [show Stab.rot d st m en = d from by rw [show en = m by have := unhide WW; omega]; exact Stab.rot_right d st m]; exact unhide S0
          have ca1 := (unhide S1).c0
          have cb1 := (unhide S1).c1
          have S2 := S1
          obtain ⟨d1, hd1⟩ : ∃ d1, d1 = Stab.rot d st m en := ⟨_, rfl⟩
          rw [← hd1] at S2
          have MM1 : Hid (Stab.Moved a mid (Stab.rot d st m en) d1) := by rw [hd1]; exact Stab.Moved.refl _ _ _
          have SS1 : Hid (Stab.Srt Stab.lx d1 a mid) := by rw [hd1]; exact (unhide MP).1.1.sub (Nat.le_refl _) (by have := unhide WW; omega)
          clear hd1
          have MP2 := hide (mp_next (unhide MP) (unhide MM1) hen3)
          go_wp2_with fail
          refine (unhide hIH d1 mid en b _ (by have := unhide WW; omega) (by have := unhide WW; omega) (by have := unhide WW; omega) (by have := unhide WW; omega) (Nat.lt_of_lt_of_le hbp (unhide S2).grown.size) (Nat.lt_of_lt_of_le hbx (unhide S2).grown.size) (unhide S2).box (unhide S2).ps (unhide MP2).1 (unhide MP2).2.1 (unhide MP2).2.2).mono ?_
          rintro e w3 ⟨rfl, d2, p3, m2, s2, g3⟩
          have S3 := hide ((unhide S2).next hbx hne p3 g3)
          have MM2 := hide m2
          have SS2 := hide s2
          clear p3 g3 m2 s2
          have FIN := hide (Stab.merge_step Stab.lx_trans (by have := unhide WW; omega) (by have := unhide WW; omega) (by have := unhide WW; omega) (by have := unhide WW; omega) hmm (unhide HSL) (unhide HSR) (unhide CL) (unhide CR) (unhide MM1) (unhide SS1) (unhide MM2) (unhide SS2))
          go_wp2
          all_goals (go_end0; exact ⟨rfl, d2, (unhide S3).ps, (unhide FIN).2, (unhide FIN).1, (unhide S3).grown⟩)
end Go.Proofs.YtekgcoajgbpniacGreat
