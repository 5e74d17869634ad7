/-
  What the struct past answers: longest.
-/
import Derived.Test.YtmafecagcglaoahMatch3
namespace Go.Proofs.Ytmafecagcglaoah
open Go.RowKit
set_option linter.unusedVariables false
set_option maxRecDepth 100000

theorem Pas.row3 {No : Nat → Prop} {w : World} {p mb base b o n cap k : Nat} {bs : List Nat} (h : Pas No w p mb base b o n cap bs k) (hx : ∀ j, bs.getD j 0 < 256) (hk : k ≤ 3000) (x0 x1 x2 : Nat) (HX : key3 bs k = (x0, x1, x2)) :
    ∃ (a : Option Addr) (c L : Nat), (plc bs k (key3 bs k)).length = L ∧ (Instr.lookup 89 (.map (some mb)) (.agg #[.int .u8 (x0 : Int), .int .u8 (x1 : Int), .int .u8 (x2 : Int)]) false).run Try.prog w = .ok (.slice a L c) w ∧ L ≤ k ∧
      ∀ j, j < L → ∃ g, a = some ⟨g, 0, none⟩ ∧ w.cell? ⟨g, j, none⟩ = some (.int .i64 (((plc bs k (key3 bs k)).getD j 0 : Nat) : Int)) := by
  have ok := ok3_key hx k
  obtain ⟨D, hD, hA⟩ := h.grp
  obtain ⟨v, zs, hrun, hat, hoi, hzl, _⟩ := hD.at law3 Try.underlying89 (zero_row w) (by unfold maxLen; omega) (keyOf_kv ok)
  have hzs : zs = (plc bs k (key3 bs k)).map fun x : Nat => (x : Int) := row_places hoi (by rw [← hat]; exact (hA _ ok).symm)
  have hlen : zs.length = (plc bs k (key3 bs k)).length := by rw [hzs]; simp
  have hrun' : (Instr.lookup 89 (.map (some mb)) (.agg #[.int .u8 (x0 : Int), .int .u8 (x1 : Int), .int .u8 (x2 : Int)]) false).run Try.prog w = .ok v w := by
    rw [show (Value.agg #[.int .u8 (x0 : Int), .int .u8 (x1 : Int), .int .u8 (x2 : Int)]) = kv (key3 bs k) by rw [HX]; rfl]
    exact hrun
  rcases hoi.1.2 with ⟨h1, h2⟩ | ⟨g, c, cur, h1, h2⟩
  · refine ⟨none, 0, 0, by omega, by rw [hrun', h1], Nat.zero_le _, fun j hj => by omega⟩
  · refine ⟨some ⟨g, 0, none⟩, c, zs.length, hlen.symm, by rw [hrun', h1], hzl, fun j hj => ⟨g, rfl, ?_⟩⟩
    have ho := hoi.1
    rw [h1] at ho
    rw [ho.cellAt j (by omega)]
    have : j < (plc bs k (key3 bs k)).length := by omega
    simp [hzs, List.getD, this]

theorem lng_short {bs : List Nat} {k : Nat} (h : mst bs.length k < 3) : lng bs k = (0, 0) :=
  lng_none (fun d h1 h2 => Nat.lt_of_le_of_lt (lcp_le _ _ _ _) h)

set_option maxHeartbeats 2000000 in
theorem longest_any (No : Nat → Prop) (B p mb base b o n cap kn k : Nat) (bs : List Nat) (w : World) (G : Geo No B p mb base b bs) (hl : bs.length = n) (hcap : n ≤ cap) (hP : Pas No w p mb base b o n cap bs kn) (hk : kn ≤ k) (hkn : k ≤ n) (hNo : ∀ g, w.heap.size ≤ g → ¬ No g) (rn rf : Nat) (hr : Hid (lng bs k = (rn, rf))) :
    Calls Try.prog 38 #[.pointer (some ⟨p, 0, none⟩), .int .i64 (k : Int)] w fun e w' => e = .returned (.tuple #[.int .i64 (rn : Int), .int .i64 (rf : Int)]) ∧ (∃ kn', kn' ≤ k ∧ Pas No w' p mb base b o n cap bs kn') ∧ Below B w w' ∧ Kp No w w' := by
  have HG := hide G
  have HP := hide hP
  have HN := hide hNo
  have HL := hide hl
  have hn := G.len
  have c0 := hP.pst.cell0
  clear G hP hNo
  go_enter Try.func38, Try.ntmps38
  by_cases h3 : mst n k < 3
  · obtain ⟨m, hm⟩ : ∃ m, m = mst n k := ⟨_, rfl⟩
    have hmi : (if (n : Int) - (k : Int) < 258 then (n : Int) - (k : Int) else 258) = (m : Int) := by rw [hm]; unfold mst; split <;> omega
    have hm3 : m < 3 := by omega
    have hr0 := unhide hr
    rw [lng_short (by rw [hl]; exact h3)] at hr0
    obtain ⟨rfl, rfl⟩ : 0 = rn ∧ 0 = rf := by simpa using hr0
    go_wp2
    go_ret2
    exact ⟨rfl, ⟨kn, hk, unhide HP⟩, Below.refl _ _, Kp.refl _ _⟩
  · obtain ⟨m, hm⟩ : ∃ m, m = mst n k := ⟨_, rfl⟩
    have hmi : (if (n : Int) - (k : Int) < 258 then (n : Int) - (k : Int) else 258) = (m : Int) := by rw [hm]; unfold mst; split <;> omega
    have hm3 : 3 ≤ m := by omega
    have hmk : k + m ≤ n := by rw [hm]; unfold mst; omega
    have hm258 : m ≤ 258 := by rw [hm]; unfold mst; omega
    have HM := hide hm
    clear hm h3
    go_wp2_with fail
    refine (enter_any No B p mb base b o n cap kn k bs w (unhide HG) hl hcap (unhide HP) hk (by omega) (unhide HN)).mono ?_
    rintro e w1 ⟨rfl, hP1, hB1, hK1⟩
    have HP1 := hide hP1
    have HB1 := hide hB1
    have HK1 := hide hK1
    have d0 := hP1.pst.cell0
    have d1 := hP1.pst.cell1
    have b0 := hP1.row k (by omega)
    have b1 := hP1.row (k + 1) (by omega)
    have b2 := hP1.row (k + 2) (by omega)
    rw [← Nat.add_assoc] at b1 b2
    clear hP1 hB1 hK1 c0
    generalize hx0 : bs.getD k 0 = x0 at b0
    generalize hx1 : bs.getD (k + 1) 0 = x1 at b1
    generalize hx2 : bs.getD (k + 2) 0 = x2 at b2
    have HX : Hid (key3 bs k = (x0, x1, x2)) := by rw [← hx0, ← hx1, ← hx2]; rfl
    clear hx0 hx1 hx2
    have hck : ¬ cap = k := by omega
    have har : ∀ (a : Option Addr) (c : Nat) (W : World), (Instr.arrayAt 95 (.slice a (n - k) c)).run Try.prog W = .ok (.pointer a) W := fun a c W => run_arrayAt _ _ _ _ _ _ _ Try.underlying95 (by omega)
    have HP2 : Hid (Pas No w1.drew p mb base b o n cap bs k) := (unhide HP1).drewN 1
    obtain ⟨a, c, L, hL, hlook, hLk, hcells⟩ := (unhide HP2).row3 (unhide HG).byte (by omega) x0 x1 x2 (unhide HX)
    have HLn := hide hL
    have HC := hide hcells
    clear hL hcells
    go_wp2
    go_big_region
    clear b0 b1 b2 har hlook d1 hmi
    have BY := hide (unhide HG).byte
    have HA : Hid (Han bs k (plc bs k (key3 bs k)) (L - L) 0 0) := .inl ⟨by omega, rfl, rfl⟩
    have H3 : Hid (∀ j, j < (plc bs k (key3 bs k)).length → 3 ≤ lcp bs ((plc bs k (key3 bs k)).getD j 0) k (mst bs.length k)) := by
      intro j hj
      refine (key3_lcp ?_).1 (plc_at bs k (key3 bs k) hj).2
      rw [unhide HL, ← unhide HM]; exact hm3
    have HLT := hide (fun j (hj : j < L) => (plc_at bs k (key3 bs k) (j := j) (by rw [unhide HLn]; exact hj)).1)
    have HE : Hid (∀ q x y, Han bs k (plc bs k (key3 bs k)) q x y → (q = L ∨ x = m) → lng bs k = (x, y)) := fun q x y h he => h.lng (by rw [unhide HL, ← unhide HM]; exact hm3) (by rw [unhide HL, ← unhide HM, unhide HLn]; exact he)
    have EM : Hid (mst bs.length k = m) := by rw [unhide HL]; exact (unhide HM).symm
    have dR := (unhide HP2).row
    have DR := hide dR
    clear dR
    generalize plc bs k (key3 bs k) = zs at *
    go_wp2
    go_loopw [4, 5, 8] (fun v4 v5 v8 wr => ∃ t x y q : Nat, t ≤ L ∧ v8 = .int .i64 ((t : Int) - 1) ∧ v4 = .int .i64 (x : Int) ∧ v5 = .int .i64 (y : Int) ∧ Han bs k zs (L - t) x y ∧ wr = w1.drewN q) (fun _ _ v8 _ => ((intOf v8) + 1).toNat)
    case atStart => exact ⟨L, 0, 0, 1, Nat.le_refl _, rfl, rfl, rfl, unhide HA, rfl⟩
    case round =>
      obtain ⟨t, x, y, q, ht, rfl, rfl, rfl, hH, rfl⟩ := hrel
      have HH := hide hH
      have hxm : x ≤ m := by have := hH.le.1; rw [unhide EM] at this; exact this
      clear hH
      by_cases hgo : 0 < t ∧ x < m
      · obtain ⟨h0, hxlt⟩ := hgo
        obtain ⟨t, rfl⟩ : ∃ t', t = t' + 1 := ⟨t - 1, by omega⟩
        obtain ⟨g, rfl, hc⟩ := unhide HC t (by omega)
        have hc' : w1.cell? ⟨g, t, none⟩ = some (.int .i64 ((zs.getD t 0 : Nat) : Int)) := hc
        have hzk := unhide HLT t (by omega)
        have ez : zs.length - 1 - (L - (t + 1)) = t := by rw [unhide HLn]; omega
        obtain ⟨r, hrr⟩ : ∃ r, r = if bs.getD (zs.getD t 0 + x) 0 = bs.getD (k + x) 0 then lcp bs (zs.getD t 0) k m else 0 := ⟨_, rfl⟩
        have HS := hide (same_any p b o n cap (zs.getD t 0) k x m bs (w1.drewN q) d0 (unhide DR) (unhide HL) (by omega) (unhide BY) hzk hxlt hmk r hrr)
        have HW : Hid ((r ≤ x → Han bs k zs (L - t) x y) ∧ (x < r → Han bs k zs (L - t) r (k - zs.getD t 0))) := by
          have hm' := (unhide HH).more (by rw [unhide HLn]; omega) (unhide H3)
          have hl' := (unhide HH).less (by rw [unhide HLn]; omega) (unhide H3)
          rw [ez, show L - (t + 1) + 1 = L - t by omega, unhide EM] at hm' hl'
          constructor
          · intro h
            refine hl' ?_
            by_cases e : bs.getD (zs.getD t 0 + x) 0 = bs.getD (k + x) 0
            · rw [if_pos e] at hrr; omega
            · exact lcp_le_of e
          · intro h
            have e : bs.getD (zs.getD t 0 + x) 0 = bs.getD (k + x) 0 := by
              by_cases e : bs.getD (zs.getD t 0 + x) 0 = bs.getD (k + x) 0
              · exact e
              · rw [if_neg e] at hrr; omega
            rw [if_pos e] at hrr
            rw [hrr] at h ⊢
            exact hm' h
        have hrm : r ≤ m := by
          rw [hrr]; split
          · exact lcp_le _ _ _ _
          · omega
        clear hrr hc ez
        generalize zs.getD t 0 = z at *
        go_wp2_with fail
        refine (unhide HS).mono ?_
        rintro e w2 ⟨rfl, q2, rfl⟩
        by_cases hrx : x < r
        · have HF := hide ((unhide HW).2 hrx)
          go_wp2
          go_quiet (fail)
          go_wp2
          go_roundw
          case rel => exact ⟨t, r, k - z, _, by omega, by go_num, rfl, by go_num, unhide HF, rfl⟩
          case measure => (simp [intOf]; try omega)
        · have HF := hide ((unhide HW).1 (by omega))
          go_wp2
          go_roundw
          case rel => exact ⟨t, x, y, _, by omega, by go_num, rfl, rfl, unhide HF, rfl⟩
          case measure => (simp [intOf]; try omega)
      · have hd : lng bs k = (x, y) := unhide HE (L - t) x y (unhide HH) (by omega)
        rw [unhide hr] at hd
        obtain ⟨rfl, rfl⟩ : rn = x ∧ rf = y := by simpa using hd
        by_cases h0 : 0 < t
        · have hxm2 : rn = m := by omega
          obtain ⟨t, rfl⟩ : ∃ t', t = t' + 1 := ⟨t - 1, by omega⟩
          subst hxm2
          go_wp2
          go_ret2
          exact ⟨rfl, ⟨k, Nat.le_refl _, (unhide HP1).drewN q⟩, below_drewN (unhide HB1) q, unhide HK1⟩
        · obtain rfl : t = 0 := by omega
          go_wp2
          go_ret2
          exact ⟨rfl, ⟨k, Nat.le_refl _, (unhide HP1).drewN q⟩, below_drewN (unhide HB1) q, unhide HK1⟩
end Go.Proofs.Ytmafecagcglaoah
