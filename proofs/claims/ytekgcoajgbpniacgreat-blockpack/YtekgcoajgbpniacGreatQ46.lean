/-
  The document's reader in memory: a kind that is kept; a Stored block that is read without an error.
-/
import Derived.Test.YtekgcoajgbpniacGreatUnpT1
import Derived.Test.YtekgcoajgbpniacGreatQ45
namespace Go.Proofs.YtekgcoajgbpniacGreat
open Go.RowKit
set_option linter.unusedVariables false
set_option maxRecDepth 100000

theorem own_apart {w : World} {b e size n : Nat} {v : Value} {xs : List Value} (h : w.ownsRow (b + 1) e size v n xs) : v.ownBlock = none ∨ v.ownBlock ≠ some b := by
  cases hx : v.ownBlock with
  | none => exact .inl rfl
  | some g =>
    refine .inr (fun e => ?_)
    have := (h.lt g hx).1
    cases e
    omega
/-- a kind is appended -/
theorem UIs.keepK {No : Nat → Prop} {B b k : Nat} {w w3 : World} {row : List Bool} {u : US} {ov kv v' : Value} {X : Obj} (hbb : B ≤ b) (hbn : ¬ No b) (hh : w.heap[b]? = some (.cells (ucells row u ov kv) 44 (0, 0)))
    (hov : w.ownsRow (b + 1) 5 1 ov u.out.length (u8s u.out)) (hkv : w.ownsRow (b + 1) 3 1 kv u.ks.length (i64s u.ks)) (hap : ov.ownBlock = none ∨ ov.ownBlock ≠ kv.ownBlock) (hn1 : ∀ g, ov.ownBlock = some g → ¬ No g) (hn2 : ∀ g, kv.ownBlock = some g → ¬ No g) (hNo : ∀ g, w.heap.size ≤ g → ¬ No g)
    (hO3 : w3.ownsRow (b + 1) 3 1 v' (u.ks.length + 1) (i64s u.ks ++ [.int .i64 (k : Int)])) (hgrow : (w.alloc X).grownBy w3 kv.ownBlock) (hspot : v'.ownBlock = kv.ownBlock ∨ v'.ownBlock = some (w.heap.size + 1)) :
    w3.cell? ⟨b, 3, none⟩ = some kv ∧ w3.frozen? ⟨b, 3, none⟩ = false ∧ UUp No B w b row (ukept k u) (w3.setCell ⟨b, 3, none⟩ v') := by
  have hbl : b < w.heap.size := (Array.getElem?_eq_some_iff.1 hh).1
  have hVb := own_apart hkv
  have hgb : w3.heap[b]? = some (.cells (ucells row u ov kv) 44 (0, 0)) := by
    rw [hgrow.block b (by simp; omega) (fun e => by rcases hVb with h | h; rw [h] at e; cases e; exact h e.symm)]
    exact (Below.heap_alloc w _ b hbl).trans hh
  have hgw : ∀ g, g < w.heap.size → kv.ownBlock ≠ some g → w3.heap[g]? = w.heap[g]? := fun g hg hne => by
    rw [hgrow.block g (by simp; omega) (fun e => hne e.symm)]
    exact Below.heap_alloc w _ g hg
  have hsz := hgrow.size
  have hset := grown_setCell w3 b 3 v'
  simp only [World.size_alloc] at hsz
  have ho3 : w3.ownsRow (b + 1) 5 1 ov u.out.length (u8s u.out) := own_kp hov (fun g hg => hgw g (hov.lt g hg).2 (fun e => by
    rcases hap with h | h
    · rw [h] at hg; cases hg
    · exact h (by rw [hg]; exact e.symm)))
  refine ⟨heap_row hgb, frozen_of_row w3 b 3 _ _ hgb, ⟨⟨hbb, hbn, ov, v', ?_, ho3.kept hset (own_apart hov), ?_, ?_, hn1, ?_⟩, ?_, ?_⟩⟩
  · rw [heap_setCell_same w3 b 3 _ _ _ hgb]; rfl
  · have := hO3.kept hset (own_apart hO3)
    show (w3.setCell ⟨b, 3, none⟩ v').ownsRow (b + 1) 3 1 v' (u.ks ++ [k]).length (i64s (u.ks ++ [k]))
    have e : i64s (u.ks ++ [k]) = i64s u.ks ++ [.int .i64 (k : Int)] := by simp [i64s]
    rw [e, List.length_append]
    exact this
  · rcases hspot with h | h
    · rw [h]; exact hap
    · cases hx : ov.ownBlock with
      | none => exact .inl rfl
      | some g =>
        refine .inr (fun e => ?_)
        rw [h] at e
        have := (hov.lt _ hx).2
        cases e
        omega
  · intro g hg
    rcases hspot with h | h
    · exact hn2 g (by rw [← h]; exact hg)
    · rw [h] at hg
      cases hg
      exact hNo _ (by omega)
  · have h1 : Below B w w3 := ((Below.refl B w).alloc (by omega) X).grown hgrow (by simp; omega) (fun g e => by have := (hkv.lt g e).1; omega)
    exact h1.setCell hbb _
  · intro g hg hn
    rw [heap_setCell_other w3 _ _ _ (fun e => hbn (by have : g = b := e; rw [← this]; exact hn))]
    exact hgw g hg (fun e => hn2 g e hn)
end Go.Proofs.YtekgcoajgbpniacGreat

/-
  The document's reader in memory: a Stored block that is read without an error. (Written by tools/mk_unpb2.py.)
-/
namespace Go.Proofs.YtekgcoajgbpniacGreat
open Go.RowKit
set_option linter.unusedVariables false
set_option maxRecDepth 100000

theorem ustore_e {row : List Bool} : ∀ {k : Nat} {u : US}, (ustore row k u).e = 0 → u.e = 0
  | 0, u, h => h
  | k + 1, u, h => by
    rw [ustore] at h
    by_cases e : u.e = 0
    · exact e
    · rw [if_neg e] at h; exact h
theorem ustore_ks {row : List Bool} : ∀ {k : Nat} {u : US}, (ustore row k u).e = 0 → (ustore row k u).ks = u.ks
  | 0, u, h => rfl
  | k + 1, u, h => by
    have he := ustore_e h
    rw [ustore, if_pos he] at h ⊢
    obtain ⟨r, y, hg⟩ : ∃ r y, uget row 8 u = (r, y) := ⟨_, _, rfl⟩
    rw [hg] at h ⊢
    obtain ⟨h1, _, h3⟩ := usay_e (ustore_e h)
    rw [ustore_ks h, h3]
    exact (uget_p2 hg h1).2.2.2.1
theorem beq_one (l : Nat) : ((l : Int) == 1) = decide (l = 1) := by
  by_cases e : l = 1
  · subst e; rfl
  · rw [decide_eq_false e, beq_eq_false_iff_ne]; omega
/-- a Stored block without an error -/
structure Sto (row : List Bool) (u : US) (r1 r2 : Nat) (y1 y2 V : US) : Prop where
  g1 : uget row 16 { u with p := (u.p + 7) / 8 * 8 } = (r1, y1)
  g2 : uget row 16 y1 = (r2, y2)
  e2 : y2.e = 0
  sum : r1 + r2 = 65535
  st : ustore row r1 y2 = V
  ev : V.e = 0
theorem ustored_good {row : List Bool} {u : US} (h : (ustored row u).e = 0) : ∃ r1 r2 y1 y2, Sto row u r1 r2 y1 y2 (ustored row u) := by
  obtain ⟨r1, y1, e1⟩ : ∃ r1 y1, uget row 16 { u with p := (u.p + 7) / 8 * 8 } = (r1, y1) := ⟨_, _, rfl⟩
  obtain ⟨r2, y2, e2⟩ : ∃ r2 y2, uget row 16 y1 = (r2, y2) := ⟨_, _, rfl⟩
  refine ⟨r1, r2, y1, y2, ?_⟩
  unfold ustored at h ⊢
  simp only [e1, e2] at h ⊢
  have hx := ustore_e h
  by_cases c : y2.e = 0 ∧ r1 + r2 ≠ 65535
  · rw [if_pos c] at hx
    exact absurd hx (uwrong_e (by decide))
  · rw [if_neg c] at h hx ⊢
    exact ⟨e1, e2, hx, by omega, rfl, h⟩

set_option maxHeartbeats 4000000 in
theorem block_stored (No : Nat → Prop) (B b n2 : Nat) (bs : List Nat) (u : US) (w : World) (h : UIs No B w b (rowB bs n2) u) (hn2 : n2 ≤ 25000) (hp : u.p ≤ 8 * n2) (ho : u.out.length ≤ 3000) (hks : u.ks.length ≤ 100) (hNo : ∀ g, w.heap.size ≤ g → ¬ No g) (l : Nat) (x1 x2 : US) (hg1 : uget (rowB bs n2) 1 u = (l, x1)) (hg2 : uget (rowB bs n2) 2 x1 = (0, x2)) (he2 : x2.e = 0) (hst : (ustored (rowB bs n2) x2).e = 0) :
    Calls Tryz.prog 13 #[.pointer (some ⟨b, 0, none⟩)] w fun e w' => e = .returned (.bool (decide (l = 1))) ∧ UUp No B w b (rowB bs n2) (ukept 0 (ustored (rowB bs n2) x2)) w' := by
  obtain ⟨i0, hi, hz0, hz1, hz2⟩ := info_parts info_int
  have hN := rowB_length bs n2
  have hrl : (rowB bs n2).length ≤ 200000 := by omega
  have hp0 : u.p ≤ (rowB bs n2).length := by omega
  obtain ⟨q2, q2l, q2o, q2k, q2e⟩ := uget_p2 hg2 he2
  obtain ⟨q1, q1l, q1o, q1k, _⟩ := uget_p2 hg1 q2e
  obtain ⟨r1, r2, y1, y2, hS⟩ := ustored_good hst
  have hy1e : y1.e = 0 := uget_e (by rw [hS.g2]; exact hS.e2)
  obtain ⟨p1, p1l, p1o, p1k, _⟩ := uget_p2 hS.g1 hy1e
  obtain ⟨p2, p2l, p2o, p2k, _⟩ := uget_p2 hS.g2 hS.e2
  obtain ⟨V, hV⟩ : ∃ V, ustored (rowB bs n2) x2 = V := ⟨_, rfl⟩
  rw [hV] at hS
  have hr1 : r1 < 65536 := by
    have := ulow (rowB bs n2) 16 { x2 with p := (x2.p + 7) / 8 * 8 }
    rw [hS.g1] at this
    exact this
  have hr2 : r2 < 65536 := by
    have := ulow (rowB bs n2) 16 y1
    rw [hS.g2] at this
    exact this
  have hVk : V.ks = u.ks := by
    have := ustore_ks (row := rowB bs n2) (k := r1) (u := y2) (by rw [hS.st]; exact hS.ev)
    rw [hS.st] at this
    rw [this, p2k, p1k]
    exact q2k.trans q1k
  have hy2o : y2.out.length ≤ 3000 := by
    rw [p2o, p1o]
    show x2.out.length ≤ 3000
    rw [q2o, q1o]
    exact ho
  have HKS : Hid (V.ks.length ≤ 100) := hide (by rw [hVk]; exact hks)
  have HS := hide hS
  have H := hide h
  have HNo := hide hNo
  have HG1 := hide hg1
  have HG2 := hide hg2
  have hl2 : l < 2 := by
    have := ulow (rowB bs n2) 1 u
    rw [hg1] at this
    exact this
  rw [hV]
  clear h hS hNo hg1 hg2 hst hV q1 q2 p1 p2 q2k q1k q2o q1o p1k p2k hVk hks
  go_enter Tryz.func13, Tryz.ntmps13
  go_wp2_with fail
  refine (get_l No B b 1 _ u w (unhide H) (by omega) hrl hp0 l x1 (unhide HG1)).mono ?_
  rintro e w1 ⟨rfl, hU1⟩
  have U1 := hide hU1
  clear hU1
  go_wp2_with fail
  refine (get_l No B b 2 _ x1 w1 (unhide U1).is (by omega) hrl q1l 0 x2 (unhide HG2)).mono ?_
  rintro e w2 ⟨rfl, hU2⟩
  have U2 := hide ((unhide U1).trans hU2)
  clear hU2
  obtain ⟨_, c12, c42, f2⟩ := (unhide U2).is.cell
  rw [he2] at c42
  have hpI : Hid (((x2.p : Int) + 7) / 8 * 8 = (((x2.p + 7) / 8 * 8 : Nat) : Int)) := hide (by omega)
  have U3 := hide ((unhide U2).trans ((unhide U2).is.setP ((x2.p + 7) / 8 * 8)))
  go_wp2_with fail
  rw [unhide hpI]
  refine (get_l No B b 16 _ { x2 with p := (x2.p + 7) / 8 * 8 } _ (unhide U3).is (by omega) hrl (by show (x2.p + 7) / 8 * 8 ≤ _; omega) r1 y1 (unhide HS).g1).mono ?_
  rintro e w4 ⟨rfl, hU4⟩
  have U4 := hide ((unhide U3).trans hU4)
  clear hU4
  go_wp2_with fail
  refine (get_l No B b 16 _ y1 w4 (unhide U4).is (by omega) hrl p1l r2 y2 (unhide HS).g2).mono ?_
  rintro e w5 ⟨rfl, hU5⟩
  have U5 := hide ((unhide U4).trans hU5)
  clear hU5
  obtain ⟨_, _, c45, _⟩ := (unhide U5).is.cell
  rw [(unhide HS).e2] at c45
  have hsm : ((r1 : Int) + (r2 : Int) != 65535) = false := by
    have := (unhide HS).sum
    rw [bne_eq_false_iff_eq]
    omega
  clear U1 U2 U3 U4 c12 c42 f2
  go_wp2
  go_loopw [9] (fun v9 wr => ∃ (i : Nat) (x : US), i ≤ r1 ∧ v9 = .int .i64 (i : Int) ∧ Hid (ustore (rowB bs n2) (r1 - i) x = V) ∧ Hid (x.p ≤ (rowB bs n2).length) ∧ Hid (x.out.length ≤ 3000) ∧ Hid (UUp No B w b (rowB bs n2) x wr)) (fun v9 _ => r1 - (intOf v9).toNat)
  case atStart => exact ⟨0, y2, Nat.zero_le _, rfl, hide (unhide HS).st, hide p2l, hide hy2o, U5⟩
  case round =>
    obtain ⟨i, x, hir, rfl, hst, hpx, hox, hU⟩ := hrel
    have hxe : x.e = 0 := ustore_e (by rw [unhide hst]; exact (unhide HS).ev)
    obtain ⟨_, _, c4x, _⟩ := (unhide hU).is.cell
    rw [hxe] at c4x
    by_cases hlt : i < r1
    · obtain ⟨r, y, hgr⟩ : ∃ r y, uget (rowB bs n2) 8 x = (r, y) := ⟨_, _, rfl⟩
      have hst2 : ustore (rowB bs n2) (r1 - (i + 1)) (usay r y) = V := by
        have := unhide hst
        rw [show r1 - i = (r1 - (i + 1)) + 1 by omega, ustore, if_pos hxe, hgr] at this
        exact this
      obtain ⟨hye, hy3, hsay⟩ := usay_e (ustore_e (by rw [hst2]; exact (unhide HS).ev))
      obtain ⟨_, hyl, hyo, _, _⟩ := uget_p2 hgr hye
      have hr8 : r < 256 := by
        have := ulow (rowB bs n2) 8 x
        rw [hgr] at this
        exact this
      have hyo2 : y.out.length ≤ 3000 := by rw [hyo]; exact unhide hox
      have HST2 := hide hst2
      have HSAY := hide hsay
      have hltI : (i : Int) < (r1 : Int) := by omega
      clear hst2 hsay hyo
      go_wp2_with fail
      refine (get_l No B b 8 _ x wr (unhide hU).is (by omega) hrl (unhide hpx) r y hgr).mono ?_
      rintro e w6 ⟨rfl, hU6⟩
      have U6 := hide ((unhide hU).trans hU6)
      clear hU6
      go_wp2_with fail
      refine (say_any No B b r _ y w6 (unhide U6).is hyo2 (fun g hg => unhide HNo g (by have := (unhide U6).below.size; omega))).mono ?_
      rintro e w7 ⟨rfl, hU7⟩
      have U7 := hide ((unhide U6).trans hU7)
      clear hU7
      go_wp2
      go_roundw
      case rel => exact ⟨i + 1, usay r y, by omega, by go_num, HST2, hide (by rw [unhide HSAY]; exact hyl), hide (by rw [unhide HSAY]; show (y.out ++ [r]).length ≤ 3000; rw [List.length_append]; simp only [List.length_cons, List.length_nil]; omega), U7⟩
      case measure => simp [intOf]; omega
    · have hi : i = r1 := by omega
      subst hi
      have hxV : x = V := by
        have := unhide hst
        rw [Nat.sub_self, ustore] at this
        exact this
      subst hxV
      obtain ⟨ov, kv, _, c3, hh, hov, hkv, hap, hn1, hn2⟩ := (unhide hU).is.rows
      obtain ⟨KL, hKL⟩ : ∃ KL, (x).ks.length = KL := ⟨_, rfl⟩
      have hKV := hkv
      rw [hKL] at hkv
      obtain ⟨ka, kc, rfl⟩ := own_slice' hkv
      have hsz9 := (unhide hU).below.size
      have hbl9 := (unhide hU).is.lt
      have hKL2 : KL ≤ 1000 := by have := unhide HKS; omega
      have HKV := hide hkv
      have HKV2 := hide hKV
      have HOV := hide hov
      have HH := hide hh
      have HAP := hide hap
      have HN1 := hide hn1
      have HN2 := hide hn2
      have HKL := hide hKL
      have HIS := hide (unhide hU).is
      clear hkv hKV hov hh hap hn1 hn2 hKL
      go_wp2_with (at_builtin; refine wpList_append_own_at _ rfl (.tmp 82) (.tmp 84) 23 rfl (b + 1) 3 i0 (.int .i64 0) 1 8 Tryz.underlying23 hi hz0 hz1 hz2 rfl (by decide) _ KL (i64s (x).ks) rfl ((unhide HKV).alloc _) ⟨wr.heap.size, 0, none⟩ 1 1 [.int .i64 (0)] rfl rfl (cell_one_new _ _ _) (one_cell rfl) (by unfold maxLen; omega) (by omega) (by simp; omega) ?_)
      intro v' wK hO3 hgrow _ hspot
      obtain ⟨q3, f3, hFIN⟩ := UIs.keepK (k := 0) (X := .cells #[.int .i64 (0)] 3) (unhide HIS).base (unhide HIS).no (unhide HH) (unhide HOV) (unhide HKV2) (unhide HAP) (unhide HN1) (unhide HN2) (fun g hg => unhide HNo g (by omega)) (by rw [unhide HKL]; exact hO3) hgrow (by simpa using hspot)
      obtain ⟨g9, c9, rfl, _, _⟩ := own_shape hO3 (by omega)
      have HFIN := hide ((unhide hU).trans hFIN)
      clear hO3 hgrow hspot hFIN
      go_wp2
      go_ret
      exact ⟨by rw [beq_one]; rfl, unhide HFIN⟩
end Go.Proofs.YtekgcoajgbpniacGreat

/-
  Small facts for blocks with codes.
-/
namespace Go.Proofs.YtekgcoajgbpniacGreat
open Go.RowKit
set_option linter.unusedVariables false
set_option maxRecDepth 100000

theorem fixA_ok : Good fixA := errL_good (by decide +kernel)
theorem fixB_ok : Good fixB := errL_good (by decide +kernel)
theorem usmall_p {row : List Bool} : ∀ {ks : List Nat} {s : List Int} {u : US}, (usmall row ks s u).2.e = 0 → u.p ≤ row.length → u.p ≤ (usmall row ks s u).2.p ∧ (usmall row ks s u).2.p ≤ row.length ∧ (usmall row ks s u).2.out = u.out ∧ (usmall row ks s u).2.ks = u.ks
  | [], s, u, h, hp => ⟨Nat.le_refl _, hp, rfl, rfl⟩
  | k :: r, s, u, h, hp => by
    rw [usmall] at h ⊢
    have h1 := usmall_e h
    obtain ⟨q1, q2, q3, q4, _⟩ := uget_p2 (r := (uget row 3 u).1) (v := (uget row 3 u).2) rfl h1
    obtain ⟨i1, i2, i3, i4⟩ := usmall_p h q2
    exact ⟨by omega, i2, i3.trans q3, i4.trans q4⟩
theorem ukind_p {row : List Bool} {l : List Int} {k : Nat} {u : US} (h : (ukind row l k u).2.2.e = 0) (hp : u.p ≤ row.length) : u.p ≤ (ukind row l k u).2.2.p ∧ (ukind row l k u).2.2.p ≤ row.length ∧ (ukind row l k u).2.2.out = u.out ∧ (ukind row l k u).2.2.ks = u.ks := by
  have key : ∀ n, (uget row n u).2.e = 0 → u.p ≤ (uget row n u).2.p ∧ (uget row n u).2.p ≤ row.length ∧ (uget row n u).2.out = u.out ∧ (uget row n u).2.ks = u.ks := fun n hn => by
    obtain ⟨q1, q2, q3, q4, _⟩ := uget_p2 (r := (uget row n u).1) (v := (uget row n u).2) rfl hn
    exact ⟨by omega, q2, q3, q4⟩
  unfold ukind at h ⊢
  split
  · rename_i h16
    rw [if_pos h16] at h
    split
    · rename_i h0
      rw [if_pos h0] at h
      exact absurd h (uwrong_e (by decide))
    · rename_i h0
      rw [if_neg h0] at h
      exact key 2 h
  · rename_i h16
    rw [if_neg h16] at h
    split
    · rename_i h17
      rw [if_pos h17] at h
      exact key 3 h
    · rename_i h17
      rw [if_neg h17] at h
      split
      · rename_i h18
        rw [if_pos h18] at h
        exact key 7 h
      · exact ⟨Nat.le_refl _, hp, rfl, rfl⟩
theorem ulens_p {row : List Bool} {small : List Int} {tot : Nat} : ∀ {F : Nat} {l : List Int} {u : US}, (ulens row small tot F l u).2.e = 0 → u.p ≤ row.length → u.p ≤ (ulens row small tot F l u).2.p ∧ (ulens row small tot F l u).2.p ≤ row.length ∧ (ulens row small tot F l u).2.out = u.out ∧ (ulens row small tot F l u).2.ks = u.ks
  | 0, l, u, h, hp => ⟨Nat.le_refl _, hp, rfl, rfl⟩
  | F + 1, l, u, h, hp => by
    by_cases hc : l.length < tot ∧ u.e = 0
    · obtain ⟨r, e⟩ := ulens_round hc.1 hc.2 h
      rw [e, r.st] at h ⊢
      simp only at h ⊢
      obtain ⟨a1, a2, a3, a4, _, _⟩ := uplace_p2 (k := (uplace small row u).1) (v := (uplace small row u).2) rfl r.pe
      obtain ⟨b1, b2, b3, b4⟩ := ukind_p r.ke a2
      obtain ⟨i1, i2, i3, i4⟩ := ulens_p h b2
      exact ⟨by omega, i2, i3.trans (b3.trans a3), i4.trans (b4.trans a4)⟩
    · rw [ulens, if_neg hc]
      exact ⟨Nat.le_refl _, hp, rfl, rfl⟩
theorem utold_p {row : List Bool} {u v u1 u2 u3 us : US} {m0 n0 c0 : Nat} {S L A C : List Int} (h : Told row u m0 n0 c0 u1 u2 u3 us S L A C v) (hp : u.p ≤ row.length) : u.p + 1 ≤ v.p ∧ v.p ≤ row.length ∧ v.out = u.out ∧ v.ks = u.ks := by
  obtain ⟨a1, a2, a3, a4, ae⟩ := uget_p2 h.g3 h.e3
  obtain ⟨b1, b2, b3, b4, be⟩ := uget_p2 h.g2 ae
  obtain ⟨c1, c2, c3, c4, _⟩ := uget_p2 h.g1 be
  have s := usmall_p (row := row) (ks := ord19.take (c0 + 4)) (s := List.replicate 19 0) (u := u3) (by rw [h.sm]; exact h.es) a2
  rw [h.sm] at s
  obtain ⟨s1, s2, s3, s4⟩ := s
  have t := ulens_p (row := row) (small := S) (tot := m0 + 257 + (n0 + 1)) (F := m0 + 257 + (n0 + 1)) (l := []) (u := us) (by rw [h.ln]; exact h.ev) s2
  rw [h.ln] at t
  obtain ⟨t1, t2, t3, t4⟩ := t
  simp only at s1 s2 s3 s4 t1 t2 t3 t4
  exact ⟨by omega, t2, by rw [t3, s3, a3, b3, c3], by rw [t4, s4, a4, b4, c4]⟩
/-- what must stay, and what lies from N up to N2 -/
def N2 (No : Nat → Prop) (N M : Nat) : Nat → Prop := fun g => No g ∨ (N ≤ g ∧ g < M)
theorem UUp.closed2 {No : Nat → Prop} {B b N M : Nat} {w0 w : World} {row : List Bool} {u : US} (h : UUp (N2 No N M) B w0 b row u w) : UUp No B w0 b row u w :=
  ⟨h.is.more (fun e => h.is.no (.inl e)) (fun g hg => .inl (.inl hg)), h.below, h.kp.weaken (fun g hg => .inl hg)⟩
theorem UUp.prs {No : Nat → Prop} {B b N M g : Nat} {w w' : World} {row : List Bool} {u : US} {l : List (Nat × Nat)} (h : UUp (N2 No N M) B w b row u w') (ho : Prs w g l) (hg : g < w.heap.size) (hN : N ≤ g) (hM : g < M) : Prs w' g l := by
  have hk := h.kp g hg (.inr ⟨hN, hM⟩)
  intro j hj
  have := ho j hj
  exact ⟨(World.cell?_of_block (a := ⟨g, j * 2, none⟩) hk).trans this.1, (World.cell?_of_block (a := ⟨g, j * 2 + 1, none⟩) hk).trans this.2⟩
theorem UUp.book2 {No : Nat → Prop} {B b N M mb nn : Nat} {w w' : World} {row : List Bool} {u : US} {D : DataW Unit} (h : UUp (N2 No N M) B w b row u w') (hM : BookIs w mb nn D) (hm : N ≤ mb) (hm2 : mb < M) : BookIs w' mb nn D := by
  have hlt := hM.lt
  obtain ⟨es, clock, hb, F, hs, hD⟩ := hM
  exact ⟨es, clock, (h.kp mb hlt (.inr ⟨hm, hm2⟩)).trans hb, F, hs, hD⟩
theorem prs_below {w w' : World} {B g : Nat} {l : List (Nat × Nat)} (h : Prs w g l) (hB : Below B w w') (hg : g < B) : Prs w' g l := fun j hj =>
  ⟨(hB.cell (p := ⟨g, j * 2, none⟩) hg).trans (h j hj).1, (hB.cell (p := ⟨g, j * 2 + 1, none⟩) hg).trans (h j hj).2⟩
/-- what is left of the bits, as the reader's place tells -/
def leftU (n b : Nat) (w : World) : Nat := 8 * n + 1 - ((w.cell? ⟨b, 1, none⟩).map (fun x => (intOf x).toNat)).getD 0
theorem leftU_is {No : Nat → Prop} {B b n : Nat} {w : World} {row : List Bool} {u : US} (h : UIs No B w b row u) : leftU n b w = 8 * n + 1 - u.p := by
  unfold leftU
  rw [h.cell.2.1]
  simp [intOf]
theorem sames_small : ∀ q, q < 29 → (samesL.getD q (0, 0)).2 ≤ 5 ∧ (samesL.getD q (0, 0)).1 ≤ 258 := by decide
theorem fars_small : ∀ f, f < 30 → (farsL.getD f (0, 0)).2 ≤ 13 ∧ (farsL.getD f (0, 0)).1 ≤ 24577 ∧ 1 ≤ (farsL.getD f (0, 0)).1 := by decide
end Go.Proofs.YtekgcoajgbpniacGreat

/-
  The document's reader: blocks that are read without an error, of bits alone.
-/
namespace Go.Proofs.YtekgcoajgbpniacGreat
set_option linter.unusedVariables false
set_option maxRecDepth 100000

theorem ustore_p {row : List Bool} : ∀ {k : Nat} {u : US}, (ustore row k u).e = 0 → u.p ≤ row.length → u.p ≤ (ustore row k u).p ∧ (ustore row k u).p ≤ row.length ∧ (u.out.length ≤ 3000 → (ustore row k u).out.length ≤ 3000)
  | 0, u, h, hp => ⟨Nat.le_refl _, hp, fun h => h⟩
  | k + 1, u, h, hp => by
    have he := ustore_e h
    rw [ustore, if_pos he] at h ⊢
    obtain ⟨r, y, hg⟩ : ∃ r y, uget row 8 u = (r, y) := ⟨_, _, rfl⟩
    rw [hg] at h ⊢
    obtain ⟨h1, h2, h3⟩ := usay_e (ustore_e h)
    obtain ⟨q1, q2, q3, _, _⟩ := uget_p2 hg h1
    have ih := ustore_p h (by rw [h3]; exact q2)
    rw [h3] at ih ⊢
    refine ⟨?_, ih.2.1, fun ho => ih.2.2 ?_⟩
    · have := ih.1
      simp only at this ⊢
      omega
    · simp only [List.length_append, List.length_cons, List.length_nil]
      rw [q3] at h2 ⊢
      omega
theorem utok_p {row : List Bool} {a b : List Int} : ∀ {F : Nat} {u : US}, (utok row a b F u).e = 0 → u.p ≤ row.length → u.p ≤ (utok row a b F u).p ∧ (utok row a b F u).p ≤ row.length ∧ (utok row a b F u).ks = u.ks ∧ (u.out.length ≤ 3000 → (utok row a b F u).out.length ≤ 3000)
  | 0, u, h, hp => ⟨Nat.le_refl _, hp, rfl, fun h => h⟩
  | F + 1, u, h, hp => by
    obtain ⟨t, x, hT, e⟩ := utok_round h
    obtain ⟨a1, a2, a3, a4, a5⟩ := hT.ahead
    rw [e] at h ⊢
    by_cases ht : t = true
    · rw [if_pos ht] at h ⊢
      obtain ⟨i1, i2, i3, i4⟩ := utok_p h a2
      exact ⟨by omega, i2, i3.trans a4, fun ho => i4 (a5 ho)⟩
    · rw [if_neg ht]
      exact ⟨by omega, a2, a4, a5⟩
theorem Blk1R.ahead {row : List Bool} {u v : US} {t : Bool} (h : Blk1R row u t v) : u.p + 1 ≤ v.p ∧ v.p ≤ row.length ∧ v.e = 0 ∧ v.ks.length = u.ks.length + 1 ∧ (u.out.length ≤ 3000 → v.out.length ≤ 3000) := by
  cases h with
  | stored l x1 x2 h1 h2 h3 h4 =>
    obtain ⟨q2, q2l, q2o, q2k, q2e⟩ := uget_p2 h2 h3
    obtain ⟨q1, q1l, q1o, q1k, _⟩ := uget_p2 h1 q2e
    obtain ⟨r1, r2, y1, y2, hS⟩ := ustored_good h4
    have hy1e : y1.e = 0 := uget_e (by rw [hS.g2]; exact hS.e2)
    obtain ⟨p1, p1l, p1o, p1k, _⟩ := uget_p2 hS.g1 hy1e
    obtain ⟨p2, p2l, p2o, p2k, _⟩ := uget_p2 hS.g2 hS.e2
    have s := ustore_p (row := row) (k := r1) (u := y2) (by rw [hS.st]; exact h4) p2l
    have sk := ustore_ks (row := row) (k := r1) (u := y2) (by rw [hS.st]; exact h4)
    rw [hS.st] at s sk
    simp only at p1 p1o p1k
    refine ⟨?_, s.2.1, h4, ?_, fun ho => s.2.2 ?_⟩
    · show u.p + 1 ≤ (ustored row x2).p
      have := s.1
      omega
    · show ((ustored row x2).ks ++ [0]).length = _
      rw [List.length_append, sk, p2k, p1k, q2k, q1k]
      rfl
    · rw [p2o, p1o, q2o, q1o]; exact ho
  | coded l k x1 x2 x3 a b h1 h2 h3 h4 h5 h6 h7 =>
    obtain ⟨q2, q2l, q2o, q2k, q2e⟩ := uget_p2 h2 h3
    obtain ⟨q1, q1l, q1o, q1k, _⟩ := uget_p2 h1 q2e
    have hx : x2.p ≤ x3.p ∧ x3.p ≤ row.length ∧ x3.out = x2.out ∧ x3.ks = x2.ks := by
      rcases h4 with h4 | h4
      · subst h4
        unfold uopen at h5
        rw [if_pos rfl] at h5
        have := (Prod.mk.inj h5).2
        subst this
        exact ⟨Nat.le_refl _, q2l, rfl, rfl⟩
      · subst h4
        unfold uopen at h5
        rw [if_neg (by decide), if_pos rfl] at h5
        obtain ⟨m0, n0, c0, v1, v2, v3, us, S0, L0, hTD⟩ := utold_good h5 h6
        obtain ⟨t1, t2, t3, t4⟩ := utold_p hTD q2l
        exact ⟨by omega, t2, t3, t4⟩
    obtain ⟨s1, s2, s3, s4⟩ := hx
    obtain ⟨t1, t2, t3, t4⟩ := utok_p h7 s2
    refine ⟨?_, t2, h7, ?_, fun ho => t4 ?_⟩
    · show u.p + 1 ≤ (utok row a b row.length x3).p
      omega
    · show ((utok row a b row.length x3).ks ++ [k]).length = _
      rw [List.length_append, t3, s4, q2k, q1k]
      rfl
    · rw [s3, q2o, q1o]; exact ho
theorem ublocks_e {row : List Bool} : ∀ {F : Nat} {u : US}, (ublocks row (F + 1) u).e = 0 → (ublock row u).2.e = 0 := by
  intro F u h
  rw [ublocks] at h
  by_cases c : (ublock row u).1 = false ∧ (ublock row u).2.e = 0
  · exact c.2
  · rw [if_neg c] at h; exact h
/-- one round of blocks, where all goes well -/
theorem ublocks_round {row : List Bool} {F : Nat} {u : US} (h : (ublocks row (F + 1) u).e = 0) : ∃ t x, Blk1R row u t x ∧ ublocks row (F + 1) u = if t = false then ublocks row F x else x := by
  have he := ublocks_e h
  refine ⟨(ublock row u).1, (ublock row u).2, ublock_good he, ?_⟩
  rw [ublocks]
  by_cases c : (ublock row u).1 = false
  · rw [if_pos ⟨c, he⟩, if_pos c]
  · rw [if_neg (fun h => c h.1), if_neg c]
theorem ublocks_ks {row : List Bool} : ∀ {F : Nat} {u : US}, (ublocks row F u).e = 0 → u.ks.length ≤ (ublocks row F u).ks.length
  | 0, u, h => Nat.le_refl _
  | F + 1, u, h => by
    obtain ⟨t, x, hB, e⟩ := ublocks_round h
    obtain ⟨a1, a2, a3, a4, a5⟩ := hB.ahead
    rw [e] at h ⊢
    by_cases ht : t = false
    · rw [if_pos ht] at h ⊢
      have := ublocks_ks h
      omega
    · rw [if_neg ht]
      omega
end Go.Proofs.YtekgcoajgbpniacGreat
