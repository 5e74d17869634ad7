/-
  Package inflate: blocks of any kind. (Written by tools/mk_cod6.py.)
-/
import Derived.Test.YtfoaaamcpknjnahCod5
namespace Go.Proofs.Ytfoaaamcpknjnah
open Go.RowKit
set_option linter.unusedVariables false
set_option linter.unusedSimpArgs false
set_option maxRecDepth 100000

/-- the reader between two blocks: No at least must stay -/
def Bk (No : Nat → Prop) (B : Nat) (w0 : World) (b : Nat) (R : Value) (u : US) (w : World) : Prop :=
  ∃ No' f1 f2, (∀ g, No g → No' g) ∧ (∀ g, w.heap.size ≤ g → ¬ No' g) ∧ IIs No' B w b R f1 f2 u ∧ Fx No' w b f1 f2 ∧ Bl No B w0 w
def GotB (No : Nat → Prop) (B : Nat) (w0 : World) (b : Nat) (R : Value) (V : US) (e : Ending) (w' : World) : Prop :=
  (V.e = 0 ∧ e = .returned (.tuple #[]) ∧ Bk No B w0 b R V w') ∨ (V.e ≠ 0 ∧ e = Flt V.e ∧ Bl No B w0 w')
theorem Bl.outer {No No' : Nat → Prop} {B : Nat} {w0 w w' : World} (h : Bl No B w0 w) (k : Bl No' B w w') (hn : ∀ g, No g → No' g) : Bl No B w0 w' := h.trans (k.weaken hn)

theorem block0_any (No : Nat → Prop) (B b : Nat) (a : Option Addr) (n cap : Nat) (bs : List Nat) (u : US) (w0 w : World) (h : Bk No B w0 b (.slice a n cap) u w) (hR : Rd w No a n bs) (hp : u.p ≤ 8 * n) (he : u.e = 0) (ho : u.out.length ≤ 3000) (hk : u.ks.length ≤ 48000) :
    Calls Try.prog 65 #[.pointer (some ⟨b, 0, none⟩), .int .i64 0] w fun e w' => GotB No B w0 b (.slice a n cap) (ikind (rowB bs n) 0 u) e w' := by
  obtain ⟨No', f1, f2, hn, hNo, hI, hF, hB⟩ := h
  have hV : ikind (rowB bs n) 0 u = (if (istored (rowB bs n) u).e = 0 then ukept 0 (istored (rowB bs n) u) else istored (rowB bs n) u) := rfl
  rw [hV]
  refine (blockStored_any No' B b a n cap bs f1 f2 u w hI (hR.wide hn) hp he ho hk hNo hI.base _ (hide rfl)).mono ?_
  rintro e w' (⟨e0, rfl, hU⟩ | ⟨e0, rfl, hBl⟩)
  · exact .inl ⟨e0, rfl, No', f1, f2, hn, fun g hg => hNo g (Nat.le_trans hU.below.size hg), hU.is, hF.keep hU.below.size hU.kp, hB.outer hU.bl hn⟩
  · exact .inr ⟨e0, rfl, hB.outer hBl hn⟩

theorem block3_any (No : Nat → Prop) (B b k : Nat) (R : Value) (u : US) (row : List Bool) (w0 w : World) (h : Bk No B w0 b R u w) (hk : 3 ≤ k) (hk4 : k < 4) :
    Calls Try.prog 65 #[.pointer (some ⟨b, 0, none⟩), .int .i64 (k : Int)] w fun e w' => GotB No B w0 b R (ikind row k u) e w' := by
  obtain rfl : k = 3 := by omega
  obtain ⟨No', f1, f2, hn, hNo, hI, hF, hB⟩ := h
  have HB := hide hB
  have HV : Hid (ikind row 3 u = { u with e := 4 }) := hide rfl
  obtain ⟨V, hV⟩ : ∃ V, ikind row 3 u = V := ⟨_, rfl⟩
  rw [hV] at HV ⊢
  clear hI hF hB hV
  go_enter Try.func65, Try.ntmps65
  go_wp2_with fail
  refine (giveUp_any 4 w).mono ?_
  rintro e w1 ⟨rfl, rfl⟩
  go_wp2
  exact ⟨rfl, .inr ⟨by rw [unhide HV]; exact (by decide : (4 : Int) ≠ 0), by rw [unhide HV], unhide HB⟩⟩

set_option maxHeartbeats 4000000 in
theorem block1_any (No : Nat → Prop) (B b : Nat) (a : Option Addr) (n cap : Nat) (bs : List Nat) (u : US) (w0 w : World) (h : Bk No B w0 b (.slice a n cap) u w) (hR : Rd w No a n bs) (hp : u.p ≤ 8 * n) (he : u.e = 0) (ho : u.out.length ≤ 3000) (hk : u.ks.length ≤ 48000) :
    Calls Try.prog 65 #[.pointer (some ⟨b, 0, none⟩), .int .i64 1] w fun e w' => GotB No B w0 b (.slice a n cap) (ikind (rowB bs n) 1 u) e w' := by
  have hrl := rowB_length bs n
  obtain ⟨No', f1, f2, hn, hNo, hI, hF, hB⟩ := h
  obtain ⟨i0, hi0, hz0, hz1, hz2⟩ := info_parts info_int
  obtain ⟨V, hV⟩ : ∃ V, itoks (rowB bs n) fixA fixB (8 * n + 1) u = V := ⟨_, rfl⟩
  obtain ⟨X, hX⟩ : ∃ X, ikind (rowB bs n) 1 u = X := ⟨_, rfl⟩
  have HX : Hid ((if V.e = 0 then ukept 1 V else V) = X) := hide (by rw [← hX, ← hV, ← hrl]; rfl)
  rw [hX]
  have HVK : Hid (V.e = 0 → V.ks.length ≤ 48000) := hide (fun e => by
    have := (itoks_ahd (rowB bs n) fixA fixB (8 * n + 1) u (by omega) ho (by rw [hV]; exact e)).ks
    rw [hV] at this
    rw [this]; exact hk)
  have HFC := hide (fixedCodes_any No' B b (.slice a n cap) f1 f2 u w hI hF hNo)
  have HRD := hide (hR.wide hn)
  have HBB := hide hB
  have HN := hide hn
  have HPE := hide (And.intro hp (And.intro he ho))
  have HV := hide hV
  clear hI hF hB hR hp he ho hk hNo hV hX hn
  go_enter Try.func65, Try.ntmps65
  go_wp2_with fail
  refine (unhide HFC).mono ?_
  rintro e w1 ⟨NX, g1, m1, b1, n1, g2, m2, b2, n2, hnx, hNX, rfl, hI1, hD1, hD2, hA1, hA2, hB1⟩
  obtain ⟨F1, hF1⟩ : ∃ F1, DV g1 m1 = F1 := ⟨_, rfl⟩
  obtain ⟨F2, hF2⟩ : ∃ F2, DV g2 m2 = F2 := ⟨_, rfl⟩
  have HTK := hide (tokens_any NX B b a n cap bs F1 F2 u w1 (by rw [← hF1, ← hF2]; exact hI1) (((unhide HRD).keep hB1.below.size hB1.kp).wide hnx) (unhide HPE).1 (unhide HPE).2.1 (unhide HPE).2.2 g1 m1 b1 n1 g2 m2 b2 n2 fixA fixB hD1 fixA_ok hA1 hD2 fixB_ok hA2 hNX V HV)
  have HEND : Hid (∀ Y w', IUp NX B w1 b (.slice a n cap) F1 F2 Y w' → Bk No B w0 b (.slice a n cap) Y w') := hide (fun Y w' hu => ⟨NX, F1, F2, fun g hg => hnx g (unhide HN g hg), fun g hg => hNX g (Nat.le_trans hu.below.size hg), hu.is, by
    have : Fx NX w1 b F1 F2 := .inr ⟨g1, m1, b1, n1, g2, m2, b2, n2, hF1.symm, hF2.symm, hD1, hD2, hA1, hA2⟩
    exact this.keep hu.below.size hu.kp, ((unhide HBB).outer hB1 (unhide HN)).outer hu.bl (fun g hg => hnx g (unhide HN g hg))⟩)
  have HBL : Hid (∀ w', Bl NX B w1 w' → Bl No B w0 w') := hide (fun w' hb => ((unhide HBB).outer hB1 (unhide HN)).outer hb (fun g hg => hnx g (unhide HN g hg)))
  have HNX := hide hNX
  clear hnx hNX hI1 hD1 hD2 hA1 hA2 hB1 hF1 hF2
  go_wp2_with fail
  refine (unhide HTK).mono ?_
  rintro e w4 hg
  rcases hg with ⟨e0, rfl, hU⟩ | ⟨e0, rfl, hBl⟩
  rotate_left
  · have HF2 : Hid (X = V) := hide (by rw [← unhide HX, if_neg e0])
    have HB2 := hide (unhide HBL _ hBl)
    clear hBl
    go_wp2
    exact ⟨rfl, .inr ⟨by rw [unhide HF2]; exact e0, by rw [unhide HF2], unhide HB2⟩⟩
  have HF2 : Hid (X = { V with ks := V.ks ++ [1] }) := hide (by rw [← unhide HX, if_pos e0]; rfl)
  have hbel4 := hU.below.size
  have hIs4 := hU.is
  have hbl4 := hIs4.lt
  obtain ⟨ov4, kv4, d2, d3, hh4, hov4, hkv4, hap4, hn14, hn24⟩ := hIs4.rows
  obtain ⟨L, hL⟩ : ∃ L, V.ks.length = L := ⟨_, rfl⟩
  have hkvL := hkv4
  have hVk2 := unhide HVK e0
  rw [hL] at hkvL hVk2
  obtain ⟨oa, oc, rfl⟩ := own_slice' hkvL
  have HKL := hide hkvL
  have HIS := hide hIs4
  have HH4 := hide hh4
  have HO4 := hide hov4
  have HK4 := hide hkv4
  have HA4 := hide hap4
  have HN1 := hide hn14
  have HN2 := hide hn24
  have HLL := hide hL
  have HU := hide hU
  clear hU hIs4 hh4 hov4 hkv4 hap4 hn14 hn24 hkvL hL d2
  go_wp2_with (at_builtin; refine wpList_append_own_at _ rfl _ _ 22 rfl (b + 1) 3 i0 (.int .i64 0) 1 8 Try.underlying22 hi0 hz0 hz1 hz2 rfl (by decide) _ L (i64s V.ks) rfl ((unhide HKL).alloc _) ⟨w4.heap.size, 0, none⟩ 1 1 [.int .i64 ((1 : Nat) : Int)] rfl rfl (cell_one_new _ _ _) (one_cell rfl) (by unfold maxLen; omega) (by omega) (by simp; omega) ?_)
  intro v' w5 hO5 hgrow5 _ hspot5
  obtain ⟨g9, c9, hv9, _, _⟩ := own_shape hO5 (by omega)
  obtain ⟨q3, f35, hI5⟩ := IIs.kept (c := 1) (v' := v') (unhide HIS).base (unhide HIS).no (unhide HH4) (unhide HO4) (unhide HK4) (unhide HA4) (unhide HN1) (unhide HN2) (fun g hg => unhide HNX g (Nat.le_trans hbel4 hg)) (by rw [unhide HLL]; exact hO5) hgrow5 (by simpa using hspot5)
  have HI5 := hide ((unhide HU).trans hI5)
  have HFIN : Hid (∀ w', IUp NX B w1 b (.slice a n cap) F1 F2 { V with ks := V.ks ++ [1] } w' → GotB No B w0 b (.slice a n cap) X (.returned (.tuple #[])) w') := hide (fun w' hu => .inl ⟨by rw [unhide HF2]; exact e0, rfl, by rw [unhide HF2]; exact unhide HEND _ w' hu⟩)
  subst hv9
  clear hI5 hO5 hgrow5 hspot5
  go_wp2
  go_end0
  exact unhide HFIN _ (unhide HI5)

set_option maxHeartbeats 4000000 in
theorem block2_any (No : Nat → Prop) (B b : Nat) (a : Option Addr) (n cap : Nat) (bs : List Nat) (u : US) (w0 w : World) (h : Bk No B w0 b (.slice a n cap) u w) (hR : Rd w No a n bs) (hp : u.p ≤ 8 * n) (he : u.e = 0) (ho : u.out.length ≤ 3000) (hk : u.ks.length ≤ 48000) :
    Calls Try.prog 65 #[.pointer (some ⟨b, 0, none⟩), .int .i64 2] w fun e w' => GotB No B w0 b (.slice a n cap) (ikind (rowB bs n) 2 u) e w' := by
  have hrl := rowB_length bs n
  obtain ⟨No', F1, F2, hn, hNo, hI, hF, hB⟩ := h
  obtain ⟨i0, hi0, hz0, hz1, hz2⟩ := info_parts info_int
  obtain ⟨A, C, x, hx⟩ : ∃ A C x, utold (rowB bs n) u = ((A, C), x) := ⟨_, _, _, rfl⟩
  obtain ⟨V, hV⟩ : ∃ V, itoks (rowB bs n) A C (8 * n + 1) x = V := ⟨_, rfl⟩
  obtain ⟨X, hX⟩ : ∃ X, ikind (rowB bs n) 2 u = X := ⟨_, rfl⟩
  have hXX : X = if x.e ≠ 0 then x else (if V.e = 0 then ukept 2 V else V) := by
    rw [← hX, ← hV, ← hrl]
    show (if (utold (rowB bs n) u).2.e ≠ 0 then (utold (rowB bs n) u).2 else ikeep 2 (itoks (rowB bs n) (utold (rowB bs n) u).1.1 (utold (rowB bs n) u).1.2 ((rowB bs n).length + 1) (utold (rowB bs n) u).2)) = _
    rw [hx]
    rfl
  rw [hX]
  have HXX := hide hXX
  have HXA : Hid (x.e = 0 → Ahd (rowB bs n) u x) := hide (fun e => by
    have := utold_ahd (rowB bs n) u (by omega) ho (by rw [hx]; exact e)
    rw [hx] at this
    exact this)
  have HVK : Hid (V.e = 0 → x.e = 0 → V.ks.length ≤ 48000) := hide (fun e e2 => by
    have q := unhide HXA e2
    have := (itoks_ahd (rowB bs n) A C (8 * n + 1) x q.le q.out (by rw [hV]; exact e)).ks
    rw [hV] at this
    rw [this, q.ks]; exact hk)
  have HOC := hide (ownCodes_any No' B b a n cap bs F1 F2 u w hI (hR.wide hn) hp he hNo A C x (hide hx))
  have HRD := hide (hR.wide hn)
  have HBB := hide hB
  have HN := hide hn
  have HNo := hide hNo
  have HFX := hide hF
  have HV := hide hV
  clear hI hF hB hR hp he ho hk hNo hV hX hn hx hXX
  go_enter Try.func65, Try.ntmps65
  go_wp2_with fail
  refine (unhide HOC).mono ?_
  rintro e w1 hg
  rcases hg with ⟨ex, rfl, hBx⟩ | ⟨ex, hK1, hGA, hGC, g1, m1, b1, n1, g2, m2, b2, n2, rfl, hD1, hD2, hA1, hA2⟩
  · have HF2 : Hid (X = x) := hide (by rw [unhide HXX, if_pos ex])
    have HB2 := hide ((unhide HBB).outer hBx (unhide HN))
    clear hBx
    go_wp2
    exact ⟨rfl, .inr ⟨by rw [unhide HF2]; exact ex, by rw [unhide HF2], unhide HB2⟩⟩
  have HX : Hid ((if V.e = 0 then ukept 2 V else V) = X) := hide (by
    have := unhide HXX
    rw [if_neg (show ¬ x.e ≠ 0 from fun c => c ex)] at this
    exact this.symm)
  have hq := unhide HXA ex
  have hqp := hq.le
  rw [hrl] at hqp
  have HVK2 := hide (fun e => unhide HVK e ex)
  clear HVK
  have HVK := HVK2
  clear HVK2
  obtain ⟨NX, hNXe⟩ : ∃ NX, NK No' w.heap.size w1.heap.size = NX := ⟨_, rfl⟩
  have hnx : ∀ g, No' g → NX g := fun g hg => by rw [← hNXe]; exact .inl hg
  have hNX : ∀ g, w1.heap.size ≤ g → ¬ NX g := fun g hg e => by
    rw [← hNXe] at e
    have := hK1.bl.below.size
    rcases e with e | e
    · exact unhide HNo g (by omega) e
    · omega
  have hin : ∀ g, w.heap.size ≤ g → g < w1.heap.size → NX g := fun g h1 h2 => by rw [← hNXe]; exact .inr ⟨h1, h2⟩
  have hI1 : IIs NX B w1 b (.slice a n cap) F1 F2 x := by rw [← hNXe]; exact hK1.inner
  have t1 := hD1.lt
  have t2 := hD1.is.lt
  have t3 := hD2.lt
  have t4 := hD2.is.lt
  have HTK := hide (tokens_any NX B b a n cap bs F1 F2 x w1 hI1 (((unhide HRD).keep hK1.bl.below.size hK1.bl.kp).wide hnx) hqp ex hq.out g1 m1 b1 n1 g2 m2 b2 n2 A C hD1 hGA ⟨hin _ hA1.1 t1.1, hin _ hA1.2.1 t1.2, hin _ hA1.2.2 t2⟩ hD2 hGC ⟨hin _ hA2.1 t3.1, hin _ hA2.2.1 t3.2, hin _ hA2.2.2 t4⟩ hNX V HV)
  have HEND : Hid (∀ Y w', IUp NX B w1 b (.slice a n cap) F1 F2 Y w' → Bk No B w0 b (.slice a n cap) Y w') := hide (fun Y w' hu => ⟨NX, F1, F2, fun g hg => hnx g (unhide HN g hg), fun g hg => hNX g (Nat.le_trans hu.below.size hg), hu.is, by
    have f1 := (unhide HFX).keep hK1.bl.below.size hK1.bl.kp
    have f2 := f1.keep hu.below.size (hu.kp.weaken hnx)
    rcases f2 with f2 | ⟨g1, m1, b1, n1, g2, m2, b2, n2, q1, q2, q3, q4, q5, q6⟩
    · exact .inl f2
    · exact .inr ⟨g1, m1, b1, n1, g2, m2, b2, n2, q1, q2, q3, q4, ⟨hnx _ q5.1, hnx _ q5.2.1, hnx _ q5.2.2⟩, ⟨hnx _ q6.1, hnx _ q6.2.1, hnx _ q6.2.2⟩⟩, ((unhide HBB).outer hK1.bl (unhide HN)).outer hu.bl (fun g hg => hnx g (unhide HN g hg))⟩)
  have HBL : Hid (∀ w', Bl NX B w1 w' → Bl No B w0 w') := hide (fun w' hb => ((unhide HBB).outer hK1.bl (unhide HN)).outer hb (fun g hg => hnx g (unhide HN g hg)))
  have HNX := hide hNX
  clear hnx hNX hI1 hD1 hD2 hA1 hA2 hK1 hNXe hin t1 t2 t3 t4 hq hqp hGA hGC
  go_wp2_with fail
  refine (unhide HTK).mono ?_
  rintro e w4 hg
  rcases hg with ⟨e0, rfl, hU⟩ | ⟨e0, rfl, hBl⟩
  rotate_left
  · have HF2 : Hid (X = V) := hide (by rw [← unhide HX, if_neg e0])
    have HB2 := hide (unhide HBL _ hBl)
    clear hBl
    go_wp2
    exact ⟨rfl, .inr ⟨by rw [unhide HF2]; exact e0, by rw [unhide HF2], unhide HB2⟩⟩
  have HF2 : Hid (X = { V with ks := V.ks ++ [2] }) := hide (by rw [← unhide HX, if_pos e0]; rfl)
  have hbel4 := hU.below.size
  have hIs4 := hU.is
  have hbl4 := hIs4.lt
  obtain ⟨ov4, kv4, d2, d3, hh4, hov4, hkv4, hap4, hn14, hn24⟩ := hIs4.rows
  obtain ⟨L, hL⟩ : ∃ L, V.ks.length = L := ⟨_, rfl⟩
  have hkvL := hkv4
  have hVk2 := unhide HVK e0
  rw [hL] at hkvL hVk2
  obtain ⟨oa, oc, rfl⟩ := own_slice' hkvL
  have HKL := hide hkvL
  have HIS := hide hIs4
  have HH4 := hide hh4
  have HO4 := hide hov4
  have HK4 := hide hkv4
  have HA4 := hide hap4
  have HN1 := hide hn14
  have HN2 := hide hn24
  have HLL := hide hL
  have HU := hide hU
  clear hU hIs4 hh4 hov4 hkv4 hap4 hn14 hn24 hkvL hL d2
  go_wp2_with (at_builtin; refine wpList_append_own_at _ rfl _ _ 22 rfl (b + 1) 3 i0 (.int .i64 0) 1 8 Try.underlying22 hi0 hz0 hz1 hz2 rfl (by decide) _ L (i64s V.ks) rfl ((unhide HKL).alloc _) ⟨w4.heap.size, 0, none⟩ 1 1 [.int .i64 ((2 : Nat) : Int)] rfl rfl (cell_one_new _ _ _) (one_cell rfl) (by unfold maxLen; omega) (by omega) (by simp; omega) ?_)
  intro v' w5 hO5 hgrow5 _ hspot5
  obtain ⟨g9, c9, hv9, _, _⟩ := own_shape hO5 (by omega)
  obtain ⟨q3, f35, hI5⟩ := IIs.kept (c := 2) (v' := v') (unhide HIS).base (unhide HIS).no (unhide HH4) (unhide HO4) (unhide HK4) (unhide HA4) (unhide HN1) (unhide HN2) (fun g hg => unhide HNX g (Nat.le_trans hbel4 hg)) (by rw [unhide HLL]; exact hO5) hgrow5 (by simpa using hspot5)
  have HI5 := hide ((unhide HU).trans hI5)
  have HFIN : Hid (∀ w', IUp NX B w1 b (.slice a n cap) F1 F2 { V with ks := V.ks ++ [2] } w' → GotB No B w0 b (.slice a n cap) X (.returned (.tuple #[])) w') := hide (fun w' hu => .inl ⟨by rw [unhide HF2]; exact e0, rfl, by rw [unhide HF2]; exact unhide HEND _ w' hu⟩)
  subst hv9
  clear hI5 hO5 hgrow5 hspot5
  go_wp2
  go_end0
  exact unhide HFIN _ (unhide HI5)
end Go.Proofs.Ytfoaaamcpknjnah
