/-
  The library's slices.BinarySearchFunc on files whose names rise; package merge: what Less asks of each file.
-/
import Derived.Test.YtfojmdbpjkkpbaeDoorMg7
namespace Go.Proofs.YtfojmdbpjkkpbaeDoor
open Go.RowKit
set_option linter.unusedVariables false
set_option maxRecDepth 100000

/-- the names rise -/
def Rise (l : List Fl) : Prop := ∀ (i j : Nat) (x y : Fl), l[i]? = some x → l[j]? = some y → i < j → cmpB x.name y.name < 0
def lookF (n : List UInt8) (l : List Fl) : Option Fl := l.find? fun y => y.name == n
/-- does b lack it? -/
def lackF (b : List Fl) (f : Fl) : Bool := match lookF f.name b with | none => true | some y => decide (0 < nwr f y)
theorem cmpB_le_trans {a b c : List UInt8} (h : cmpB a b < 0) (k : cmpB b c < 0) : cmpB a c < 0 := cmpB_trans h k
/-- what a search answers: how many stand ahead, and whether the next one is it -/
def FoundAt (l : List Fl) (n : List UInt8) (i : Nat) (fd : Bool) : Prop :=
  i ≤ l.length ∧ (∀ (j : Nat) (y : Fl), l[j]? = some y → j < i → cmpB y.name n < 0) ∧ (∀ (j : Nat) (y : Fl), l[j]? = some y → i ≤ j → 0 ≤ cmpB y.name n) ∧ (fd = true ↔ ∃ y : Fl, l[i]? = some y ∧ cmpB y.name n = 0)
theorem found_look {l : List Fl} {n : List UInt8} {i : Nat} {fd : Bool} (hr : Rise l) (h : FoundAt l n i fd) : (fd = true → ∃ y, l[i]? = some y ∧ lookF n l = some y) ∧ (fd = false → lookF n l = none) := by
  obtain ⟨h1, h2, h3, h4⟩ := h
  constructor
  · intro e
    obtain ⟨y, hy, hc⟩ := h4.1 e
    refine ⟨y, hy, ?_⟩
    have hn : y.name = n := cmpB_eq hc
    unfold lookF
    rw [List.find?_eq_some_iff_getElem]
    obtain ⟨hi, he⟩ := List.getElem?_eq_some_iff.1 hy
    refine ⟨by simp [hn], i, hi, he, ?_⟩
    intro j hj
    have := h2 j l[j] (List.getElem?_eq_getElem (by omega)) hj
    simp
    intro e2
    rw [e2, cmpB_self] at this
    omega
  · intro e
    unfold lookF
    rw [List.find?_eq_none]
    intro y hy
    simp
    intro e2
    obtain ⟨j, hj, he⟩ := List.getElem_of_mem hy
    have hjs : l[j]? = some y := by rw [List.getElem?_eq_getElem hj, he]
    have hc : cmpB y.name n = 0 := by rw [e2, cmpB_self]
    have hij : i ≤ j := by
      rcases Nat.lt_or_ge j i with h' | h'
      · have := h2 j y hjs h'; omega
      · exact h'
    rcases Nat.lt_or_ge i j with h' | h'
    · have hil : i < l.length := by omega
      have h5 := h3 i l[i] (List.getElem?_eq_getElem hil) (Nat.le_refl _)
      have h6 := hr i j l[i] y (List.getElem?_eq_getElem hil) hjs h'
      rw [cmpB_eq hc] at h6
      omega
    · have : i = j := by omega
      subst this
      rw [h4.2 ⟨y, hjs, hc⟩] at e
      cases e

theorem rise_lt {l : List Fl} {n : List UInt8} {i : Nat} {y : Fl} (hr : Rise l) (hy : l[i]? = some y) (h : cmpB y.name n < 0) : ∀ (j : Nat) (z : Fl), l[j]? = some z → j < i + 1 → cmpB z.name n < 0 := by
  intro j z hz hj
  rcases Nat.lt_or_ge j i with h' | h'
  · exact cmpB_trans (hr j i z y hz hy h') h
  · have : j = i := by omega
    subst this
    rw [hy] at hz
    cases hz
    exact h
theorem rise_ge {l : List Fl} {n : List UInt8} {i : Nat} {y : Fl} (hr : Rise l) (hy : l[i]? = some y) (h : ¬ cmpB y.name n < 0) : ∀ (j : Nat) (z : Fl), l[j]? = some z → i ≤ j → 0 ≤ cmpB z.name n := by
  intro j z hz hj
  apply Int.not_lt.1
  intro hc
  rcases Nat.lt_or_ge i j with h' | h'
  · exact h (cmpB_trans (hr i j y z hy hz h') hc)
  · have : j = i := by omega
    subst this
    rw [hy] at hz
    cases hz
    exact h hc

set_option maxHeartbeats 4000000 in
theorem search_any (bd : Option Addr) (d : Nat) (ys : List Fv) (x : Fv) (w : World) (k : FsIn w bd d ys) (m : Nat) (hm : ys.length = m) (hM : m ≤ 1000) (hr : Rise (fls ys)) :
    Calls Tryd.prog 55 #[.slice bd m d, x.val, .func (.func 56) #[] #[]] w fun e w' => ∃ (i : Nat) (fd : Bool), e = .returned (.tuple #[.int .i64 (i : Int), .bool fd]) ∧ FoundAt (fls ys) x.f.name i fd ∧ Below w.heap.size w w' := by
  have HK := hide k
  have HM := hide hm
  have HR := hide hr
  have HNC := hide (fun (y : Fv) W => names_any y x W)
  have hlen : (fls ys).length = m := by simp [fls, hm]
  have HLEN := hide hlen
  clear hlen
  rw [val_is]
  have HNC' : Hid (∀ (y : Fv) (W : World), Calls Tryd.prog 56 #[.agg #[.string (B y.f.name), .slice y.a y.f.bytes.length y.c, .int .i64 y.f.stamp, .int .i64 y.f.node, .bool y.f.gone], .agg #[.string (B x.f.name), .slice x.a x.f.bytes.length x.c, .int .i64 x.f.stamp, .int .i64 x.f.node, .bool x.f.gone]] W fun e w' => e = .returned (.int .i64 (cmpB y.f.name x.f.name)) ∧ Below W.heap.size W w') := by
    intro y W
    refine (unhide HNC y W).mono ?_
    rintro e w' ⟨rfl, rfl⟩
    exact ⟨rfl, bel_al (bel_al (Below.refl _ _) _) _⟩
  clear HNC k hm hr
  obtain ⟨nx, hnx⟩ : ∃ nx, x.f.name = nx := ⟨_, rfl⟩
  rw [hnx] at HNC' ⊢
  obtain ⟨t, ht⟩ : ∃ t, B nx = t := ⟨_, rfl⟩
  rw [ht] at HNC' ⊢
  clear ht hnx
  generalize x.f.bytes.length = zn at *
  generalize x.f.stamp = zs at *
  generalize x.f.node = zd at *
  generalize x.f.gone = zg at *
  generalize x.a = za at *
  generalize x.c = zc at *
  go_enter Tryd.func55, Tryd.ntmps55
  go_wp2
  go_loopw [9, 10, 11] (fun v9 v10 _ wr => ∃ lo hi : Nat, lo ≤ hi ∧ hi ≤ m ∧ v9 = .int .i64 (lo : Int) ∧ v10 = .int .i64 (hi : Int) ∧ Hid ((∀ (j : Nat) (y : Fl), (fls ys)[j]? = some y → j < lo → cmpB y.name nx < 0) ∧ (∀ (j : Nat) (y : Fl), (fls ys)[j]? = some y → hi ≤ j → 0 ≤ cmpB y.name nx)) ∧ Hid (Below (w.alloc (.cells #[.string t, .slice za zn zc, .int .i64 zs, .int .i64 zd, .bool zg] 40)).heap.size (w.alloc (.cells #[.string t, .slice za zn zc, .int .i64 zs, .int .i64 zd, .bool zg] 40)) wr)) (fun v9 v10 _ _ => (intOf v10).toNat - (intOf v9).toNat)
  case atStart =>
    refine ⟨0, m, Nat.zero_le _, Nat.le_refl _, rfl, rfl, ⟨fun j y _ h => absurd h (by omega), fun j y h1 h2 => ?_⟩, Below.refl _ _⟩
    rw [List.getElem?_eq_none (by rw [unhide HLEN]; exact h2)] at h1
    cases h1
  case round =>
    obtain ⟨lo, hi, hlh, hhm, rfl, rfl, HI, HB⟩ := hrel
    have hbw : Below w.heap.size w wr := (bel_al (Below.refl _ _) _).trans ((unhide HB).mono (by simp))
    have HBW := hide hbw
    have e0 : wr.cell? ⟨w.heap.size, 0, none⟩ = some (.string t) := ((unhide HB).cell (p := ⟨w.heap.size, 0, none⟩) (by simp)).trans (by simp)
    have e1 : wr.cell? ⟨w.heap.size, 1, none⟩ = some (.slice za zn zc) := ((unhide HB).cell (p := ⟨w.heap.size, 1, none⟩) (by simp)).trans (by simp)
    have e2 : wr.cell? ⟨w.heap.size, 2, none⟩ = some (.int .i64 zs) := ((unhide HB).cell (p := ⟨w.heap.size, 2, none⟩) (by simp)).trans (by simp)
    have e3 : wr.cell? ⟨w.heap.size, 3, none⟩ = some (.int .i64 zd) := ((unhide HB).cell (p := ⟨w.heap.size, 3, none⟩) (by simp)).trans (by simp)
    have e4 : wr.cell? ⟨w.heap.size, 4, none⟩ = some (.bool zg) := ((unhide HB).cell (p := ⟨w.heap.size, 4, none⟩) (by simp)).trans (by simp)
    have hzw : w.heap.size < wr.heap.size := by have := (unhide HB).size; simp at this; omega
    clear hbw
    by_cases hlt : lo < hi
    · obtain ⟨md, hmd⟩ : ∃ md, (lo + hi) / 2 = md := ⟨_, rfl⟩
      have hm1 : lo ≤ md := by omega
      have hm2 : md < hi := by omega
      obtain ⟨y, hy, hym⟩ := get_of (xs := ys) (k := md) (by rw [unhide HM]; omega)
      obtain ⟨b, o, rfl, hb, c0, c1, c2, c3, c4⟩ := (unhide HK).get (unhide HBW) hy
      have hyf : (fls ys)[md]? = some y.f := by simp [fls, hy]
      have HYF := hide hyf
      have hys : y.sl = .slice y.a y.f.bytes.length y.c := rfl
      rw [hys] at c1
      have HCY := hide (unhide HNC' y)
      obtain ⟨od, hod⟩ : ∃ od, cmpB y.f.name nx = od := ⟨_, rfl⟩
      rw [hod] at HCY
      have HOD := hide hod
      clear hy hym hyf hys hod
      generalize B y.f.name = t2 at *
      generalize y.f.bytes.length = n2 at *
      generalize y.f.stamp = s2 at *
      generalize y.f.node = d2 at *
      generalize y.f.gone = g2 at *
      have hwi : w.heap.size < wr.heap.size := hzw
      have hbr : b < wr.heap.size := by omega
      have k0 : ∀ W : World, Below wr.heap.size wr W → W.cell? ⟨b, o + md * 5, none⟩ = some (.string t2) := fun W hW => (hW.cell (p := ⟨b, _, none⟩) hbr).trans c0
      have k1 : ∀ W : World, Below wr.heap.size wr W → W.cell? ⟨b, o + md * 5 + 1, none⟩ = some (.slice y.a n2 y.c) := fun W hW => (hW.cell (p := ⟨b, _, none⟩) hbr).trans c1
      have k2 : ∀ W : World, Below wr.heap.size wr W → W.cell? ⟨b, o + md * 5 + 2, none⟩ = some (.int .i64 s2) := fun W hW => (hW.cell (p := ⟨b, _, none⟩) hbr).trans c2
      have k3 : ∀ W : World, Below wr.heap.size wr W → W.cell? ⟨b, o + md * 5 + 3, none⟩ = some (.int .i64 d2) := fun W hW => (hW.cell (p := ⟨b, _, none⟩) hbr).trans c3
      have k4 : ∀ W : World, Below wr.heap.size wr W → W.cell? ⟨b, o + md * 5 + 4, none⟩ = some (.bool g2) := fun W hW => (hW.cell (p := ⟨b, _, none⟩) hbr).trans c4
      have l0 : ∀ W : World, Below wr.heap.size wr W → W.cell? ⟨w.heap.size, 0, none⟩ = some (.string t) := fun W hW => (hW.cell (p := ⟨w.heap.size, 0, none⟩) hwi).trans e0
      have l1 : ∀ W : World, Below wr.heap.size wr W → W.cell? ⟨w.heap.size, 1, none⟩ = some (.slice za zn zc) := fun W hW => (hW.cell (p := ⟨w.heap.size, 1, none⟩) hwi).trans e1
      have l2 : ∀ W : World, Below wr.heap.size wr W → W.cell? ⟨w.heap.size, 2, none⟩ = some (.int .i64 zs) := fun W hW => (hW.cell (p := ⟨w.heap.size, 2, none⟩) hwi).trans e2
      have l3 : ∀ W : World, Below wr.heap.size wr W → W.cell? ⟨w.heap.size, 3, none⟩ = some (.int .i64 zd) := fun W hW => (hW.cell (p := ⟨w.heap.size, 3, none⟩) hwi).trans e3
      have l4 : ∀ W : World, Below wr.heap.size wr W → W.cell? ⟨w.heap.size, 4, none⟩ = some (.bool zg) := fun W hW => (hW.cell (p := ⟨w.heap.size, 4, none⟩) hwi).trans e4
      have hq : ((lo : Int) + (hi : Int)) / 2 = (md : Int) := by omega
      have hq3 : (md : Int) < (m : Int) := by omega
      clear e0 e1 e2 e3 e4 c0 c1 c2 c3 c4
      by_cases hc : od < 0
      · have HI2 := hide (rise_lt (unhide HR) (unhide HYF) (by rw [unhide HOD]; exact hc))
        go_wp2
        go_region_held3 (fun W => Below wr.heap.size wr W) (first | exact bel_dr (Below.refl _ _) | exact hb6) ((go_at_call 56; refine (unhide HCY _).mono ?_; rintro e w5 ⟨rfl, hb5⟩; have hb6 : Below wr.heap.size wr w5 := (bel_dr (Below.refl _ _)).trans hb5; clear hb5))
        clear k0 k1 k2 k3 k4 l0 l1 l2 l3 l4
        have HB6 := hide hb6
        clear hb6
        go_wp2
        go_roundw
        case rel => exact ⟨md + 1, hi, by omega, hhm, by go_num, rfl, ⟨unhide HI2, (unhide HI).2⟩, (unhide HB).trans ((unhide HB6).mono (unhide HB).size)⟩
        case measure => simp [intOf]; omega
      · have HI2 := hide (rise_ge (unhide HR) (unhide HYF) (by rw [unhide HOD]; exact hc))
        have hcf : decide (od < 0) = false := decide_eq_false hc
        go_wp2
        go_region_held3 (fun W => Below wr.heap.size wr W) (first | exact bel_dr (Below.refl _ _) | exact hb6) ((go_at_call 56; refine (unhide HCY _).mono ?_; rintro e w5 ⟨rfl, hb5⟩; have hb6 : Below wr.heap.size wr w5 := (bel_dr (Below.refl _ _)).trans hb5; clear hb5))
        clear k0 k1 k2 k3 k4 l0 l1 l2 l3 l4
        have HB6 := hide hb6
        clear hb6
        go_wp2
        go_roundw
        case rel => exact ⟨lo, md, by omega, by omega, rfl, rfl, ⟨(unhide HI).1, unhide HI2⟩, (unhide HB).trans ((unhide HB6).mono (unhide HB).size)⟩
        case measure => simp [intOf]; omega
    · obtain rfl : lo = hi := by omega
      by_cases hlm : lo < m
      · skip
        obtain ⟨y, hy, hym⟩ := get_of (xs := ys) (k := lo) (by rw [unhide HM]; exact hlm)
        obtain ⟨b, o, rfl, hb, c0, c1, c2, c3, c4⟩ := (unhide HK).get (unhide HBW) hy
        have hyf : (fls ys)[lo]? = some y.f := by simp [fls, hy]
        have HYF := hide hyf
        have hys : y.sl = .slice y.a y.f.bytes.length y.c := rfl
        rw [hys] at c1
        have HCY := hide (unhide HNC' y)
        obtain ⟨od, hod⟩ : ∃ od, cmpB y.f.name nx = od := ⟨_, rfl⟩
        rw [hod] at HCY
        have HOD := hide hod
        clear hy hym hyf hys hod
        generalize B y.f.name = t2 at *
        generalize y.f.bytes.length = n2 at *
        generalize y.f.stamp = s2 at *
        generalize y.f.node = d2 at *
        generalize y.f.gone = g2 at *
        have hwi : w.heap.size < wr.heap.size := hzw
        have hbr : b < wr.heap.size := by omega
        have k0 : ∀ W : World, Below wr.heap.size wr W → W.cell? ⟨b, o + lo * 5, none⟩ = some (.string t2) := fun W hW => (hW.cell (p := ⟨b, _, none⟩) hbr).trans c0
        have k1 : ∀ W : World, Below wr.heap.size wr W → W.cell? ⟨b, o + lo * 5 + 1, none⟩ = some (.slice y.a n2 y.c) := fun W hW => (hW.cell (p := ⟨b, _, none⟩) hbr).trans c1
        have k2 : ∀ W : World, Below wr.heap.size wr W → W.cell? ⟨b, o + lo * 5 + 2, none⟩ = some (.int .i64 s2) := fun W hW => (hW.cell (p := ⟨b, _, none⟩) hbr).trans c2
        have k3 : ∀ W : World, Below wr.heap.size wr W → W.cell? ⟨b, o + lo * 5 + 3, none⟩ = some (.int .i64 d2) := fun W hW => (hW.cell (p := ⟨b, _, none⟩) hbr).trans c3
        have k4 : ∀ W : World, Below wr.heap.size wr W → W.cell? ⟨b, o + lo * 5 + 4, none⟩ = some (.bool g2) := fun W hW => (hW.cell (p := ⟨b, _, none⟩) hbr).trans c4
        have l0 : ∀ W : World, Below wr.heap.size wr W → W.cell? ⟨w.heap.size, 0, none⟩ = some (.string t) := fun W hW => (hW.cell (p := ⟨w.heap.size, 0, none⟩) hwi).trans e0
        have l1 : ∀ W : World, Below wr.heap.size wr W → W.cell? ⟨w.heap.size, 1, none⟩ = some (.slice za zn zc) := fun W hW => (hW.cell (p := ⟨w.heap.size, 1, none⟩) hwi).trans e1
        have l2 : ∀ W : World, Below wr.heap.size wr W → W.cell? ⟨w.heap.size, 2, none⟩ = some (.int .i64 zs) := fun W hW => (hW.cell (p := ⟨w.heap.size, 2, none⟩) hwi).trans e2
        have l3 : ∀ W : World, Below wr.heap.size wr W → W.cell? ⟨w.heap.size, 3, none⟩ = some (.int .i64 zd) := fun W hW => (hW.cell (p := ⟨w.heap.size, 3, none⟩) hwi).trans e3
        have l4 : ∀ W : World, Below wr.heap.size wr W → W.cell? ⟨w.heap.size, 4, none⟩ = some (.bool zg) := fun W hW => (hW.cell (p := ⟨w.heap.size, 4, none⟩) hwi).trans e4
        have hq3 : (lo : Int) < (m : Int) := by omega
        clear e0 e1 e2 e3 e4 c0 c1 c2 c3 c4
        by_cases hc : od = 0
        · have hcb : (od == 0) = true := by simpa using hc
          have HFD : Hid (FoundAt (fls ys) nx lo true) := ⟨by rw [unhide HLEN]; omega, (unhide HI).1, (unhide HI).2, ⟨fun _ => ⟨y.f, unhide HYF, by rw [unhide HOD]; exact hc⟩, fun _ => rfl⟩⟩
          go_wp2
          go_region_held3 (fun W => Below wr.heap.size wr W) (first | exact bel_dr (Below.refl _ _) | exact hb6) ((go_at_call 56; refine (unhide HCY _).mono ?_; rintro e w5 ⟨rfl, hb5⟩; have hb6 : Below wr.heap.size wr w5 := (bel_dr (Below.refl _ _)).trans hb5; clear hb5))
          clear k0 k1 k2 k3 k4 l0 l1 l2 l3 l4
          have HB6 := hide hb6
          clear hb6
          go_wp2
          go_ret2
          exact ⟨lo, true, rfl, unhide HFD, (unhide HBW).trans ((unhide HB6).mono (unhide HBW).size)⟩
        · have hcb : (od == 0) = false := by simpa using hc
          have HFD : Hid (FoundAt (fls ys) nx lo false) := by
            refine ⟨by rw [unhide HLEN]; omega, (unhide HI).1, (unhide HI).2, ⟨(fun h => Bool.noConfusion h), ?_⟩⟩
            rintro ⟨z, hz, hz2⟩
            rw [unhide HYF] at hz
            cases hz
            rw [unhide HOD] at hz2
            exact absurd hz2 hc
          go_wp2
          go_region_held3 (fun W => Below wr.heap.size wr W) (first | exact bel_dr (Below.refl _ _) | exact hb6) ((go_at_call 56; refine (unhide HCY _).mono ?_; rintro e w5 ⟨rfl, hb5⟩; have hb6 : Below wr.heap.size wr w5 := (bel_dr (Below.refl _ _)).trans hb5; clear hb5))
          clear k0 k1 k2 k3 k4 l0 l1 l2 l3 l4
          have HB6 := hide hb6
          clear hb6
          go_wp2
          go_ret2
          exact ⟨lo, false, rfl, unhide HFD, (unhide HBW).trans ((unhide HB6).mono (unhide HBW).size)⟩
      · obtain rfl : m = lo := by omega
        have HFD : Hid (FoundAt (fls ys) nx m false) := by
          refine ⟨by rw [unhide HLEN]; exact Nat.le_refl _, (unhide HI).1, (unhide HI).2, ⟨(fun h => Bool.noConfusion h), ?_⟩⟩
          rintro ⟨z, hz, hz2⟩
          rw [List.getElem?_eq_none (by rw [unhide HLEN]; exact Nat.le_refl _)] at hz
          cases hz
        go_wp2
        go_quiet (fail)
        go_wp2
        go_ret2
        exact ⟨m, false, rfl, unhide HFD, below_drewN (unhide HBW) _⟩
end Go.Proofs.YtfojmdbpjkkpbaeDoor
