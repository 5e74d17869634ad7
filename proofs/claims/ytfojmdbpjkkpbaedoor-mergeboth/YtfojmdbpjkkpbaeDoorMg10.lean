/-
  Package merge: Shown and Less.
-/
import Derived.Test.YtfojmdbpjkkpbaeDoorMg8
import Derived.Test.YtfojmdbpjkkpbaeDoorMg9
namespace Go.Proofs.YtfojmdbpjkkpbaeDoor
open Go.RowKit
set_option linter.unusedVariables false
set_option maxRecDepth 100000

theorem shown1_any (x : Fv) (w : World) :
    Calls Tryd.prog 52 #[x.val] w fun e w' => e = .returned (.bool (!x.f.gone)) ∧ Below w.heap.size w w' := by
  rw [val_is]
  generalize B x.f.name = t at *
  generalize x.f.bytes.length = n at *
  generalize x.f.gone = g at *
  go_enter Tryd.func52, Tryd.ntmps52
  go_wp2
  go_ret
  exact ⟨rfl, bel_al (Below.refl _ _) _⟩

set_option maxHeartbeats 2000000 in
theorem less1_any (x : Fv) (g : Nat) (bd : Option Addr) (d m : Nat) (ys : List Fv) (w : World) (hx : FvIn w x) (hg : w.cell? ⟨g, 0, none⟩ = some (.slice bd m d)) (hgl : g < w.heap.size) (k : FsIn w bd d ys) (hm : ys.length = m) (hM : m ≤ 1000) (hr : Rise (fls ys)) :
    Calls Tryd.prog 54 #[x.val, .pointer (some ⟨g, 0, none⟩)] w fun e w' => e = .returned (.bool (lackF (fls ys) x.f)) ∧ Below w.heap.size w w' := by
  have HSR := hide (fun W (hW : Below w.heap.size w W) => search_any bd d ys x W (k.below hW (Nat.le_refl _)) m hm hM hr)
  have HNW := hide (fun (y : Fv) (hy : y ∈ ys) W (hW : Below w.heap.size w W) => newer_any x y W (hx.below hW (Nat.le_refl _)) ((k.all y hy).below hW (Nat.le_refl _)))
  have HK := hide k
  have HLK : Hid (∀ i fd, FoundAt (fls ys) x.f.name i fd → (fd = false → lackF (fls ys) x.f = true) ∧ (fd = true → ∃ y, ys[i]? = some y ∧ y ∈ ys ∧ lackF (fls ys) x.f = decide (0 < nwr x.f y.f))) := by
    intro i fd h
    obtain ⟨h1, h2⟩ := found_look hr h
    refine ⟨fun e => ?_, fun e => ?_⟩
    · unfold lackF; rw [h2 e]
    · obtain ⟨y, hy, hl⟩ := h1 e
      simp only [fls, List.getElem?_map] at hy
      cases hv : ys[i]? with
      | none => rw [hv] at hy; cases hy
      | some v =>
        rw [hv] at hy
        simp at hy
        refine ⟨v, rfl, List.mem_of_getElem? hv, ?_⟩
        unfold lackF
        rw [hl, hy]
  have HML : Hid (∀ i fd, FoundAt (fls ys) x.f.name i fd → fd = true → i < m) := by
    intro i fd h e
    obtain ⟨_, _, _, h4⟩ := h
    obtain ⟨y, hy, _⟩ := h4.1 e
    obtain ⟨hi, _⟩ := List.getElem?_eq_some_iff.1 hy
    simpa [fls, hm] using hi
  rw [val_is] at HSR ⊢
  have HNW' : Hid (∀ y ∈ ys, ∀ W, Below w.heap.size w W → Calls Tryd.prog 25 #[.agg #[.string (B x.f.name), .slice x.a x.f.bytes.length x.c, .int .i64 x.f.stamp, .int .i64 x.f.node, .bool x.f.gone], .agg #[.string (B y.f.name), .slice y.a y.f.bytes.length y.c, .int .i64 y.f.stamp, .int .i64 y.f.node, .bool y.f.gone]] W fun e w' => e = .returned (.int .i64 (nwr x.f y.f)) ∧ Below W.heap.size W w') := unhide HNW
  clear HNW hx k hr
  obtain ⟨LK, hLK⟩ : ∃ LK, lackF (fls ys) x.f = LK := ⟨_, rfl⟩
  rw [hLK] at HLK ⊢
  clear hLK
  obtain ⟨t, ht⟩ : ∃ t, B x.f.name = t := ⟨_, rfl⟩
  obtain ⟨zn, hzn⟩ : ∃ zn, x.f.bytes.length = zn := ⟨_, rfl⟩
  rw [ht, hzn] at HNW' HSR ⊢
  clear ht hzn
  generalize x.f.stamp = zs at *
  generalize x.f.node = zd at *
  generalize x.f.gone = zg at *
  generalize x.a = za at *
  generalize x.c = zc at *
  have hgc : ∀ W : World, Below w.heap.size w W → W.cell? ⟨g, 0, none⟩ = some (.slice bd m d) := fun W hW => (hW.cell (p := ⟨g, 0, none⟩) hgl).trans hg
  have HGC := hide hgc
  have hg1 := hgc _ (bel_al (Below.refl w.heap.size w) (.cells #[.string t, .slice za zn zc, .int .i64 zs, .int .i64 zd, .bool zg] 40))
  clear hgc hg
  go_enter Tryd.func54, Tryd.ntmps54
  go_wp2_with fail
  refine (unhide HSR _ (bel_al (Below.refl w.heap.size w) _)).mono ?_
  rintro e w1 ⟨i, fd, rfl, hfd, hb1⟩
  have HFD := hide hfd
  have HB1 := hide ((bel_al (Below.refl w.heap.size w) _).trans (hb1.mono (by simp)))
  have e0 : w1.cell? ⟨w.heap.size, 0, none⟩ = some (.string t) := (hb1.cell (p := ⟨w.heap.size, 0, none⟩) (by simp)).trans (by simp)
  have e1 : w1.cell? ⟨w.heap.size, 1, none⟩ = some (.slice za zn zc) := (hb1.cell (p := ⟨w.heap.size, 1, none⟩) (by simp)).trans (by simp)
  have e2 : w1.cell? ⟨w.heap.size, 2, none⟩ = some (.int .i64 zs) := (hb1.cell (p := ⟨w.heap.size, 2, none⟩) (by simp)).trans (by simp)
  have e3 : w1.cell? ⟨w.heap.size, 3, none⟩ = some (.int .i64 zd) := (hb1.cell (p := ⟨w.heap.size, 3, none⟩) (by simp)).trans (by simp)
  have e4 : w1.cell? ⟨w.heap.size, 4, none⟩ = some (.bool zg) := (hb1.cell (p := ⟨w.heap.size, 4, none⟩) (by simp)).trans (by simp)
  have hzw : w.heap.size < w1.heap.size := by have := hb1.size; simp at this; omega
  have hg2 := unhide HGC w1 (unhide HB1)
  clear hb1 hfd hg1
  cases fd with
  | false =>
    have HL := hide ((unhide HLK i false (unhide HFD)).1 rfl)
    go_wp2
    go_quiet (fail)
    go_wp2
    go_ret
    exact ⟨ret_bool (unhide HL).symm, below_drewN (unhide HB1) _⟩
  | true =>
    obtain ⟨y, hy, hym, hl⟩ := (unhide HLK i true (unhide HFD)).2 rfl
    have him := unhide HML i true (unhide HFD) rfl
    obtain ⟨b, o, hbd, hb, c0, c1, c2, c3, c4⟩ := (unhide HK).get (unhide HB1) hy
    have HCY := hide (unhide HNW' y hym)
    have HL := hide hl
    obtain ⟨nw, hnw⟩ : ∃ nw, nwr x.f y.f = nw := ⟨_, rfl⟩
    rw [hnw] at HCY HL
    have hys : y.sl = .slice y.a y.f.bytes.length y.c := rfl
    rw [hys] at c1
    clear hl hy hym hnw hys
    subst hbd
    generalize B y.f.name = t2 at *
    generalize y.f.bytes.length = n2 at *
    generalize y.f.stamp = s2 at *
    generalize y.f.node = d2 at *
    generalize y.f.gone = g2 at *
    have hwi : w.heap.size < w1.heap.size := hzw
    have hbr : b < w1.heap.size := by omega
    have hgr : g < w1.heap.size := by omega
    have k0 : ∀ W : World, Below w1.heap.size w1 W → W.cell? ⟨b, o + i * 5, none⟩ = some (.string t2) := fun W hW => (hW.cell (p := ⟨b, _, none⟩) hbr).trans c0
    have k1 : ∀ W : World, Below w1.heap.size w1 W → W.cell? ⟨b, o + i * 5 + 1, none⟩ = some (.slice y.a n2 y.c) := fun W hW => (hW.cell (p := ⟨b, _, none⟩) hbr).trans c1
    have k2 : ∀ W : World, Below w1.heap.size w1 W → W.cell? ⟨b, o + i * 5 + 2, none⟩ = some (.int .i64 s2) := fun W hW => (hW.cell (p := ⟨b, _, none⟩) hbr).trans c2
    have k3 : ∀ W : World, Below w1.heap.size w1 W → W.cell? ⟨b, o + i * 5 + 3, none⟩ = some (.int .i64 d2) := fun W hW => (hW.cell (p := ⟨b, _, none⟩) hbr).trans c3
    have k4 : ∀ W : World, Below w1.heap.size w1 W → W.cell? ⟨b, o + i * 5 + 4, none⟩ = some (.bool g2) := fun W hW => (hW.cell (p := ⟨b, _, none⟩) hbr).trans c4
    have k5 : ∀ W : World, Below w1.heap.size w1 W → W.cell? ⟨g, 0, none⟩ = some (.slice (some ⟨b, o, none⟩) m d) := fun W hW => (hW.cell (p := ⟨g, _, none⟩) hgr).trans hg2
    have l0 : ∀ W : World, Below w1.heap.size w1 W → W.cell? ⟨w.heap.size, 0, none⟩ = some (.string t) := fun W hW => (hW.cell (p := ⟨w.heap.size, 0, none⟩) hwi).trans e0
    have l1 : ∀ W : World, Below w1.heap.size w1 W → W.cell? ⟨w.heap.size, 1, none⟩ = some (.slice za zn zc) := fun W hW => (hW.cell (p := ⟨w.heap.size, 1, none⟩) hwi).trans e1
    have l2 : ∀ W : World, Below w1.heap.size w1 W → W.cell? ⟨w.heap.size, 2, none⟩ = some (.int .i64 zs) := fun W hW => (hW.cell (p := ⟨w.heap.size, 2, none⟩) hwi).trans e2
    have l3 : ∀ W : World, Below w1.heap.size w1 W → W.cell? ⟨w.heap.size, 3, none⟩ = some (.int .i64 zd) := fun W hW => (hW.cell (p := ⟨w.heap.size, 3, none⟩) hwi).trans e3
    have l4 : ∀ W : World, Below w1.heap.size w1 W → W.cell? ⟨w.heap.size, 4, none⟩ = some (.bool zg) := fun W hW => (hW.cell (p := ⟨w.heap.size, 4, none⟩) hwi).trans e4
    have hq3 : (i : Int) < (m : Int) := by omega
    have HB1d : Hid (Below w.heap.size w w1.drew) := bel_dr (unhide HB1)
    clear e0 e1 e2 e3 e4 c0 c1 c2 c3 c4
    go_wp2
    go_region_held3 (fun W => Below w1.heap.size w1 W) (first | exact bel_dr (Below.refl _ _) | exact hb6) ((go_at_call 25; refine (unhide HCY _ (unhide HB1d)).mono ?_; rintro e w5 ⟨rfl, hb5⟩; have hb6 : Below w1.heap.size w1 w5 := (bel_dr (Below.refl _ _)).trans hb5; clear hb5))
    clear k0 k1 k2 k3 k4 k5 l0 l1 l2 l3 l4
    have HB6 := hide hb6
    clear hb6
    go_wp2
    go_ret
    exact ⟨ret_bool (unhide HL).symm, (unhide HB1).trans ((unhide HB6).mono (unhide HB1).size)⟩

set_option maxHeartbeats 4000000 in
theorem those_shown (ad : Option Addr) (c : Nat) (xs : List Fv) (w : World) (h : FsIn w ad c xs) (n : Nat) (hn : xs.length = n) (hN : n ≤ 1000) (p : Fl → Bool)
    (hp : ∀ (x : Fv) (W : World), x ∈ xs → Below w.heap.size w W → FvIn W x → Calls Tryd.prog 52 #[x.val] W fun e w' => e = .returned (.bool (p x.f)) ∧ Below W.heap.size W w') :
    Calls Tryd.prog 53 #[.slice ad n c, .func (.func 52) #[] #[]] w fun e w' => ∃ v out, e = .returned v ∧ FRow w' w.heap.size v out ∧ fls out = (fls xs).filter p ∧ Below w.heap.size w w' := by
  have HI := hide h
  have HL := hide hn
  have HP := hide hp
  have hfl : (fls xs).length = n := by simp [fls, hn]
  have HFLN := hide hfl
  have HCPY := hide (fun (z : Fv) (W : World) (h : FvIn W z) => copyOf_any z W h)
  clear h hn hp hfl
  go_enter Tryd.func53, Tryd.ntmps53
  go_wp2
  go_loopw [5, 7, 10] (fun v5 _ j wr => ∃ (k : Nat) (o2 : List Fv), k ≤ n ∧ j = .int .i64 (k : Int) ∧ Hid (FRow wr w.heap.size v5 o2 ∧ Below w.heap.size w wr ∧ fls o2 = ((fls xs).take k).filter p ∧ o2.length ≤ k)) (fun _ _ j _ => n - (intOf j).toNat)
  case atStart => exact ⟨0, [], Nat.zero_le _, rfl, FRow.nil _ _, Below.refl _ _, by simp, by simp⟩
  case round =>
    obtain ⟨k, o2, hk, rfl, HS2⟩ := hrel
    by_cases hlt : k < n
    · obtain ⟨z, hz, hzm⟩ := get_of (xs := xs) (k := k) (by rw [unhide HL]; exact hlt)
      obtain ⟨h1, h2, h3, h4⟩ := unhide HS2
      obtain ⟨b, o, hA, hb, c0, c1, c2, c3, c4⟩ := (unhide HI).get h2 hz
      have hzw := h2.size
      have hzin := ((unhide HI).all z hzm).below h2 (Nat.le_refl _)
      have HZIN := hide hzin
      have hzc : z.cells.toArray = #[.string (B z.f.name), .slice z.a z.f.bytes.length z.c, .int .i64 z.f.stamp, .int .i64 z.f.node, .bool z.f.gone] := rfl
      have HPZ := hide (unhide HP z (wr.alloc (.cells z.cells.toArray 40)) hzm (bel_al h2 _) (hzin.alloc _))
      rw [val_is, hzc] at HPZ
      have HCP := hide (fun W h => unhide HCPY z W h)
      rw [val_is] at HCP
      have HROW := hide h1
      have HBW := hide h2
      have htk : (fls xs).take (k + 1) = (fls xs).take k ++ [z.f] := by
        have hk2 : (fls xs)[k]? = some z.f := by simp [fls, hz]
        rw [List.take_add_one, hk2]
        simp
      have hfilt : fls o2 ++ (if p z.f then [z.f] else []) = ((fls xs).take (k + 1)).filter p := by
        rw [htk, List.filter_append, h3]
        congr 1
        cases hpz : p z.f <;> simp [hpz]
      have HFT := hide hfilt
      have hzs : z.sl = .slice z.a z.f.bytes.length z.c := rfl
      rw [hzs] at c1
      have HV : Hid (∀ a c, Fv.val ⟨z.f, a, c⟩ = .agg #[.string (B z.f.name), .slice a z.f.bytes.length c, .int .i64 z.f.stamp, .int .i64 z.f.node, .bool z.f.gone] ∧ Fv.cells ⟨z.f, a, c⟩ = [.string (B z.f.name), .slice a z.f.bytes.length c, .int .i64 z.f.stamp, .int .i64 z.f.node, .bool z.f.gone]) := fun a c => ⟨rfl, rfl⟩
      have hlen := h4
      obtain ⟨pz, hpz⟩ : ∃ pz, p z.f = pz := ⟨_, rfl⟩
      rw [hpz] at HPZ HFT
      clear hzc hzs hzin hzm hz h1 h2 h3 h4 HS2 htk hfilt hpz
      subst hA
      generalize B z.f.name = zt at *
      generalize z.f.bytes.length = zn at *
      generalize z.f.stamp = zs at *
      generalize z.f.node = zd at *
      generalize z.f.gone = zg at *
      go_wp2_with fail
      refine (unhide HPZ).mono ?_
      rintro e w5 ⟨rfl, hb5⟩
      have hz5 := hb5.size
      simp only [World.size_alloc] at hz5
      have q0 : w5.cell? ⟨wr.heap.size, 0, none⟩ = some (.string zt) := (hb5.cell (p := ⟨wr.heap.size, 0, none⟩) (by simp)).trans (by simp)
      have q1 : w5.cell? ⟨wr.heap.size, 1, none⟩ = some (.slice z.a zn z.c) := (hb5.cell (p := ⟨wr.heap.size, 1, none⟩) (by simp)).trans (by simp)
      have q2 : w5.cell? ⟨wr.heap.size, 2, none⟩ = some (.int .i64 zs) := (hb5.cell (p := ⟨wr.heap.size, 2, none⟩) (by simp)).trans (by simp)
      have q3 : w5.cell? ⟨wr.heap.size, 3, none⟩ = some (.int .i64 zd) := (hb5.cell (p := ⟨wr.heap.size, 3, none⟩) (by simp)).trans (by simp)
      have q4 : w5.cell? ⟨wr.heap.size, 4, none⟩ = some (.bool zg) := (hb5.cell (p := ⟨wr.heap.size, 4, none⟩) (by simp)).trans (by simp)
      have HB51 := hide ((bel_al (Below.refl wr.heap.size wr) (.cells #[.string zt, .slice z.a zn z.c, .int .i64 zs, .int .i64 zd, .bool zg] 40)).trans (hb5.mono (by simp)))
      have HR5 := hide ((unhide HROW).below (unhide HB51))
      have HB5 := hide ((unhide HBW).trans ((unhide HB51).mono (unhide HBW).size))
      have HCP5 := hide (unhide HCP w5 ((unhide HZIN).below (unhide HB51) (Nat.le_refl _)))
      clear hb5 HPZ HCP HROW
      cases pz with
      | false =>
        go_wp2
        go_roundw
        case rel => exact ⟨k + 1, o2, by omega, by go_num, unhide HR5, unhide HB5, by have := unhide HFT; simpa using this, by omega⟩
        case measure => simp [intOf]; omega
      | true =>
        go_wp2_with fail
        refine (unhide HCP5).mono ?_
        rintro e w6 ⟨a6, c6, rfl, hv6, hb6, hl6⟩
        obtain ⟨hv, hvc⟩ := unhide HV a6 c6
        rw [hv]
        have hz6 := hb6.size
        have HR6 := hide (((unhide HR5).below hb6).below ((Below.refl w6.heap.size w6).alloc (Nat.le_refl _) (.cells #[.string zt, .slice a6 zn c6, .int .i64 zs, .int .i64 zd, .bool zg] 40)))
        have HV6 := hide (hv6.alloc (.cells #[.string zt, .slice a6 zn c6, .int .i64 zs, .int .i64 zd, .bool zg] 40))
        have HB6 := hide (bel_al ((unhide HB5).trans (hb6.mono (unhide HB5).size)) (.cells #[.string zt, .slice a6 zn c6, .int .i64 zs, .int .i64 zd, .bool zg] 40))
        have HL6 : Hid (∀ b o, a6 = some ⟨b, o, none⟩ → some b ≠ u5.ownBlock ∧ b < (w6.alloc (.cells #[.string zt, .slice a6 zn c6, .int .i64 zs, .int .i64 zd, .bool zg] 40)).heap.size) := by
          intro b o e
          have h1 := hl6 b o e
          refine ⟨fun e2 => ?_, by simp; omega⟩
          have := ((unhide HR5).lt e2.symm).2
          omega
        have HC6 : Hid (∀ j u, (Fv.cells ⟨z.f, a6, c6⟩)[j]? = some u → (w6.alloc (.cells #[.string zt, .slice a6 zn c6, .int .i64 zs, .int .i64 zd, .bool zg] 40)).cell? ⟨w6.heap.size, j, none⟩ = some u) := by
          intro j u hj
          rw [hvc] at hj
          rw [World.cell?_alloc_at _ _ _ _ rfl]
          simpa using hj
        clear hv hvc hv6 hb6 hl6
        go_wp2_with (at_builtin; refine wpList_append_file _ rfl _ _ rfl w.heap.size _ o2 rfl (unhide HR6) w6.heap.size ⟨z.f, a6, c6⟩ rfl (unhide HC6) (unhide HV6) (unhide HL6) (by omega) (by simp; omega) ?_)
        intro v' w7 hR7 hB7
        have HB7 := hide ((unhide HB6).trans (unhide hB7))
        clear HR6 HV6 HB6 HL6 HC6 hB7 HCP5 HR5
        go_wp2
        go_roundw
        case rel => exact ⟨k + 1, _, by omega, by go_num, unhide hR7, unhide HB7, by rw [fls_snoc]; have := unhide HFT; simpa using this, by rw [List.length_append]; simp; omega⟩
        case measure => simp [intOf]; omega
    · obtain rfl : n = k := by omega
      obtain ⟨h1, h2, h3, h4⟩ := unhide HS2
      rw [List.take_of_length_le (by rw [unhide HFLN]; exact Nat.le_refl _)] at h3
      have H1 := hide h1
      have H2 := hide h2
      have H3 := hide h3
      clear h1 h2 h3 h4
      go_wp2
      go_ret
      exact ⟨_, o2, rfl, unhide H1, unhide H3, unhide H2⟩

set_option maxHeartbeats 4000000 in
theorem those_less (g : Nat) (ad : Option Addr) (c : Nat) (xs : List Fv) (w : World) (h : FsIn w ad c xs) (n : Nat) (hn : xs.length = n) (hN : n ≤ 1000) (p : Fl → Bool)
    (hp : ∀ (x : Fv) (W : World), x ∈ xs → Below w.heap.size w W → FvIn W x → Calls Tryd.prog 54 #[x.val, .pointer (some ⟨g, 0, none⟩)] W fun e w' => e = .returned (.bool (p x.f)) ∧ Below W.heap.size W w') :
    Calls Tryd.prog 53 #[.slice ad n c, .func (.func 54) #[] #[.pointer (some ⟨g, 0, none⟩)]] w fun e w' => ∃ v out, e = .returned v ∧ FRow w' w.heap.size v out ∧ fls out = (fls xs).filter p ∧ Below w.heap.size w w' := by
  have HI := hide h
  have HL := hide hn
  have HP := hide hp
  have hfl : (fls xs).length = n := by simp [fls, hn]
  have HFLN := hide hfl
  have HCPY := hide (fun (z : Fv) (W : World) (h : FvIn W z) => copyOf_any z W h)
  clear h hn hp hfl
  go_enter Tryd.func53, Tryd.ntmps53
  go_wp2
  go_loopw [5, 7, 10] (fun v5 _ j wr => ∃ (k : Nat) (o2 : List Fv), k ≤ n ∧ j = .int .i64 (k : Int) ∧ Hid (FRow wr w.heap.size v5 o2 ∧ Below w.heap.size w wr ∧ fls o2 = ((fls xs).take k).filter p ∧ o2.length ≤ k)) (fun _ _ j _ => n - (intOf j).toNat)
  case atStart => exact ⟨0, [], Nat.zero_le _, rfl, FRow.nil _ _, Below.refl _ _, by simp, by simp⟩
  case round =>
    obtain ⟨k, o2, hk, rfl, HS2⟩ := hrel
    by_cases hlt : k < n
    · obtain ⟨z, hz, hzm⟩ := get_of (xs := xs) (k := k) (by rw [unhide HL]; exact hlt)
      obtain ⟨h1, h2, h3, h4⟩ := unhide HS2
      obtain ⟨b, o, hA, hb, c0, c1, c2, c3, c4⟩ := (unhide HI).get h2 hz
      have hzw := h2.size
      have hzin := ((unhide HI).all z hzm).below h2 (Nat.le_refl _)
      have HZIN := hide hzin
      have hzc : z.cells.toArray = #[.string (B z.f.name), .slice z.a z.f.bytes.length z.c, .int .i64 z.f.stamp, .int .i64 z.f.node, .bool z.f.gone] := rfl
      have HPZ := hide (unhide HP z (wr.alloc (.cells z.cells.toArray 40)) hzm (bel_al h2 _) (hzin.alloc _))
      rw [val_is, hzc] at HPZ
      have HCP := hide (fun W h => unhide HCPY z W h)
      rw [val_is] at HCP
      have HROW := hide h1
      have HBW := hide h2
      have htk : (fls xs).take (k + 1) = (fls xs).take k ++ [z.f] := by
        have hk2 : (fls xs)[k]? = some z.f := by simp [fls, hz]
        rw [List.take_add_one, hk2]
        simp
      have hfilt : fls o2 ++ (if p z.f then [z.f] else []) = ((fls xs).take (k + 1)).filter p := by
        rw [htk, List.filter_append, h3]
        congr 1
        cases hpz : p z.f <;> simp [hpz]
      have HFT := hide hfilt
      have hzs : z.sl = .slice z.a z.f.bytes.length z.c := rfl
      rw [hzs] at c1
      have HV : Hid (∀ a c, Fv.val ⟨z.f, a, c⟩ = .agg #[.string (B z.f.name), .slice a z.f.bytes.length c, .int .i64 z.f.stamp, .int .i64 z.f.node, .bool z.f.gone] ∧ Fv.cells ⟨z.f, a, c⟩ = [.string (B z.f.name), .slice a z.f.bytes.length c, .int .i64 z.f.stamp, .int .i64 z.f.node, .bool z.f.gone]) := fun a c => ⟨rfl, rfl⟩
      have hlen := h4
      obtain ⟨pz, hpz⟩ : ∃ pz, p z.f = pz := ⟨_, rfl⟩
      rw [hpz] at HPZ HFT
      clear hzc hzs hzin hzm hz h1 h2 h3 h4 HS2 htk hfilt hpz
      subst hA
      generalize B z.f.name = zt at *
      generalize z.f.bytes.length = zn at *
      generalize z.f.stamp = zs at *
      generalize z.f.node = zd at *
      generalize z.f.gone = zg at *
      go_wp2_with fail
      refine (unhide HPZ).mono ?_
      rintro e w5 ⟨rfl, hb5⟩
      have hz5 := hb5.size
      simp only [World.size_alloc] at hz5
      have q0 : w5.cell? ⟨wr.heap.size, 0, none⟩ = some (.string zt) := (hb5.cell (p := ⟨wr.heap.size, 0, none⟩) (by simp)).trans (by simp)
      have q1 : w5.cell? ⟨wr.heap.size, 1, none⟩ = some (.slice z.a zn z.c) := (hb5.cell (p := ⟨wr.heap.size, 1, none⟩) (by simp)).trans (by simp)
      have q2 : w5.cell? ⟨wr.heap.size, 2, none⟩ = some (.int .i64 zs) := (hb5.cell (p := ⟨wr.heap.size, 2, none⟩) (by simp)).trans (by simp)
      have q3 : w5.cell? ⟨wr.heap.size, 3, none⟩ = some (.int .i64 zd) := (hb5.cell (p := ⟨wr.heap.size, 3, none⟩) (by simp)).trans (by simp)
      have q4 : w5.cell? ⟨wr.heap.size, 4, none⟩ = some (.bool zg) := (hb5.cell (p := ⟨wr.heap.size, 4, none⟩) (by simp)).trans (by simp)
      have HB51 := hide ((bel_al (Below.refl wr.heap.size wr) (.cells #[.string zt, .slice z.a zn z.c, .int .i64 zs, .int .i64 zd, .bool zg] 40)).trans (hb5.mono (by simp)))
      have HR5 := hide ((unhide HROW).below (unhide HB51))
      have HB5 := hide ((unhide HBW).trans ((unhide HB51).mono (unhide HBW).size))
      have HCP5 := hide (unhide HCP w5 ((unhide HZIN).below (unhide HB51) (Nat.le_refl _)))
      clear hb5 HPZ HCP HROW
      cases pz with
      | false =>
        go_wp2
        go_roundw
        case rel => exact ⟨k + 1, o2, by omega, by go_num, unhide HR5, unhide HB5, by have := unhide HFT; simpa using this, by omega⟩
        case measure => simp [intOf]; omega
      | true =>
        go_wp2_with fail
        refine (unhide HCP5).mono ?_
        rintro e w6 ⟨a6, c6, rfl, hv6, hb6, hl6⟩
        obtain ⟨hv, hvc⟩ := unhide HV a6 c6
        rw [hv]
        have hz6 := hb6.size
        have HR6 := hide (((unhide HR5).below hb6).below ((Below.refl w6.heap.size w6).alloc (Nat.le_refl _) (.cells #[.string zt, .slice a6 zn c6, .int .i64 zs, .int .i64 zd, .bool zg] 40)))
        have HV6 := hide (hv6.alloc (.cells #[.string zt, .slice a6 zn c6, .int .i64 zs, .int .i64 zd, .bool zg] 40))
        have HB6 := hide (bel_al ((unhide HB5).trans (hb6.mono (unhide HB5).size)) (.cells #[.string zt, .slice a6 zn c6, .int .i64 zs, .int .i64 zd, .bool zg] 40))
        have HL6 : Hid (∀ b o, a6 = some ⟨b, o, none⟩ → some b ≠ u5.ownBlock ∧ b < (w6.alloc (.cells #[.string zt, .slice a6 zn c6, .int .i64 zs, .int .i64 zd, .bool zg] 40)).heap.size) := by
          intro b o e
          have h1 := hl6 b o e
          refine ⟨fun e2 => ?_, by simp; omega⟩
          have := ((unhide HR5).lt e2.symm).2
          omega
        have HC6 : Hid (∀ j u, (Fv.cells ⟨z.f, a6, c6⟩)[j]? = some u → (w6.alloc (.cells #[.string zt, .slice a6 zn c6, .int .i64 zs, .int .i64 zd, .bool zg] 40)).cell? ⟨w6.heap.size, j, none⟩ = some u) := by
          intro j u hj
          rw [hvc] at hj
          rw [World.cell?_alloc_at _ _ _ _ rfl]
          simpa using hj
        clear hv hvc hv6 hb6 hl6
        go_wp2_with (at_builtin; refine wpList_append_file _ rfl _ _ rfl w.heap.size _ o2 rfl (unhide HR6) w6.heap.size ⟨z.f, a6, c6⟩ rfl (unhide HC6) (unhide HV6) (unhide HL6) (by omega) (by simp; omega) ?_)
        intro v' w7 hR7 hB7
        have HB7 := hide ((unhide HB6).trans (unhide hB7))
        clear HR6 HV6 HB6 HL6 HC6 hB7 HCP5 HR5
        go_wp2
        go_roundw
        case rel => exact ⟨k + 1, _, by omega, by go_num, unhide hR7, unhide HB7, by rw [fls_snoc]; have := unhide HFT; simpa using this, by rw [List.length_append]; simp; omega⟩
        case measure => simp [intOf]; omega
    · obtain rfl : n = k := by omega
      obtain ⟨h1, h2, h3, h4⟩ := unhide HS2
      rw [List.take_of_length_le (by rw [unhide HFLN]; exact Nat.le_refl _)] at h3
      have H1 := hide h1
      have H2 := hide h2
      have H3 := hide h3
      clear h1 h2 h3 h4
      go_wp2
      go_ret
      exact ⟨_, o2, rfl, unhide H1, unhide H3, unhide H2⟩

theorem errR_zero : ∀ (l : List Fl) (p : Option Fl), errR p l = 0 → (∀ f ∈ l, errV f = 0) ∧ Rise l ∧ (∀ x, p = some x → ∀ f ∈ l, cmpB x.name f.name < 0)
  | [], p, _ => ⟨fun f hf => absurd hf List.not_mem_nil, fun i j x y h => by simp at h, fun x _ f hf => absurd hf List.not_mem_nil⟩
  | f :: r, p, h => by
    rw [errR] at h
    split at h
    · rename_i h1; omega
    · rename_i h1
      split at h
      · omega
      · rename_i h2
        obtain ⟨k1, k2, k3⟩ := errR_zero r (some f) h
        have hv : errV f = 0 := by omega
        refine ⟨?_, ?_, ?_⟩
        · intro g hg
          rcases List.mem_cons.1 hg with rfl | hg
          · exact hv
          · exact k1 g hg
        · intro i j x y hx hy hij
          match i, j, hij with
          | 0, j + 1, _ =>
            simp at hx hy
            subst hx
            exact k3 f rfl y (List.mem_of_getElem? hy)
          | i + 1, j + 1, hij =>
            simp at hx hy
            exact k2 i j x y hx hy (by omega)
        · intro x hp g hg
          subst hp
          have hxf : cmpB x.name f.name < 0 := by
            have : behind (some x) f = true := by simpa using h2
            exact of_decide_eq_true this
          rcases List.mem_cons.1 hg with rfl | hg
          · exact hxf
          · exact cmpB_trans hxf (k3 f rfl g hg)
theorem rise_tail {f : Fl} {r : List Fl} (h : Rise (f :: r)) : Rise r ∧ ∀ g ∈ r, cmpB f.name g.name < 0 := by
  constructor
  · intro i j x y hx hy hij
    exact h (i + 1) (j + 1) x y (by simpa using hx) (by simpa using hy) (by omega)
  · intro g hg
    obtain ⟨j, hj, he⟩ := List.getElem_of_mem hg
    exact h 0 (j + 1) f g rfl (by simp [List.getElem?_eq_getElem hj, he]) (by omega)
theorem errR_of : ∀ (l : List Fl) (p : Option Fl), (∀ f ∈ l, errV f = 0) → Rise l → (∀ x, p = some x → ∀ f ∈ l, cmpB x.name f.name < 0) → errR p l = 0
  | [], p, _, _, _ => rfl
  | f :: r, p, h1, h2, h3 => by
    rw [errR]
    obtain ⟨k1, k2⟩ := rise_tail h2
    rw [if_neg (by simp [h1 f (by simp)]), if_neg ?_]
    · exact errR_of r (some f) (fun g hg => h1 g (List.mem_cons_of_mem _ hg)) k1 (fun x hx g hg => by cases hx; exact k2 g hg)
    · cases p with
      | none => simp [behind]
      | some x => simp [behind]; exact h3 x rfl f (by simp)
theorem errM_zero {l : List Fl} : errM l = 0 ↔ l.length ≤ 12 ∧ (∀ f ∈ l, errV f = 0) ∧ Rise l := by
  constructor
  · intro h
    have hl := errM_len h
    unfold errM at h
    rw [if_neg (by omega)] at h
    obtain ⟨k1, k2, _⟩ := errR_zero l none h
    exact ⟨hl, k1, k2⟩
  · rintro ⟨h1, h2, h3⟩
    unfold errM
    rw [if_neg (by omega)]
    exact errR_of l none h2 h3 (fun x hx => by cases hx)

def shownL (l : List Fl) : List Fl := if errM l = 0 then l.filter (fun f => !f.gone) else []
def lessL (a b : List Fl) : List Fl := if errE a b = 0 then a.filter (lackF b) else []

theorem shown_any (ad : Option Addr) (c : Nat) (xs : List Fv) (w : World) (h : FsIn w ad c xs) (n : Nat) (hn : xs.length = n) :
    Calls Tryd.prog 30 #[.slice ad n c] w fun e w' => ∃ v, e = .returned (.tuple #[v, .int .i64 (errM (fls xs) : Nat)]) ∧ Ans w w' v (shownL (fls xs)) := by
  have HC := hide (check_files ad c xs w h n hn)
  by_cases he : errM (fls xs) = 0
  · have hl := errM_len he
    simp only [fls, List.length_map] at hl
    have HT := hide (fun (W : World) (hW : Below w.heap.size w W) => those_shown ad c xs W (h.below hW (Nat.le_refl _)) n hn (by omega) (fun f => !f.gone) (fun x W' _ _ _ => shown1_any x W'))
    have e1 : shownL (fls xs) = (fls xs).filter (fun f => !f.gone) := by unfold shownL; rw [if_pos he]
    rw [e1, he]
    rw [he] at HC
    have hlen : ((fls xs).filter (fun f => !f.gone)).length ≤ 1000 := by
      have := List.length_filter_le (fun f : Fl => !f.gone) (fls xs)
      have := errM_len he
      omega
    have HLN := hide hlen
    clear h hn he hl e1 hlen
    generalize (fls xs).filter (fun f => !f.gone) = R at *
    go_enter Tryd.func30, Tryd.ntmps30
    go_wp2_with fail
    refine (unhide HC).mono ?_
    rintro e w1 ⟨rfl, hb1⟩
    have HB1 := hide hb1
    clear hb1
    go_wp2_with fail
    refine (unhide HT w1 (unhide HB1)).mono ?_
    rintro e w2 ⟨v, out, rfl, hrow, hout, hb2⟩
    have HA := hide (Ans.row (w := w) hrow (by have := unhide HLN; rw [← hout] at this; simpa [fls] using this) ((unhide HB1).trans (hb2.mono (unhide HB1).size)))
    rw [hout] at HA
    clear hrow hout hb2
    go_wp2
    go_ret2
    exact ⟨_, rfl, unhide HA⟩
  · have e1 : shownL (fls xs) = [] := by unfold shownL; rw [if_neg he]
    rw [e1]
    clear h e1
    generalize errM (fls xs) = E at *
    go_enter Tryd.func30, Tryd.ntmps30
    go_wp2_with fail
    refine (unhide HC).mono ?_
    rintro e w1 ⟨rfl, hb1⟩
    have HB1 := hide hb1
    clear hb1
    go_wp2
    go_ret2
    exact ⟨_, rfl, Ans.nil (unhide HB1)⟩

set_option maxHeartbeats 1000000 in
theorem less_any (ad bd : Option Addr) (c d : Nat) (xs ys : List Fv) (w : World) (h : FsIn w ad c xs) (k : FsIn w bd d ys) (n m : Nat) (hn : xs.length = n) (hm : ys.length = m) :
    Calls Tryd.prog 31 #[.slice ad n c, .slice bd m d] w fun e w' => ∃ v, e = .returned (.tuple #[v, .int .i64 (errE (fls xs) (fls ys) : Nat)]) ∧ Ans w w' v (lessL (fls xs) (fls ys)) := by
  have HC := hide (fun (W : World) (hW : Below w.heap.size w W) => checkEach_any ad bd c d xs ys W (h.below hW (Nat.le_refl _)) (k.below hW (Nat.le_refl _)) n m hn hm)
  by_cases he : errE (fls xs) (fls ys) = 0
  · have hz := errE_zero.1 he
    have hl := errM_len hz.1
    have hl2 := errM_len hz.2
    have hr := (errM_zero.1 hz.2).2.2
    simp only [fls, List.length_map] at hl hl2
    have HT := hide (fun (W : World) (hW : Below w.heap.size w W) (hg : W.cell? ⟨w.heap.size, 0, none⟩ = some (.slice bd m d)) (hgl : w.heap.size < W.heap.size) => those_less w.heap.size ad c xs W (h.below hW (Nat.le_refl _)) n hn (by omega) (lackF (fls ys)) (fun x W' hxm hW' hx => less1_any x w.heap.size bd d m ys W' hx ((hW'.cell (p := ⟨w.heap.size, 0, none⟩) hgl).trans hg) (Nat.lt_of_lt_of_le hgl hW'.size) (k.below (hW.trans (hW'.mono hW.size)) (Nat.le_refl _)) hm (by omega) hr))
    have e1 : lessL (fls xs) (fls ys) = (fls xs).filter (lackF (fls ys)) := by unfold lessL; rw [if_pos he]
    rw [e1, he]
    rw [he] at HC
    have hlen : ((fls xs).filter (lackF (fls ys))).length ≤ 1000 := by
      have := List.length_filter_le (lackF (fls ys)) (fls xs)
      have := errM_len hz.1
      omega
    have HLN := hide hlen
    clear h k hn hm he hl hl2 hr hz e1 hlen
    generalize (fls xs).filter (lackF (fls ys)) = R at *
    go_enter Tryd.func31, Tryd.ntmps31
    go_wp2_with fail
    refine (unhide HC _ (bel_al (Below.refl _ _) _)).mono ?_
    rintro e w1 ⟨rfl, hb1⟩
    have HB1 := hide ((bel_al (Below.refl w.heap.size w) _).trans (hb1.mono (by simp)))
    have HG := hide ((hb1.cell (p := ⟨w.heap.size, 0, none⟩) (by simp)).trans (by simp : _ = some (Value.slice bd m d)))
    have hgl : w.heap.size < w1.heap.size := by have := hb1.size; simp at this; omega
    clear hb1
    go_wp2_with fail
    refine (unhide HT w1 (unhide HB1) (unhide HG) hgl).mono ?_
    rintro e w2 ⟨v, out, rfl, hrow, hout, hb2⟩
    have HA := hide (Ans.row (w := w) hrow (by have := unhide HLN; rw [← hout] at this; simpa [fls] using this) ((unhide HB1).trans (hb2.mono (unhide HB1).size)))
    rw [hout] at HA
    clear hrow hout hb2
    go_wp2
    go_ret2
    exact ⟨_, rfl, unhide HA⟩
  · have e1 : lessL (fls xs) (fls ys) = [] := by unfold lessL; rw [if_neg he]
    rw [e1]
    clear h k e1
    generalize errE (fls xs) (fls ys) = E at *
    go_enter Tryd.func31, Tryd.ntmps31
    go_wp2_with fail
    refine (unhide HC _ (bel_al (Below.refl _ _) _)).mono ?_
    rintro e w1 ⟨rfl, hb1⟩
    have HB1 := hide ((bel_al (Below.refl w.heap.size w) _).trans (hb1.mono (by simp)))
    clear hb1
    go_wp2
    go_ret2
    exact ⟨_, rfl, Ans.nil (unhide HB1)⟩
end Go.Proofs.YtfojmdbpjkkpbaeDoor
