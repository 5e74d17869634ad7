/-
  Package world: what it does that a node puts a file, or takes one away.
-/
import Derived.Test.YtmgmganbamjnmaaGreatDoorS28
import Derived.Test.YtmgmganbamjnmaaGreatDoorS17
import Derived.Test.YtmgmganbamjnmaaGreatDoorS3
namespace Go.Proofs.YtmgmganbamjnmaaGreatDoor
open Go.RowKit
set_option linter.unusedVariables false
set_option linter.unusedSimpArgs false
set_option maxRecDepth 100000

/-- a happening as it lies -/
structure HpAt (w : World) (x : Hp) (a : Option Addr) (c : Nat) : Prop where
  bs : BsIn w a c x.bytes
  big : x.bytes.length ≤ 140737488355328
  txt : x.name.length ≤ 140737488355328
def hpV (x : Hp) (a : Option Addr) (c : Nat) : Value := .agg #[.int .i64 x.kind, .int .i64 x.node, .int .i64 x.dst, .string (B x.name), .slice a x.bytes.length c]
theorem HpAt.below {w w' : World} {x : Hp} {a : Option Addr} {c : Nat} (h : HpAt w x a c) (hB : Below w.heap.size w w') : HpAt w' x a c := ⟨h.bs.below hB (Nat.le_refl _), h.big, h.txt⟩
/-- what a function answers that makes a change -/
def ChA (w : World) (e : Ending) (w' : World) (E : Nat) (c : Cg) : Prop := Below w.heap.size w w' ∧ ∃ s, e = .returned (.tuple #[s, .int .i64 (E : Int)]) ∧ (E = 0 → CgIn w' s c)
abbrev hbox (k n d : Int) (t : ByteArray) (v : Value) : Obj := .cells #[.int .i64 k, .int .i64 n, .int .i64 d, .string t, v] 29
theorem wh_boxes (w : World) (v1 v2 v3 : Value) (k n d : Int) (t : ByteArray) (v : Value) : ∃ w1, (w.alloc (wbox v1 v2 v3)).alloc (hbox k n d t v) = w1 ∧ w1.heap.size = w.heap.size + 2 ∧ Below w.heap.size w w1 ∧ w1.heap[w.heap.size]? = some (.cells #[v1, v2, v3] 26 (0, 0)) ∧ w1.heap[w.heap.size + 1]? = some (.cells #[.int .i64 k, .int .i64 n, .int .i64 d, .string t, v] 29 (0, 0)) := by
  refine ⟨_, rfl, by simp, bel_al (bel_al (Below.refl _ _) _) _, ?_, ?_⟩
  · rw [Below.heap_alloc _ _ _ (by simp), heap_alloc_new]
  · have := heap_alloc_new (w.alloc (wbox v1 v2 v3)) (hbox k n d t v)
    rw [World.size_alloc] at this
    exact this
theorem file_who (v1 v2 v3 : Value) (a1 : Option Addr) (n c1 : Nat) (k nd d : Int) (t : ByteArray) (ab : Option Addr) (nb cb : Nat) (w : World) (hs1 : v1 = .slice a1 n c1) (hs2 : ∃ a m c, v2 = .slice a m c) (hs3 : ∃ a m c, v3 = .slice a m c) (h : isP nd n = false) :
    Calls Tryz.prog 42 #[.agg #[v1, v2, v3], .agg #[.int .i64 k, .int .i64 nd, .int .i64 d, .string t, .slice ab nb cb]] w fun e w' => ChA w e w' 5 (.drop 0) := by
  subst hs1
  obtain ⟨x1, x2, x3, rfl⟩ := hs2
  obtain ⟨y1, y2, y3, rfl⟩ := hs3
  obtain ⟨w1, hw1, hz1, hb1, hx0, hx1⟩ := wh_boxes w (.slice a1 n c1) (.slice x1 x2 x3) (.slice y1 y2 y3) k nd d t (.slice ab nb cb)
  have HP := hide (isPlace_any nd n)
  rw [h] at HP
  have HB := hide hb1
  rw [← hw1] at HB
  clear hw1 hz1 hb1 hx0 hx1 h
  go_enter Tryz.func42, Tryz.ntmps42
  go_wp2_with (go_at_call 26; refine (unhide HP _).mono ?_; rintro e w' ⟨rfl, rfl⟩)
  go_ret2
  exact ⟨unhide HB, _, rfl, fun e => by cases e⟩
theorem isIt_any {w : World} {bx : Nat} {nm : List UInt8} (hx : w.cell? ⟨bx, 3, none⟩ = some (.string (B nm))) : FnIs w 55 (.pointer (some ⟨bx, 0, none⟩)) (fun f => f.name == nm && !f.gone) := by
  refine ⟨enters_of Tryz.func55 (by kernel_rfl) rfl, fun y W hW => ?_⟩
  have hx1 := cell_bel hx hW (Nat.le_refl _)
  have he : ((B y.f.name).toList == (B nm).toList) = (y.f.name == nm) := by rw [toList_B, toList_B]
  rw [val_is]
  have hg2 := fun o => cell_al (o := o) hx1
  clear hx1 hx
  generalize (y.f.name == nm) = r at *
  generalize B y.f.name = t at *
  generalize B nm = t2 at *
  generalize y.f.bytes.length = n at *
  have HB := hide (bel_al (Below.refl W.heap.size W) (.cells #[.string t, .slice y.a n y.c, .int .i64 y.f.stamp, .int .i64 y.f.node, .bool y.f.gone] 49))
  generalize y.f.gone = g at *
  generalize y.f.stamp = s1 at *
  generalize y.f.node = s2 at *
  cases r <;> cases g
  all_goals (
    go_enter Tryz.func55, Tryz.ntmps55
    go_wp2
    go_ret
    exact ⟨rfl, unhide HB⟩)
/-- the closure that keep answers, in memory -/
theorem keepIn_new {w : World} {a : Option Addr} {n c k : Nat} {l : List Fl} (h : LIn w (.slice a n c) l) : CgIn ((w.alloc (.cells #[.int .i64 (k : Int)] 3)).alloc (.cells #[.slice a n c] 46)) (.func (.func 77) #[] #[.pointer (some ⟨w.heap.size + 1, 0, none⟩), .pointer (some ⟨w.heap.size, 0, none⟩)]) (.keep k l) := by
  refine ⟨w.heap.size + 1, w.heap.size, .slice a n c, rfl, ?_, ?_, h.below (bel_al (bel_al (Below.refl _ _) _) _)⟩
  · have := heap_alloc_new (w.alloc (.cells #[.int .i64 (k : Int)] 3)) (.cells #[.slice a n c] 46)
    rw [World.size_alloc] at this
    exact heap_row this
  · refine cell_al ?_
    exact heap_row (heap_alloc_new w _)
theorem put_file {w : World} {v : Value} {l : List Fl} {nm bs : List UInt8} {st nd : Int} {gn : Bool} {a : Option Addr} {c nb : Nat} (h : LIn w v l) (hx : FvIn w ⟨⟨nm, bs, st, nd, gn⟩, a, c⟩) (hn : bs.length = nb) :
    Calls Tryz.prog 57 #[v, .agg #[.string (B nm), .slice a nb c, .int .i64 st, .int .i64 nd, .bool gn]] w fun e w' => ∃ y, e = .returned (.tuple #[y, .int .i64 (bothE l [⟨nm, bs, st, nd, gn⟩] : Nat)]) ∧ LIn w' y (bothL l [⟨nm, bs, st, nd, gn⟩]) ∧ Below w.heap.size w w' := by
  have := put_l h hx
  rw [val_is] at this
  simp only [hn] at this
  exact this
set_option maxHeartbeats 4000000 in
theorem file_main (a1 a2 a3 : Option Addr) (c1 c2 c3 : Nat) (W : Wd) (w : World) (h : WAt w W a1 c1 a2 c2 a3 c3) (n m k : Nat) (hn : W.nodes.length = n) (hc : W.clock.length = n) (hm : W.net.length = m) (hkn : k < n) (h4 : n ≤ 1000) (kd ds : Int) (nm bs : List UInt8) (ab : Option Addr) (cb nb : Nat) (hnb : bs.length = nb) (hx : HpAt w ⟨kd, k, ds, nm, bs⟩ ab cb) (hkd : kd = 1 ∨ kd = 2)
    (l : List Fl) (ck : Int) (hnk : W.nodes[k]? = some l) (hck : W.clock[k]? = some ck) (hc0 : 0 ≤ ck) (hc1 : ck ≤ 1000000) (E : Nat) (hE : fileE W ⟨kd, k, ds, nm, bs⟩ = E) :
    Calls Tryz.prog 42 #[.agg #[.slice a1 n c1, .slice a2 n c2, .slice a3 m c3], .agg #[.int .i64 kd, .int .i64 (k : Int), .int .i64 ds, .string (B nm), .slice ab nb cb]] w fun e w' => ChA w e w' E (fileC W ⟨kd, k, ds, nm, bs⟩) := by
  obtain ⟨w1, hw1, hz1, hb1, hx0, hx1⟩ := wh_boxes w (.slice a1 n c1) (.slice a2 n c2) (.slice a3 m c3) kd k ds (B nm) (.slice ab nb cb)
  have h1 := h.below hb1
  have HP := hide (isPlace_any (k : Int) n)
  rw [isP_nat hkn] at HP
  have HC := hide (check_any nm w1 (by have := hx.txt; simp only at this; unfold maxLen; omega))
  have hnD : W.nodes.getD k [] = l := by simp [List.getD, hnk]
  have hcD : W.clock.getD k 0 = ck := by simp [List.getD, hck]
  have hC : fileC W ⟨kd, k, ds, nm, bs⟩ = .keep k (bothL l [putF ⟨kd, k, ds, nm, bs⟩ ck]) := by simp only [fileC, Int.toNat_natCast, hnD, hcD]
  rw [hC]
  obtain ⟨PF, hPF⟩ : ∃ PF, putF ⟨kd, k, ds, nm, bs⟩ ck = PF := ⟨_, rfl⟩
  rw [hPF]
  unfold fileE at hE
  simp only [Int.toNat_natCast, hnD, hcD, hn, hPF] at hE
  have HPF := hide hPF
  clear hPF
  rw [if_neg (by rw [isP_nat hkn]; decide)] at hE
  obtain ⟨E1, hE1⟩ : ∃ E1, errN nm = E1 := ⟨_, rfl⟩
  rw [hE1] at HC hE
  have hki0 : (0 : Int) ≤ (k : Int) := by omega
  have hki1 : (k : Int) < (n : Int) := by omega
  have HX := hide (And.intro h1 (And.intro hz1 (And.intro hb1 (And.intro hx0 (And.intro hx1 (And.intro hx (And.intro hnk hck)))))))
  rw [← hw1] at HC
  have q0 := heap_row (i := 0) hx0
  have g1 := heap_row (i := 1) hx1
  have g3 := heap_row (i := 3) hx1
  rw [← hw1] at q0 g1 g3
  have HE := hide hE
  have HNB := hide hnb
  have HW1 := hide hw1
  clear h h1 hz1 hb1 hx0 hx1 hx hnk hck hnD hcD hC hE hE1 hn hc hm hnb hw1
  go_enter Tryz.func42, Tryz.ntmps42
  go_wp2_with fail
  refine (unhide HP _).mono ?_
  rintro e w' ⟨rfl, rfl⟩
  go_wp2_with fail
  refine (unhide HC).mono ?_
  rintro e w2 ⟨rfl, hB2⟩
  rw [show (w.alloc (wbox (.slice a1 n c1) (.slice a2 n c2) (.slice a3 m c3))).alloc (hbox kd k ds (B nm) (.slice ab nb cb)) = w1 from unhide HW1] at hB2
  clear q0 g1 g3
  obtain ⟨h1, hz1, hb1, hx0, hx1, hx, hnk, hck⟩ := unhide HX
  have hB2w : Below w.heap.size w w2 := hb1.trans (hB2.mono (by omega))
  by_cases hE0 : E1 = 0
  · subst hE0
    have hE := unhide HE
    rw [if_neg (by simp)] at hE
    have hW2 := h1.below hB2
    obtain ⟨b1, o1, xl, ha1, hbb1, hxl, hL⟩ := hW2.ns.get hnk
    obtain ⟨b2, o2, ha2, hbb2, hxc⟩ := hW2.cs.get hck
    obtain ⟨al, cl, hvl⟩ := hL.shape
    obtain ⟨nl, hnl⟩ : ∃ nl, l.length = nl := ⟨_, rfl⟩
    rw [hnl] at hvl
    subst hvl ha1 ha2
    have hB2d : Below w1.heap.size w1 w2.drew := below_drewN hB2 1
    have p0 : w2.drew.cell? ⟨w.heap.size, 0, none⟩ = some (.slice (some ⟨b1, o1, none⟩) n c1) := cell_bel (heap_row (i := 0) hx0) hB2d (Nat.le_refl _)
    have p1 : w2.drew.cell? ⟨w.heap.size, 1, none⟩ = some (.slice (some ⟨b2, o2, none⟩) n c2) := cell_bel (heap_row (i := 1) hx0) hB2d (Nat.le_refl _)
    have g0 : w2.drew.cell? ⟨w.heap.size + 1, 0, none⟩ = some (.int .i64 kd) := cell_bel (heap_row (i := 0) hx1) hB2d (Nat.le_refl _)
    have g1 : w2.drew.cell? ⟨w.heap.size + 1, 1, none⟩ = some (.int .i64 (k : Int)) := cell_bel (heap_row (i := 1) hx1) hB2d (Nat.le_refl _)
    have g3 : w2.drew.cell? ⟨w.heap.size + 1, 3, none⟩ = some (.string (B nm)) := cell_bel (heap_row (i := 3) hx1) hB2d (Nat.le_refl _)
    have g4 : w2.drew.cell? ⟨w.heap.size + 1, 4, none⟩ = some (.slice ab nb cb) := cell_bel (heap_row (i := 4) hx1) hB2d (Nat.le_refl _)
    replace hxl : w2.drew.cell? ⟨b1, o1 + k, none⟩ = some (.slice al nl cl) := hxl
    replace hxc : w2.drew.cell? ⟨b2, o2 + k, none⟩ = some (.int .i64 ck) := hxc
    have hLD : LIn w2.drew (.slice al nl cl) l := hL.below (below_drewN (Below.refl _ _) 1)
    have hBD : Below w.heap.size w w2.drew := below_drewN (hb1.trans (hB2.mono (by omega))) 1
    have hHD : HpAt w2.drew ⟨kd, k, ds, nm, bs⟩ ab cb := hx.below hBD
    have hs3 : w.heap.size + 2 ≤ w2.drew.heap.size := by have := hB2d.size; omega
    obtain ⟨w3, hw3⟩ : ∃ w3, w2.drew = w3 := ⟨_, rfl⟩
    rw [hw3] at hs3 p0 p1 g0 g1 g3 g4 hxl hxc hLD hBD hHD
    have HW3 := hide hw3
    clear hw3
    have HBD := hide hBD
    by_cases hck6 : ck = 1000000
    · rw [if_pos hck6] at hE
      subst hE
      have hcb : (ck == 1000000) = true := by rw [beq_iff_eq]; exact hck6
      clear h1 hz1 hb1 hx0 hx1 hx hnk hck hB2 hB2d hB2w hW2 hL hLD hBD hHD HE hkd hnl hck6
      go_upto_region 6 with fail
      refine wp_region_held_drew (S := fun W => W = w3) (by kernel_rfl) (unhide HW3) (fun hHeld => ?_)
      rw [show w2.drew = w3 from unhide HW3] at hHeld ⊢
      refine wpAnyH_take (i := 0) (v := .pointer (some ⟨w.heap.size, 0, none⟩)) rfl (by kernel_rfl) (by kernel_rfl) (by kernel_rfl) (fun _ _ _ h => h) (Or.inl ⟨by rfl, fun W hS => by go_simp⟩) hHeld ?_
      simp only [Act.put, List.setIfInBounds_toArray, List.set_cons_zero, List.set_cons_succ]
      refine wpAnyH_take (i := 1) (v := .slice (some ⟨b1, o1, none⟩) n c1) rfl (by kernel_rfl) (by kernel_rfl) (by kernel_rfl) (fun _ _ _ h => h) (Or.inl ⟨by rfl, fun W hS => by subst hS; go_simp⟩) hHeld ?_
      simp only [Act.put, List.setIfInBounds_toArray, List.set_cons_zero, List.set_cons_succ]
      refine wpAnyH_take (i := 2) (v := .pointer (some ⟨w.heap.size + 1, 1, none⟩)) rfl (by kernel_rfl) (by kernel_rfl) (by kernel_rfl) (fun _ _ _ h => h) (Or.inl ⟨by rfl, fun W hS => by go_simp⟩) hHeld ?_
      simp only [Act.put, List.setIfInBounds_toArray, List.set_cons_zero, List.set_cons_succ]
      refine wpAnyH_take (i := 3) (v := .int .i64 (k : Int)) rfl (by kernel_rfl) (by kernel_rfl) (by kernel_rfl) (fun _ _ _ h => h) (Or.inl ⟨by rfl, fun W hS => by subst hS; go_simp⟩) hHeld ?_
      simp only [Act.put, List.setIfInBounds_toArray, List.set_cons_zero, List.set_cons_succ]
      refine wpAnyH_take (i := 4) (v := .pointer (some ⟨b1, o1 + k, none⟩)) rfl (by kernel_rfl) (by kernel_rfl) (by kernel_rfl) (fun _ _ _ h => h) (Or.inl ⟨by rfl, fun W hS => by go_simp⟩) hHeld ?_
      simp only [Act.put, List.setIfInBounds_toArray, List.set_cons_zero, List.set_cons_succ]
      refine wpAnyH_take (i := 5) (v := .slice al nl cl) rfl (by kernel_rfl) (by kernel_rfl) (by kernel_rfl) (fun _ _ _ h => h) (Or.inl ⟨by rfl, fun W hS => by subst hS; go_simp⟩) hHeld ?_
      simp only [Act.put, List.setIfInBounds_toArray, List.set_cons_zero, List.set_cons_succ]
      refine wpAnyH_take (i := 6) (v := .pointer (some ⟨w.heap.size, 1, none⟩)) rfl (by kernel_rfl) (by kernel_rfl) (by kernel_rfl) (fun _ _ _ h => h) (Or.inl ⟨by rfl, fun W hS => by go_simp⟩) hHeld ?_
      simp only [Act.put, List.setIfInBounds_toArray, List.set_cons_zero, List.set_cons_succ]
      refine wpAnyH_take (i := 7) (v := .slice (some ⟨b2, o2, none⟩) n c2) rfl (by kernel_rfl) (by kernel_rfl) (by kernel_rfl) (fun _ _ _ h => h) (Or.inl ⟨by rfl, fun W hS => by subst hS; go_simp⟩) hHeld ?_
      simp only [Act.put, List.setIfInBounds_toArray, List.set_cons_zero, List.set_cons_succ]
      refine wpAnyH_take (i := 8) (v := .pointer (some ⟨w.heap.size + 1, 1, none⟩)) rfl (by kernel_rfl) (by kernel_rfl) (by kernel_rfl) (fun _ _ _ h => h) (Or.inl ⟨by rfl, fun W hS => by go_simp⟩) hHeld ?_
      simp only [Act.put, List.setIfInBounds_toArray, List.set_cons_zero, List.set_cons_succ]
      refine wpAnyH_take (i := 9) (v := .int .i64 (k : Int)) rfl (by kernel_rfl) (by kernel_rfl) (by kernel_rfl) (fun _ _ _ h => h) (Or.inl ⟨by rfl, fun W hS => by subst hS; go_simp⟩) hHeld ?_
      simp only [Act.put, List.setIfInBounds_toArray, List.set_cons_zero, List.set_cons_succ]
      refine wpAnyH_take (i := 10) (v := .pointer (some ⟨b2, o2 + k, none⟩)) rfl (by kernel_rfl) (by kernel_rfl) (by kernel_rfl) (fun _ _ _ h => h) (Or.inl ⟨by rfl, fun W hS => by go_simp⟩) hHeld ?_
      simp only [Act.put, List.setIfInBounds_toArray, List.set_cons_zero, List.set_cons_succ]
      refine wpAnyH_take (i := 11) (v := .int .i64 ck) rfl (by kernel_rfl) (by kernel_rfl) (by kernel_rfl) (fun _ _ _ h => h) (Or.inl ⟨by rfl, fun W hS => by subst hS; go_simp⟩) hHeld ?_
      simp only [Act.put, List.setIfInBounds_toArray, List.set_cons_zero, List.set_cons_succ]
      refine wpAnyH_take (i := 12) (v := .slice al nl cl) rfl (by kernel_rfl) (by kernel_rfl) (by kernel_rfl) (fun _ _ _ h => h) (Or.inl ⟨by rfl, fun W hS => by go_simp⟩) hHeld ?_
      simp only [Act.put, List.setIfInBounds_toArray, List.set_cons_zero, List.set_cons_succ]
      refine wpAnyH_take (i := 13) (v := .int .i64 ck) rfl (by kernel_rfl) (by kernel_rfl) (by kernel_rfl) (fun _ _ _ h => h) (Or.inl ⟨by rfl, fun W hS => by go_simp⟩) hHeld ?_
      simp only [Act.put, List.setIfInBounds_toArray, List.set_cons_zero, List.set_cons_succ]
      refine wpAnyH_done (by kernel_rfl) ?_ _
      clear hHeld
      go_wp2
      go_ret2
      exact ⟨unhide HBD, _, rfl, fun e => by cases e⟩
    · rw [if_neg hck6] at hE
      have hcb : (ck == 1000000) = false := by rw [beq_eq_false_iff_ne]; exact hck6
      have hwr : IntKind.i64.wrap (ck + 1) = ck + 1 := by simp [IntKind.wrap, IntKind.signed, IntKind.bits]; omega
      have hnb := unhide HNB
      rcases hkd with rfl | rfl
      · obtain rfl : PF = ⟨nm, bs, ck + 1, k, false⟩ := (unhide HPF).symm.trans (by unfold putF; rw [if_neg (by simp)])
        rw [if_neg (by simp)] at hE
        have hB5 := bel_al (Below.refl w3.heap.size w3) (.cells #[.string (B nm), .slice ab nb cb, .int .i64 (ck + 1), .int .i64 (k : Int), .bool false] 49)
        have HPU := hide (put_file (nb := nb) (hLD.below hB5) (⟨hHD.bs.below hB5 (Nat.le_refl _), hHD.big, hHD.txt⟩ : FvIn _ ⟨⟨nm, bs, ck + 1, (k : Int), false⟩, ab, cb⟩) hnb)
        rw [hE] at HPU
        have HBF := hide (hBD.trans (hB5.mono hBD.size))
        have HG1 := hide (cell_bel g1 hB5 (Nat.le_refl _))
        have g0a := cell_bel g0 hB5 (Nat.le_refl _)
        clear h1 hz1 hb1 hx0 hx1 hx hnk hck hB2 hB2d hB2w hW2 hL hLD hBD hHD HE hnl hck6 hE HPF hB5
        go_upto_region 6 with fail
        refine wp_region_held_drew (S := fun W => W = w3) (by kernel_rfl) (unhide HW3) (fun hHeld => ?_)
        rw [show w2.drew = w3 from unhide HW3] at hHeld ⊢
        refine wpAnyH_take (i := 0) (v := .pointer (some ⟨w.heap.size, 0, none⟩)) rfl (by kernel_rfl) (by kernel_rfl) (by kernel_rfl) (fun _ _ _ h => h) (Or.inl ⟨by rfl, fun W hS => by go_simp⟩) hHeld ?_
        simp only [Act.put, List.setIfInBounds_toArray, List.set_cons_zero, List.set_cons_succ]
        refine wpAnyH_take (i := 1) (v := .slice (some ⟨b1, o1, none⟩) n c1) rfl (by kernel_rfl) (by kernel_rfl) (by kernel_rfl) (fun _ _ _ h => h) (Or.inl ⟨by rfl, fun W hS => by subst hS; go_simp⟩) hHeld ?_
        simp only [Act.put, List.setIfInBounds_toArray, List.set_cons_zero, List.set_cons_succ]
        refine wpAnyH_take (i := 2) (v := .pointer (some ⟨w.heap.size + 1, 1, none⟩)) rfl (by kernel_rfl) (by kernel_rfl) (by kernel_rfl) (fun _ _ _ h => h) (Or.inl ⟨by rfl, fun W hS => by go_simp⟩) hHeld ?_
        simp only [Act.put, List.setIfInBounds_toArray, List.set_cons_zero, List.set_cons_succ]
        refine wpAnyH_take (i := 3) (v := .int .i64 (k : Int)) rfl (by kernel_rfl) (by kernel_rfl) (by kernel_rfl) (fun _ _ _ h => h) (Or.inl ⟨by rfl, fun W hS => by subst hS; go_simp⟩) hHeld ?_
        simp only [Act.put, List.setIfInBounds_toArray, List.set_cons_zero, List.set_cons_succ]
        refine wpAnyH_take (i := 4) (v := .pointer (some ⟨b1, o1 + k, none⟩)) rfl (by kernel_rfl) (by kernel_rfl) (by kernel_rfl) (fun _ _ _ h => h) (Or.inl ⟨by rfl, fun W hS => by go_simp⟩) hHeld ?_
        simp only [Act.put, List.setIfInBounds_toArray, List.set_cons_zero, List.set_cons_succ]
        refine wpAnyH_take (i := 5) (v := .slice al nl cl) rfl (by kernel_rfl) (by kernel_rfl) (by kernel_rfl) (fun _ _ _ h => h) (Or.inl ⟨by rfl, fun W hS => by subst hS; go_simp⟩) hHeld ?_
        simp only [Act.put, List.setIfInBounds_toArray, List.set_cons_zero, List.set_cons_succ]
        refine wpAnyH_take (i := 6) (v := .pointer (some ⟨w.heap.size, 1, none⟩)) rfl (by kernel_rfl) (by kernel_rfl) (by kernel_rfl) (fun _ _ _ h => h) (Or.inl ⟨by rfl, fun W hS => by go_simp⟩) hHeld ?_
        simp only [Act.put, List.setIfInBounds_toArray, List.set_cons_zero, List.set_cons_succ]
        refine wpAnyH_take (i := 7) (v := .slice (some ⟨b2, o2, none⟩) n c2) rfl (by kernel_rfl) (by kernel_rfl) (by kernel_rfl) (fun _ _ _ h => h) (Or.inl ⟨by rfl, fun W hS => by subst hS; go_simp⟩) hHeld ?_
        simp only [Act.put, List.setIfInBounds_toArray, List.set_cons_zero, List.set_cons_succ]
        refine wpAnyH_take (i := 8) (v := .pointer (some ⟨w.heap.size + 1, 1, none⟩)) rfl (by kernel_rfl) (by kernel_rfl) (by kernel_rfl) (fun _ _ _ h => h) (Or.inl ⟨by rfl, fun W hS => by go_simp⟩) hHeld ?_
        simp only [Act.put, List.setIfInBounds_toArray, List.set_cons_zero, List.set_cons_succ]
        refine wpAnyH_take (i := 9) (v := .int .i64 (k : Int)) rfl (by kernel_rfl) (by kernel_rfl) (by kernel_rfl) (fun _ _ _ h => h) (Or.inl ⟨by rfl, fun W hS => by subst hS; go_simp⟩) hHeld ?_
        simp only [Act.put, List.setIfInBounds_toArray, List.set_cons_zero, List.set_cons_succ]
        refine wpAnyH_take (i := 10) (v := .pointer (some ⟨b2, o2 + k, none⟩)) rfl (by kernel_rfl) (by kernel_rfl) (by kernel_rfl) (fun _ _ _ h => h) (Or.inl ⟨by rfl, fun W hS => by go_simp⟩) hHeld ?_
        simp only [Act.put, List.setIfInBounds_toArray, List.set_cons_zero, List.set_cons_succ]
        refine wpAnyH_take (i := 11) (v := .int .i64 ck) rfl (by kernel_rfl) (by kernel_rfl) (by kernel_rfl) (fun _ _ _ h => h) (Or.inl ⟨by rfl, fun W hS => by subst hS; go_simp⟩) hHeld ?_
        simp only [Act.put, List.setIfInBounds_toArray, List.set_cons_zero, List.set_cons_succ]
        refine wpAnyH_take (i := 12) (v := .slice al nl cl) rfl (by kernel_rfl) (by kernel_rfl) (by kernel_rfl) (fun _ _ _ h => h) (Or.inl ⟨by rfl, fun W hS => by go_simp⟩) hHeld ?_
        simp only [Act.put, List.setIfInBounds_toArray, List.set_cons_zero, List.set_cons_succ]
        refine wpAnyH_take (i := 13) (v := .int .i64 ck) rfl (by kernel_rfl) (by kernel_rfl) (by kernel_rfl) (fun _ _ _ h => h) (Or.inl ⟨by rfl, fun W hS => by go_simp⟩) hHeld ?_
        simp only [Act.put, List.setIfInBounds_toArray, List.set_cons_zero, List.set_cons_succ]
        refine wpAnyH_done (by kernel_rfl) ?_ _
        clear hHeld
        go_wp2_with fail
        refine (unhide HPU).mono ?_
        rintro e w6 ⟨vy, rfl, hLy, hB6⟩
        obtain ⟨ay, cy, hvy⟩ := hLy.shape
        obtain ⟨ny, hny⟩ : ∃ ny, (bothL l [⟨nm,bs,ck+1,(k:Int),false⟩]).length = ny := ⟨_, rfl⟩
        rw [hny] at hvy
        subst hvy
        have hBX := (unhide HBF).trans (hB6.mono (unhide HBF).size)
        by_cases hE0 : E = 0
        · subst hE0
          have HK := hide (keep_any (k : Int) ay ny cy w6)
          have HF := hide (keepIn_new (k := k) hLy)
          have HBL := hide (bel_al (bel_al hBX (.cells #[.int .i64 (k : Int)] 3)) (.cells #[.slice ay ny cy] 46))
          have g1' : w6.cell? ⟨w.heap.size + 1, 1, none⟩ = some (.int .i64 (k : Int)) := cell_bel (unhide HG1) hB6 (Nat.le_refl _)
          clear hLy hB6 hny hBX
          go_wp2_with fail
          refine (unhide HK).mono ?_
          rintro e w7 ⟨rfl, rfl⟩
          go_wp2
          go_ret2
          exact ⟨unhide HBL, _, rfl, fun _ => unhide HF⟩
        · obtain ⟨hb0, hb2⟩ := nat_ne hE0
          have HBL := hide hBX
          have HF : Hid (∀ s : Value, E = 0 → CgIn w6 s (.keep k (bothL l [⟨nm,bs,ck+1,(k:Int),false⟩]))) := hide (fun s e => absurd e hE0)
          clear hLy hB6 hny hE0 hBX
          go_wp2
          go_ret2
          exact ⟨unhide HBL, _, rfl, unhide HF _⟩
      · obtain rfl : PF = ⟨nm, [], ck + 1, k, true⟩ := (unhide HPF).symm.trans (by unfold putF; rw [if_pos rfl])
        obtain ⟨F, hF⟩ : ∃ F, w3.heap.size = F := ⟨_, rfl⟩
        have hB5 := bel_al (Below.refl w3.heap.size w3) (.cells #[.string (B nm), .slice ab nb cb, .int .i64 (ck + 1), .int .i64 (k : Int), .bool false] 49)
        have hF5 := heap_alloc_new w3 (.cells #[.string (B nm), .slice ab nb cb, .int .i64 (ck + 1), .int .i64 (k : Int), .bool false] 49)
        have hFl : F < (w3.alloc (.cells #[.string (B nm), .slice ab nb cb, .int .i64 (ck + 1), .int .i64 (k : Int), .bool false] 49)).heap.size := by rw [World.size_alloc]; omega
        have HCN := hide (contains_l (hLD.below hB5) (isIt_any (cell_bel g3 hB5 (Nat.le_refl _))))
        have hany : l.any (fun f => f.name == nm && !f.gone) = hasF l nm := rfl
        rw [hany] at HCN
        have hB5w := hBD.trans (hB5.mono hBD.size)
        have hL5 := hLD.below hB5
        have g15 := cell_bel g1 hB5 (Nat.le_refl _)
        have g0a := cell_bel g0 hB5 (Nat.le_refl _)
        rw [hF] at hF5
        have HLD := hide hLD
        have HG := hide (And.intro hF5 (And.intro hFl (And.intro hB5w (And.intro hL5 (And.intro g15 (And.intro hs3 (And.intro hHD.txt hF)))))))
        have HE5 := hide hE
        clear h1 hz1 hb1 hx0 hx1 hx hnk hck hB2 hB2d hB2w hW2 hL hLD hBD hHD HE hnl hck6 hE HPF hB5 hF5 hFl hany hB5w hL5 g15 hF
        go_upto_region 6 with fail
        refine wp_region_held_drew (S := fun W => W = w3) (by kernel_rfl) (unhide HW3) (fun hHeld => ?_)
        rw [show w2.drew = w3 from unhide HW3] at hHeld ⊢
        refine wpAnyH_take (i := 0) (v := .pointer (some ⟨w.heap.size, 0, none⟩)) rfl (by kernel_rfl) (by kernel_rfl) (by kernel_rfl) (fun _ _ _ h => h) (Or.inl ⟨by rfl, fun W hS => by go_simp⟩) hHeld ?_
        simp only [Act.put, List.setIfInBounds_toArray, List.set_cons_zero, List.set_cons_succ]
        refine wpAnyH_take (i := 1) (v := .slice (some ⟨b1, o1, none⟩) n c1) rfl (by kernel_rfl) (by kernel_rfl) (by kernel_rfl) (fun _ _ _ h => h) (Or.inl ⟨by rfl, fun W hS => by subst hS; go_simp⟩) hHeld ?_
        simp only [Act.put, List.setIfInBounds_toArray, List.set_cons_zero, List.set_cons_succ]
        refine wpAnyH_take (i := 2) (v := .pointer (some ⟨w.heap.size + 1, 1, none⟩)) rfl (by kernel_rfl) (by kernel_rfl) (by kernel_rfl) (fun _ _ _ h => h) (Or.inl ⟨by rfl, fun W hS => by go_simp⟩) hHeld ?_
        simp only [Act.put, List.setIfInBounds_toArray, List.set_cons_zero, List.set_cons_succ]
        refine wpAnyH_take (i := 3) (v := .int .i64 (k : Int)) rfl (by kernel_rfl) (by kernel_rfl) (by kernel_rfl) (fun _ _ _ h => h) (Or.inl ⟨by rfl, fun W hS => by subst hS; go_simp⟩) hHeld ?_
        simp only [Act.put, List.setIfInBounds_toArray, List.set_cons_zero, List.set_cons_succ]
        refine wpAnyH_take (i := 4) (v := .pointer (some ⟨b1, o1 + k, none⟩)) rfl (by kernel_rfl) (by kernel_rfl) (by kernel_rfl) (fun _ _ _ h => h) (Or.inl ⟨by rfl, fun W hS => by go_simp⟩) hHeld ?_
        simp only [Act.put, List.setIfInBounds_toArray, List.set_cons_zero, List.set_cons_succ]
        refine wpAnyH_take (i := 5) (v := .slice al nl cl) rfl (by kernel_rfl) (by kernel_rfl) (by kernel_rfl) (fun _ _ _ h => h) (Or.inl ⟨by rfl, fun W hS => by subst hS; go_simp⟩) hHeld ?_
        simp only [Act.put, List.setIfInBounds_toArray, List.set_cons_zero, List.set_cons_succ]
        refine wpAnyH_take (i := 6) (v := .pointer (some ⟨w.heap.size, 1, none⟩)) rfl (by kernel_rfl) (by kernel_rfl) (by kernel_rfl) (fun _ _ _ h => h) (Or.inl ⟨by rfl, fun W hS => by go_simp⟩) hHeld ?_
        simp only [Act.put, List.setIfInBounds_toArray, List.set_cons_zero, List.set_cons_succ]
        refine wpAnyH_take (i := 7) (v := .slice (some ⟨b2, o2, none⟩) n c2) rfl (by kernel_rfl) (by kernel_rfl) (by kernel_rfl) (fun _ _ _ h => h) (Or.inl ⟨by rfl, fun W hS => by subst hS; go_simp⟩) hHeld ?_
        simp only [Act.put, List.setIfInBounds_toArray, List.set_cons_zero, List.set_cons_succ]
        refine wpAnyH_take (i := 8) (v := .pointer (some ⟨w.heap.size + 1, 1, none⟩)) rfl (by kernel_rfl) (by kernel_rfl) (by kernel_rfl) (fun _ _ _ h => h) (Or.inl ⟨by rfl, fun W hS => by go_simp⟩) hHeld ?_
        simp only [Act.put, List.setIfInBounds_toArray, List.set_cons_zero, List.set_cons_succ]
        refine wpAnyH_take (i := 9) (v := .int .i64 (k : Int)) rfl (by kernel_rfl) (by kernel_rfl) (by kernel_rfl) (fun _ _ _ h => h) (Or.inl ⟨by rfl, fun W hS => by subst hS; go_simp⟩) hHeld ?_
        simp only [Act.put, List.setIfInBounds_toArray, List.set_cons_zero, List.set_cons_succ]
        refine wpAnyH_take (i := 10) (v := .pointer (some ⟨b2, o2 + k, none⟩)) rfl (by kernel_rfl) (by kernel_rfl) (by kernel_rfl) (fun _ _ _ h => h) (Or.inl ⟨by rfl, fun W hS => by go_simp⟩) hHeld ?_
        simp only [Act.put, List.setIfInBounds_toArray, List.set_cons_zero, List.set_cons_succ]
        refine wpAnyH_take (i := 11) (v := .int .i64 ck) rfl (by kernel_rfl) (by kernel_rfl) (by kernel_rfl) (fun _ _ _ h => h) (Or.inl ⟨by rfl, fun W hS => by subst hS; go_simp⟩) hHeld ?_
        simp only [Act.put, List.setIfInBounds_toArray, List.set_cons_zero, List.set_cons_succ]
        refine wpAnyH_take (i := 12) (v := .slice al nl cl) rfl (by kernel_rfl) (by kernel_rfl) (by kernel_rfl) (fun _ _ _ h => h) (Or.inl ⟨by rfl, fun W hS => by go_simp⟩) hHeld ?_
        simp only [Act.put, List.setIfInBounds_toArray, List.set_cons_zero, List.set_cons_succ]
        refine wpAnyH_take (i := 13) (v := .int .i64 ck) rfl (by kernel_rfl) (by kernel_rfl) (by kernel_rfl) (fun _ _ _ h => h) (Or.inl ⟨by rfl, fun W hS => by go_simp⟩) hHeld ?_
        simp only [Act.put, List.setIfInBounds_toArray, List.set_cons_zero, List.set_cons_succ]
        refine wpAnyH_done (by kernel_rfl) ?_ _
        clear hHeld
        go_wp2_with fail
        refine (unhide HCN).mono ?_
        rintro e w5 ⟨rfl, hB5⟩
        obtain ⟨hF5, hFl, hB5w, hL5, g15, hszD, htxt, hF⟩ := unhide HG
        have hBX := hB5w.trans (hB5.mono hB5w.size)
        have hE := unhide HE5
        cases hh : hasF l nm with
        | false =>
          rw [hh, if_pos (by simp)] at hE
          subst hE
          have HBL := hide hBX
          clear hF5 hFl hB5w hL5 g15 hF hBX hB5 HE5 HG hh htxt hszD
          go_wp2
          go_ret2
          exact ⟨unhide HBL, _, rfl, fun e => by cases e⟩
        | true =>
          rw [hh, if_neg (by simp)] at hE
          have hF6 := (hB5.block F hFl).trans hF5
          have hs5 := hB5.size
          have y1 := heap_row (i := 1) hF6
          have y4 := heap_row (i := 4) hF6
          have f1 := frozen_of_row w5 F 1 _ _ hF6
          have z1 := heap_setCell_same w5 F 1 _ _ (.slice none 0 0) hF6
          have y4' := heap_row (i := 4) z1
          have f4 := frozen_of_row _ F 4 _ _ z1
          have z4 := heap_setCell_same _ F 4 _ _ (.bool true) z1
          have s1 := grown_setCell w5 F 1 (.slice none 0 0)
          have s4 := grown_setCell (w5.setCell ⟨F, 1, none⟩ (.slice none 0 0)) F 4 (.bool true)
          have r0 := heap_row (i := 0) z4
          have r1 := heap_row (i := 1) z4
          have r2 := heap_row (i := 2) z4
          have r3 := heap_row (i := 3) z4
          have r4 := heap_row (i := 4) z4
          have s14 := grown_trans s1 s4
          have hFlt : F < w5.heap.size := (Array.getElem?_eq_some_iff.1 hF6).1
          -- the files lie below F
          have hL7 : LIn ((w5.setCell ⟨F, 1, none⟩ (.slice none 0 0)).setCell ⟨F, 4, none⟩ (.bool true)) (.slice al nl cl) l := by
            have hLD := unhide HLD
            have hb7 : Below F w3 ((w5.setCell ⟨F, 1, none⟩ (.slice none 0 0)).setCell ⟨F, 4, none⟩ (.bool true)) := by
              have q1 : Below F w3 w5 := by
                have := (bel_al (Below.refl w3.heap.size w3) (.cells #[.string (B nm), .slice ab nb cb, .int .i64 (ck + 1), .int .i64 (k : Int), .bool false] 49)).trans (hB5.mono (by rw [World.size_alloc]; omega))
                rw [hF] at this
                exact this
              exact q1.grown s14 (by omega) (fun q e => by cases e; exact Nat.le_refl _)
            rw [← hF] at hb7 ⊢
            exact hLD.below hb7
          have hb8 : Below w.heap.size w ((w5.setCell ⟨F, 1, none⟩ (.slice none 0 0)).setCell ⟨F, 4, none⟩ (.bool true)) := hBX.grown s14 (by have := hBX.size; omega) (fun q e => by cases e; omega)
          have HPU := hide (put_file (nb := 0) hL7 (FvIn.bare _ ⟨nm, [], ck + 1, (k : Int), true⟩ rfl (by simpa using htxt)) rfl)
          rw [hE] at HPU
          have HBF := hide hb8
          have g16 : w5.cell? ⟨w.heap.size + 1, 1, none⟩ = some (.int .i64 (k : Int)) := cell_bel g15 hB5 (Nat.le_refl _)
          have HG1 := hide (s14.cell g16 (fun e => by have := Option.some.inj e; simp at this; omega))
          clear hF5 hFl hB5w hL5 g15 hBX hB5 HE5 HG hh htxt hF6 hs5 z1 z4 s1 s4 s14 hFlt hL7 hb8 hE g16 hszD
          subst hF
          go_wp2_with fail
          refine (unhide HPU).mono ?_
          rintro e w6 ⟨vy, rfl, hLy, hB6⟩
          obtain ⟨ay, cy, hvy⟩ := hLy.shape
          obtain ⟨ny, hny⟩ : ∃ ny, (bothL l [⟨nm,[],ck+1,(k:Int),true⟩]).length = ny := ⟨_, rfl⟩
          rw [hny] at hvy
          subst hvy
          have hBX := (unhide HBF).trans (hB6.mono (unhide HBF).size)
          by_cases hE0 : E = 0
          · subst hE0
            have HK := hide (keep_any (k : Int) ay ny cy w6)
            have HF := hide (keepIn_new (k := k) hLy)
            have HBL := hide (bel_al (bel_al hBX (.cells #[.int .i64 (k : Int)] 3)) (.cells #[.slice ay ny cy] 46))
            have g1' : w6.cell? ⟨w.heap.size + 1, 1, none⟩ = some (.int .i64 (k : Int)) := cell_bel (unhide HG1) hB6 (Nat.le_refl _)
            clear hLy hB6 hny hBX
            go_wp2_with fail
            refine (unhide HK).mono ?_
            rintro e w7 ⟨rfl, rfl⟩
            go_wp2
            go_ret2
            exact ⟨unhide HBL, _, rfl, fun _ => unhide HF⟩
          · obtain ⟨hb0, hb2⟩ := nat_ne hE0
            have HBL := hide hBX
            have HF : Hid (∀ s : Value, E = 0 → CgIn w6 s (.keep k (bothL l [⟨nm,[],ck+1,(k:Int),true⟩]))) := hide (fun s e => absurd e hE0)
            clear hLy hB6 hny hE0 hBX
            go_wp2
            go_ret2
            exact ⟨unhide HBL, _, rfl, unhide HF _⟩
  · have hE := unhide HE
    rw [if_pos hE0] at hE
    subst hE
    obtain ⟨hb0, hb2⟩ := nat_ne hE0
    have HB := hide hB2w
    have HF : Hid (∀ s : Value, E1 = 0 → CgIn w2 s (.keep k (bothL l [PF]))) := hide (fun s e => absurd e hE0)
    clear h1 hz1 hb1 hx0 hx1 hx hnk hck hB2 hB2w hE0 HE
    go_wp2
    go_ret2
    exact ⟨unhide HB, _, rfl, unhide HF _⟩
end Go.Proofs.YtmgmganbamjnmaaGreatDoor
