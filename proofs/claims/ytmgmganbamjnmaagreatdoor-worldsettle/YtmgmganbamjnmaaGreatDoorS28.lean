/-
  Package world: what a change is in memory, and what it does.
-/
import Derived.Test.YtmgmganbamjnmaaGreatDoorS27
import Derived.Shelf.Abstract
import Derived.Test.YtmgmganbamjnmaaGreatDoorS8
import Derived.Test.YtmgmganbamjnmaaGreatDoorQ6
namespace Go.Proofs.YtmgmganbamjnmaaGreatDoor
open Go.RowKit
set_option linter.unusedVariables false
set_option linter.unusedSimpArgs false
set_option maxRecDepth 100000

/-- what keep and drop answer, in memory -/
structure KeepIn (w : World) (s : Value) (k : Nat) (l : List Fl) (bf bn : Nat) (v : Value) : Prop where
  is : s = .func (.func 77) #[] #[.pointer (some ⟨bf, 0, none⟩), .pointer (some ⟨bn, 0, none⟩)]
  f : w.cell? ⟨bf, 0, none⟩ = some v
  n : w.cell? ⟨bn, 0, none⟩ = some (.int .i64 (k : Int))
  l : LIn w v l
structure DropIn (w : World) (s : Value) (p bp : Nat) : Prop where
  is : s = .func (.func 79) #[] #[.pointer (some ⟨bp, 0, none⟩)]
  p : w.cell? ⟨bp, 0, none⟩ = some (.int .i64 (p : Int))
theorem cell_lt {w : World} {b i : Nat} {v : Value} (h : w.cell? ⟨b, i, none⟩ = some v) : b < w.heap.size := World.block_lt_of_cell? w ⟨b, i, none⟩ h
theorem cell_bel {w w' : World} {b i B : Nat} {v : Value} (h : w.cell? ⟨b, i, none⟩ = some v) (hB : Below B w w') (hb : w.heap.size ≤ B) : w'.cell? ⟨b, i, none⟩ = some v := (hB.cell (p := ⟨b, i, none⟩) (Nat.lt_of_lt_of_le (cell_lt h) hb)).trans h
theorem KeepIn.below {w w' : World} {s v : Value} {k bf bn : Nat} {l : List Fl} (h : KeepIn w s k l bf bn v) (hB : Below w.heap.size w w') : KeepIn w' s k l bf bn v := ⟨h.is, cell_bel h.f hB (Nat.le_refl _), cell_bel h.n hB (Nat.le_refl _), h.l.below hB⟩
theorem DropIn.below {w w' : World} {s : Value} {p bp : Nat} (h : DropIn w s p bp) (hB : Below w.heap.size w w') : DropIn w' s p bp := ⟨h.is, cell_bel h.p hB (Nat.le_refl _)⟩
/-- a change in memory -/
def CgIn (w : World) (s : Value) : Cg → Prop
  | .keep k l => ∃ bf bn v, KeepIn w s k l bf bn v
  | .pass m => ∃ bm v, s = .func (.func 78) #[] #[.pointer (some ⟨bm, 0, none⟩)] ∧ w.cell? ⟨bm, 0, none⟩ = some (.int .i64 m.dst) ∧ w.cell? ⟨bm, 1, none⟩ = some v ∧ LIn w v m.files
  | .drop p => ∃ bp, DropIn w s p bp
  | .both k l p => ∃ bF bL sF sL bf bn v bp, s = .func (.func 61) #[] #[.pointer (some ⟨bF, 0, none⟩), .pointer (some ⟨bL, 0, none⟩)] ∧ w.cell? ⟨bF, 0, none⟩ = some sF ∧ w.cell? ⟨bL, 0, none⟩ = some sL ∧ KeepIn w sL k l bf bn v ∧ DropIn w sF p bp
theorem CgIn.below {w w' : World} {s : Value} {c : Cg} (h : CgIn w s c) (hB : Below w.heap.size w w') : CgIn w' s c := by
  cases c with
  | keep k l => obtain ⟨bf, bn, v, h⟩ := h; exact ⟨bf, bn, v, h.below hB⟩
  | pass m => obtain ⟨bm, v, h1, h2, h3, h4⟩ := h; exact ⟨bm, v, h1, cell_bel h2 hB (Nat.le_refl _), cell_bel h3 hB (Nat.le_refl _), h4.below hB⟩
  | drop p => obtain ⟨bp, h⟩ := h; exact ⟨bp, h.below hB⟩
  | both k l p => obtain ⟨bF, bL, sF, sL, bf, bn, v, bp, h1, h2, h3, h4, h5⟩ := h; exact ⟨bF, bL, sF, sL, bf, bn, v, bp, h1, cell_bel h2 hB (Nat.le_refl _), cell_bel h3 hB (Nat.le_refl _), h4.below hB, h5.below hB⟩
/-- a change that can be done -/
def Cg.fits : Cg → Wd → Prop
  | .keep k l, W => k < W.nodes.length ∧ W.clock.length = W.nodes.length
  | .pass m, W => True
  | .drop p, W => p < W.net.length
  | .both k l p, W => k < W.nodes.length ∧ W.clock.length = W.nodes.length ∧ p < W.net.length
set_option maxHeartbeats 4000000 in
theorem both1_any {w : World} {B bF bL bf bn bp k p : Nat} {vn vc vm sF sL v : Value} {ns : List Lv} {cs : List Int} {ms : List Mv} {l : List Fl} (h : OW w B vn vc vm ns cs ms) (hB : B ≤ w.heap.size) (hk : k < ns.length) (hk2 : cs.length = ns.length) (hlim : ns.length ≤ 1000) (hp : p < ms.length) (hlm : ms.length ≤ 1000)
    (hF : w.cell? ⟨bF, 0, none⟩ = some sF) (hL : w.cell? ⟨bL, 0, none⟩ = some sL) (hbF : bF < B) (hbL : bL < B) (hbf : bf < B) (hbn : bn < B) (hbp : bp < B) (hK : KeepIn w sL k l bf bn v) (hD : DropIn w sF p bp) :
    Calls Tryz.prog 61 #[.agg #[vn, vc, vm], .pointer (some ⟨bF, 0, none⟩), .pointer (some ⟨bL, 0, none⟩)] w fun e w' => ∃ vm' y, y.l = l ∧ e = .returned (.agg #[vn, vc, vm']) ∧ OW w' B vn vc vm' (ns.set k y) (cs.set k (rsd (cs.getD k 0) l)) (ms.eraseIdx p) ∧ Below B w w' := by
  obtain ⟨m, hm⟩ : ∃ m, ms.length = m := ⟨_, rfl⟩
  obtain ⟨an, cn, hvn⟩ := h.n.sl
  obtain ⟨ac, cc, hvc⟩ := h.c.sl
  obtain ⟨am, cm, hvm⟩ := h.m.sl
  obtain ⟨n, hn⟩ : ∃ n, ns.length = n := ⟨_, rfl⟩
  obtain ⟨q, hq⟩ : ∃ q, cs.length = q := ⟨_, rfl⟩
  rw [hn] at hvn
  rw [hq] at hvc
  rw [hm] at hvm
  subst hvn hvc hvm
  obtain ⟨w1, hw1, hz1, hb1, hx0, hx1⟩ := two_boxes w (.slice an n cn) (.slice ac q cc) (.slice am m cm)
  have h1 := (h.below hb1).below (below_drewN (Below.refl w1.heap.size w1) 1)
  have hbd : Below w.heap.size w w1.drew := below_drewN hb1 1
  have hK1 := hK.below hbd
  have hD1 := hD.below hbd
  have hF1 := cell_bel hF hbd (Nat.le_refl _)
  have hL1 := cell_bel hL hbd (Nat.le_refl _)
  have HC := hide (keep1_any (k := k) h1 (by show B ≤ w1.heap.size; omega) hk hk2 hlim hK1.n hK1.f hbn hbf hK1.l)
  have hisK := hK.is
  have hisD := hD.is
  subst hisK hisD
  have q0 : w1.drew.cell? ⟨w.heap.size, 0, none⟩ = some (.slice an n cn) := heap_row (i := 0) hx0
  have q1 : w1.drew.cell? ⟨w.heap.size, 1, none⟩ = some (.slice ac q cc) := heap_row (i := 1) hx0
  have q2 : w1.drew.cell? ⟨w.heap.size, 2, none⟩ = some (.slice am m cm) := heap_row (i := 2) hx0
  have HX := hide (And.intro hx0 (And.intro hx1 (And.intro hz1 (And.intro hb1 (And.intro hB (And.intro hbF (And.intro hbL (And.intro hbp (And.intro hF1 (And.intro hL1 (And.intro hD1 (And.intro hp hlm))))))))))))
  have HM := hide hm
  have HW1 := hide hw1
  clear h h1 hm hn hq hx0 hx1 hz1 hb1 hw1 hB hbF hbL hbp hbf hbn hF hL hK hD hK1 hD1 hF1 hL1 hbd hk hk2 hlim hp hlm
  go_enter Tryz.func61, Tryz.ntmps61
  go_upto_region 1 with fail
  rw [show (w.alloc (wbox (.slice an n cn) (.slice ac q cc) (.slice am m cm))).alloc (wbox (.slice none 0 0) (.slice none 0 0) (.slice none 0 0)) = w1 from unhide HW1]
  obtain ⟨hx0, hx1, hz1, hb1, hB, hbF, hbL, hbp, hF1, hL1, hD1, hp, hlm⟩ := unhide HX
  clear HX HW1
  refine wp_region_held_drew (S := fun W => W.cell? ⟨bF, 0, none⟩ = some (.func (.func 79) #[] #[.pointer (some ⟨bp, 0, none⟩)]) ∧ W.cell? ⟨bL, 0, none⟩ = some (.func (.func 77) #[] #[.pointer (some ⟨bf, 0, none⟩), .pointer (some ⟨bn, 0, none⟩)])) (by kernel_rfl) ⟨hF1, hL1⟩ (fun hHeld => ?_)
  refine wpAnyH_take (i := 0) (v := .func (.func 79) #[] #[.pointer (some ⟨bp, 0, none⟩)]) rfl (by kernel_rfl) (by kernel_rfl) (by kernel_rfl) (fun _ _ _ h => h) (Or.inl ⟨by rfl, fun W hS => by obtain ⟨z1, z2⟩ := hS; go_simp⟩) hHeld ?_
  simp only [Act.put, List.setIfInBounds_toArray, List.set_cons_zero, List.set_cons_succ]
  refine wpAnyH_take (i := 1) (v := .func (.func 77) #[] #[.pointer (some ⟨bf, 0, none⟩), .pointer (some ⟨bn, 0, none⟩)]) rfl (by kernel_rfl) (by kernel_rfl) (by kernel_rfl) (fun _ _ _ h => h) (Or.inl ⟨by rfl, fun W hS => by obtain ⟨z1, z2⟩ := hS; go_simp⟩) hHeld ?_
  simp only [Act.put, List.setIfInBounds_toArray, List.set_cons_zero, List.set_cons_succ]
  refine wpAnyH_ready (rs := [2]) (by kernel_rfl) (by simp) (AllReadyH.cons rfl (fun K hK => ?_) AllReadyH.nil)
  go_simp
  refine hK.out _ _ hHeld (fun hHeld => ?_)
  clear hK K
  refine wpAnyH_ready (rs := [3]) (by kernel_rfl) (by simp) (AllReadyH.cons rfl (fun K hK => ?_) AllReadyH.nil)
  go_simp
  refine (unhide HC).mono ?_
  rintro e w4 ⟨y, hy, rfl, h4, hB4, hW4⟩
  replace hB4 : Below B w1 w4 := (below_drewN (Below.refl B w1) 1).trans hB4
  replace hW4 : KpW w1 w4 := hW4
  dsimp only
  have hS4 := And.intro ((hB4.cell (p := ⟨bF, 0, none⟩) hbF).trans hF1) ((hB4.cell (p := ⟨bL, 0, none⟩) hbL).trans hL1)
  refine hK.out _ _ hS4 (fun hHeld => ?_)
  clear hK K
  have hp4 : w4.cell? ⟨bp, 0, none⟩ = some (.int .i64 (p : Int)) := (hB4.cell (p := ⟨bp, 0, none⟩) hbp).trans hD1.p
  have hs4 := hB4.size
  have HD := hide (drop1_any h4 (by omega) (by rw [unhide HM]; rw [unhide HM] at hp; exact hp) (by omega) hp4 hbp)
  refine wpAnyH_ready (rs := [4]) (by kernel_rfl) (by simp) (AllReadyH.cons rfl (fun K hK => ?_) AllReadyH.nil)
  go_simp
  refine (unhide HD).mono ?_
  rintro e w5 ⟨vm', rfl, h5, hB5, hW5⟩
  dsimp only
  have hS5 := And.intro ((hB5.cell (p := ⟨bF, 0, none⟩) hbF).trans hS4.1) ((hB5.cell (p := ⟨bL, 0, none⟩) hbL).trans hS4.2)
  refine hK.out _ _ hS5 (fun hHeld => ?_)
  clear hK K
  have hx5 := (hW4.trans hW5) _ _ _ hx1
  obtain ⟨a5, c5, hv5⟩ := h5.m.sl
  obtain ⟨m5, hm5⟩ : ∃ m5, (ms.eraseIdx p).length = m5 := ⟨_, rfl⟩
  rw [hm5] at hv5
  subst hv5
  obtain ⟨p1, p2⟩ := put3 (.slice an n cn) (.slice ac q cc) (.slice a5 m5 c5) hx5
  have h6 := h5.offT p2 hx5 (nf3 hx5) (by decide) (by decide) (by decide)
  have hB6 : Below B w _ := ((hb1.mono hB).trans (hB4.trans hB5)).grown p2 (by have := hB5.size; omega) (fun q e => by cases e; omega)
  have hS6 := And.intro (p2.cell hS5.1 (fun e => by have := Option.some.inj e; simp at this; omega)) (p2.cell hS5.2 (fun e => by have := Option.some.inj e; simp at this; omega))
  have c0 := heap_row (i := 0) hx5
  have c1 := heap_row (i := 1) hx5
  have c2 := heap_row (i := 2) hx5
  have f0 := frozen_of_row _ _ 0 _ _ hx5
  have f1 := frozen_of_row _ _ 1 _ _ hx5
  have f2 := frozen_of_row _ _ 2 _ _ hx5
  have HP := hide p1
  have H6 := hide h6
  have HB6 := hide hB6
  have HS6 := hide hS6
  have HY := hide hy
  clear h4 h5 hB4 hB5 hW4 hW5 hx5 p1 p2 h6 hB6 hS4 hS5 hS6 hx0 hx1 hb1 hF1 hL1 hD1 hp4 HD HC hy hp hlm q0 q1 q2 hm5 hs4 hB hbF hbL hbp hz1
  refine wpAnyH_ready (rs := [5]) (by kernel_rfl) (by simp) (AllReadyH.cons rfl (fun K hK => ?_) AllReadyH.nil)
  go_simp
  refine hK.out _ _ (unhide HS6) (fun _ => ?_)
  clear hK K hHeld c0 c1 c2 f0 f1 f2
  refine wpAnyH_done (by kernel_rfl) ?_ _
  go_wp2
  refine bodyPost_ret (v := .agg #[.slice an n cn, .slice ac q cc, .slice a5 m5 c5]) ?_ rfl ⟨_, y, unhide HY, rfl, unhide H6, unhide HB6⟩
  exact results_cell_row rfl _ _ _ _ _ _ _ rfl (unhide HP) Tryz.underlying26 rfl (by kernel_rfl)
end Go.Proofs.YtmgmganbamjnmaaGreatDoor

/-
  The library's slices.IndexFunc and slices.ContainsFunc over files, asked by any function.
-/
namespace Go.Proofs.YtmgmganbamjnmaaGreatDoor
open Go.RowKit
set_option linter.unusedVariables false
set_option linter.unusedSimpArgs false
set_option maxRecDepth 100000
/-- a function of files, in memory -/
structure FnIs (w : World) (kf : Nat) (cp : Value) (p : Fl → Bool) : Prop where
  en : ∀ (args : Array Value) (w : World), (callFunc kf args).run Tryz.prog w = .ok (.enter kf args) w
  is : ∀ (y : Fv) (W : World), Below w.heap.size w W → Calls Tryz.prog kf #[y.val, cp] W fun e w' => e = .returned (.bool (p y.f)) ∧ Below W.heap.size W w'
/-- where the first one lies -/
def Found (p : Fl → Bool) (l : List Fl) (r : Int) : Prop := (r = -1 ∧ ∀ f ∈ l, p f = false) ∨ ∃ (i : Nat) (f : Fl), r = (i : Int) ∧ l[i]? = some f ∧ p f = true ∧ ∀ j g, j < i → l[j]? = some g → p g = false
set_option maxHeartbeats 2000000 in
theorem indexFn_any {kf : Nat} {cp : Value} {p : Fl → Bool} (bd : Option Addr) (d : Nat) (ys : List Fv) (w : World) (k : FsIn w bd d ys) (m : Nat) (hm : ys.length = m) (hf : FnIs w kf cp p) :
    Calls Tryz.prog 33 #[.slice bd m d, .func (.func kf) #[] #[cp]] w fun e w' => ∃ r : Int, e = .returned (.int .i64 r) ∧ Found p (fls ys) r ∧ Below w.heap.size w w' := by
  have HK := hide k
  have HM := hide hm
  have hlim := k.lim
  rw [hm] at hlim
  have HP := hide hf.is
  have hen := hf.en
  clear k hm hf
  go_enter Tryz.func33, Tryz.ntmps33
  go_wp2
  go_loopw [5, 8] (fun _ i wr => ∃ k : Nat, k ≤ m ∧ i = .int .i64 (k : Int) ∧ Hid (∀ (j : Nat) (g : Fl), j < k → (fls ys)[j]? = some g → p g = false) ∧ Hid (Below w.heap.size w wr)) (fun _ i _ => m - (intOf i).toNat)
  case atStart => exact ⟨0, Nat.zero_le _, rfl, hide (fun j g hj => by omega), Below.refl _ _⟩
  case round =>
    obtain ⟨k, hk, rfl, HL, HB⟩ := hrel
    by_cases hlt : k < m
    · obtain ⟨y, hy, hym⟩ := get_of (xs := ys) (k := k) (by rw [unhide HM]; exact hlt)
      obtain ⟨b, o, hA, hb, c0, c1, c2, c3, c4⟩ := (unhide HK).get (unhide HB) hy
      have hyf : (fls ys)[k]? = some y.f := by simp [fls, hy]
      have HYF := hide hyf
      have HPY := hide (unhide HP y wr (unhide HB))
      rw [val_is] at HPY
      have hys : y.sl = .slice y.a y.f.bytes.length y.c := rfl
      rw [hys] at c1
      obtain ⟨q, hq⟩ : ∃ q, p y.f = q := ⟨_, rfl⟩
      rw [hq] at HPY
      have HQ := hide hq
      clear hyf hys hq hy hym
      subst hA
      generalize B y.f.name = t at *
      generalize y.f.bytes.length = n2 at *
      generalize y.f.stamp = s2 at *
      generalize y.f.node = d2 at *
      generalize y.f.gone = g2 at *
      go_wp2_with fail
      refine (unhide HPY).mono ?_
      rintro e w1 ⟨rfl, hb1⟩
      have HB1 := hide ((unhide HB).trans (hb1.mono (unhide HB).size))
      clear hb1
      cases q with
      | true =>
        go_wp2
        go_ret
        exact ⟨k, rfl, .inr ⟨k, y.f, rfl, unhide HYF, unhide HQ, unhide HL⟩, unhide HB1⟩
      | false =>
        have HL2 : Hid (∀ (j : Nat) (g : Fl), j < k + 1 → (fls ys)[j]? = some g → p g = false) := hide (fun j g hj hg => by
          by_cases hjk : j < k
          · exact unhide HL j g hjk hg
          · obtain rfl : j = k := by omega
            rw [unhide HYF] at hg
            cases hg
            exact unhide HQ)
        go_wp2
        go_roundw
        case rel => exact ⟨k + 1, by omega, by go_num, HL2, unhide HB1⟩
        case measure => simp [intOf]; omega
    · obtain rfl : m = k := by omega
      have HF : Hid (∀ f ∈ fls ys, p f = false) := hide (fun f hf => by
        obtain ⟨j, hj⟩ := List.getElem?_of_mem hf
        have hjl := (List.getElem?_eq_some_iff.1 hj).1
        exact unhide HL j f (by simp [fls] at hjl; rw [unhide HM] at hjl; exact hjl) hj)
      go_wp2
      go_ret
      exact ⟨-1, rfl, .inl ⟨rfl, unhide HF⟩, unhide HB⟩
theorem index_l {w : World} {v : Value} {l : List Fl} {kf : Nat} {cp : Value} {p : Fl → Bool} (h : LIn w v l) (hf : FnIs w kf cp p) :
    Calls Tryz.prog 33 #[v, .func (.func kf) #[] #[cp]] w fun e w' => ∃ r : Int, e = .returned (.int .i64 r) ∧ Found p l r ∧ Below w.heap.size w w' := by
  obtain ⟨ad, c, out, rfl, h2, h3⟩ := h
  have := indexFn_any ad c out w h2 _ (fls_len h3) hf
  rw [h3] at this
  exact this
theorem contains_l {w : World} {v : Value} {l : List Fl} {kf : Nat} {cp : Value} {p : Fl → Bool} (h : LIn w v l) (hf : FnIs w kf cp p) :
    Calls Tryz.prog 56 #[v, .func (.func kf) #[] #[cp]] w fun e w' => e = .returned (.bool (l.any p)) ∧ Below w.heap.size w w' := by
  have HI := hide (index_l h hf)
  obtain ⟨a, c, hv⟩ := h.shape
  obtain ⟨n, hn⟩ : ∃ n, l.length = n := ⟨_, rfl⟩
  rw [hn] at hv
  subst hv
  obtain ⟨Q, hQ⟩ : ∃ Q, l.any p = Q := ⟨_, rfl⟩
  rw [hQ]
  have HQ := hide hQ
  clear h hf hn hQ
  go_enter Tryz.func56, Tryz.ntmps56
  go_wp2_with fail
  refine (unhide HI).mono ?_
  rintro e w1 ⟨r, rfl, hr, hB⟩
  have HB := hide hB
  rcases hr with ⟨rfl, hr⟩ | ⟨i, f, rfl, h1, h2, _⟩
  · have e : l.any p = false := by rw [List.any_eq_false]; intro x hx; rw [hr x hx]; decide
    obtain rfl : Q = false := (unhide HQ).symm.trans e
    clear hB hr e
    go_wp2
    go_ret
    exact ⟨rfl, unhide HB⟩
  · have e : l.any p = true := List.any_eq_true.2 ⟨f, List.mem_of_getElem? h1, h2⟩
    obtain rfl : Q = true := (unhide HQ).symm.trans e
    have hi : (0 : Int) ≤ (i : Int) := by omega
    clear hB h1 h2 e
    go_wp2
    go_ret
    exact ⟨rfl, unhide HB⟩
end Go.Proofs.YtmgmganbamjnmaaGreatDoor

/-
  Both of two slices of files.
-/
namespace Go.Proofs.YtmgmganbamjnmaaGreatDoor
open Go.RowKit
set_option linter.unusedVariables false
set_option maxRecDepth 100000
theorem both_l {w : World} {v u : Value} {a b : List Fl} (h : LIn w v a) (k : LIn w u b) :
    Calls Tryz.prog 35 #[v, u] w fun e w' => ∃ x, e = .returned (.tuple #[x, .int .i64 (bothE a b : Nat)]) ∧ LIn w' x (bothL a b) ∧ Below w.heap.size w w' := by
  obtain ⟨ad, c, out, rfl, h2, h3⟩ := h
  obtain ⟨bd, d, out', rfl, k2, k3⟩ := k
  refine (both_any ad bd c d out out' w h2 k2 _ _ (fls_len h3) (fls_len k3)).mono ?_
  rintro e w' ⟨x, rfl, ha⟩
  rw [h3, k3] at ha ⊢
  exact ⟨x, rfl, ha.lin, ha.bel⟩
end Go.Proofs.YtmgmganbamjnmaaGreatDoor

/-
  Package merge: Put.
-/
namespace Go.Proofs.YtmgmganbamjnmaaGreatDoor
open Go.RowKit
set_option linter.unusedVariables false
set_option maxRecDepth 100000

/-- one file, as a slice of its own -/
theorem one_lin {w : World} {x : Fv} (h : FvIn w x) : LIn (w.alloc (.cells x.cells.toArray 49)) (.slice (some ⟨w.heap.size, 0, none⟩) 1 1) [x.f] := by
  have := FsIn.new w [x] 49 x.cells.toArray 1 (by rw [fcells_one]) rfl (fun y hy => by simp at hy; subst hy; exact h) (by simp)
  exact lin_of this rfl
theorem put_l {w : World} {v : Value} {a : List Fl} {x : Fv} (h : LIn w v a) (hx : FvIn w x) :
    Calls Tryz.prog 57 #[v, x.val] w fun e w' => ∃ y, e = .returned (.tuple #[y, .int .i64 (bothE a [x.f] : Nat)]) ∧ LIn w' y (bothL a [x.f]) ∧ Below w.heap.size w w' := by
  have hb1 := bel_al (Below.refl w.heap.size w) (.cells x.cells.toArray 49)
  have hx1 := hx.below hb1 (Nat.le_refl _)
  have h1 := one_lin hx1
  have hb2 := bel_al hb1 (.cells x.cells.toArray 49)
  have HC := hide (both_l (h.below hb2) h1)
  have HB2 := hide hb2
  have hc : x.cells.toArray = #[.string (B x.f.name), .slice x.a x.f.bytes.length x.c, .int .i64 x.f.stamp, .int .i64 x.f.node, .bool x.f.gone] := rfl
  rw [hc, World.size_alloc] at HC
  rw [hc] at HB2
  rw [val_is]
  clear h1 hb1 hb2 hx1 hc h hx
  generalize bothE a [x.f] = E at *
  generalize bothL a [x.f] = L at *
  generalize B x.f.name = t at *
  generalize x.f.bytes.length = n at *
  go_enter Tryz.func57, Tryz.ntmps57
  go_wp2_with fail
  refine (unhide HC).mono ?_
  rintro e w1 ⟨y, rfl, hl, hb⟩
  have HL := hide hl
  have HB := hide ((unhide HB2).trans (hb.mono (unhide HB2).size))
  clear hl hb
  go_wp2
  go_ret2
  exact ⟨_, rfl, unhide HL, unhide HB⟩
end Go.Proofs.YtmgmganbamjnmaaGreatDoor
