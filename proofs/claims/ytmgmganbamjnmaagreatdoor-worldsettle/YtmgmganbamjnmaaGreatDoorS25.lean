/-
  Package world: keep, and what it answers.
-/
import Derived.Test.YtmgmganbamjnmaaGreatDoorS13
namespace Go.Proofs.YtmgmganbamjnmaaGreatDoor
open Go.RowKit
set_option linter.unusedVariables false
set_option linter.unusedSimpArgs false
set_option maxRecDepth 100000

theorem TRow.store {w : World} {B T n g cap k : Nat} {xs : List Value} (h : TRow w B T 1 (.slice (some ⟨g, 0, none⟩) n cap) n xs) (u : Value) (hu : nfv u = true) : TRow (w.setCell ⟨g, k, none⟩ u) B T 1 (.slice (some ⟨g, 0, none⟩) n cap) n (xs.set k u) := by
  refine ⟨(h.own.stored k u).1, fun g' e => ?_⟩
  cases e
  obtain ⟨cs, hcs⟩ := own_ty h.own rfl
  refine NFb.row (heap_setCell_same w g k cs T u hcs) ?_
  intro x hx
  have hold := h.nf g rfl
  rw [Array.toList_setIfInBounds] at hx
  rcases List.mem_or_eq_of_mem_set hx with hx | rfl
  · obtain ⟨j, hj⟩ := List.getElem?_of_mem hx
    refine hold j x ?_
    rw [heap_row hcs]
    simpa using hj
  · exact hu
theorem OW.offT {w w' : World} {B g : Nat} {vn vc vm : Value} {ns : List Lv} {cs : List Int} {ms : List Mv} {A : Array Value} {T : TypeId} (h : OW w B vn vc vm ns cs ms) (hg : w.grownBy w' (some g)) (hb : w.heap[g]? = some (.cells A T (0, 0))) (hn : NFb w g) (h1 : 46 ≠ T) (h2 : 3 ≠ T) (h3 : 54 ≠ T) : OW w' B vn vc vm ns cs ms := by
  have hnf : ∀ q, some g = some q → NFb w q := fun q e => by cases e; exact hn
  exact ⟨h.n.kept hg (.inr (h.n.neb hb h1)), h.c.kept hg (.inr (h.c.neb hb h2)), h.m.kept hg (.inr (h.m.neb hb h3)), fun x hx => (h.la x hx).offN hg hnf, fun x hx => (h.ma x hx).offN hg hnf⟩
/-- worlds in boxes stay -/
def KpW (w w' : World) : Prop := ∀ (g : Nat) (cs : Array Value) (fz : Nat × Nat), w.heap[g]? = some (.cells cs 26 fz) → w'.heap[g]? = some (.cells cs 26 fz)
theorem KpW.below {w w' : World} (h : Below w.heap.size w w') : KpW w w' := fun g cs fz hg => (h.block g (Array.getElem?_eq_some_iff.1 hg).1).trans hg
theorem KpW.trans {a b c : World} (h : KpW a b) (k : KpW b c) : KpW a c := fun g cs fz hg => k g cs fz (h g cs fz hg)
theorem KpW.grown {w W W' : World} {r : Option Nat} (h : KpW w W) (hg : W.grownBy W' r) (hr : ∀ g, r = some g → ∀ cs fz, w.heap[g]? ≠ some (.cells cs 26 fz)) : KpW w W' := fun g cs fz hc => by
  have h1 := h g cs fz hc
  rw [hg.block g (Array.getElem?_eq_some_iff.1 h1).1 (fun e => hr g e.symm cs fz hc)]
  exact h1
theorem KpW.new {w W W' : World} {g : Nat} (h : KpW w W) (hg : W.grownBy W' (some g)) (hl : w.heap.size ≤ g) : KpW w W' := h.grown hg (fun q e cs fz hc => by cases e; have := (Array.getElem?_eq_some_iff.1 hc).1; omega)
theorem KpW.row {w W W' : World} {B T k n : Nat} {v : Value} {cs : List Value} (h : KpW w W) (hT : TRow w B T k v n cs) (hg : W.grownBy W' v.ownBlock) (hne : T ≠ 26) : KpW w W' := h.grown hg (fun q e cs fz hc => by
  obtain ⟨c1, h1⟩ := own_ty hT.own e
  rw [h1] at hc
  cases hc
  exact hne rfl)
theorem keep_any (k : Int) (a : Option Addr) (n c : Nat) (w : World) :
    Calls Tryz.prog 58 #[.int .i64 k, .slice a n c] w fun e w' => e = .returned (.func (.func 77) #[] #[.pointer (some ⟨w.heap.size + 1, 0, none⟩), .pointer (some ⟨w.heap.size, 0, none⟩)]) ∧ w' = (w.alloc (.cells #[.int .i64 k] 3)).alloc (.cells #[.slice a n c] 46) := by
  go_enter Tryz.func58, Tryz.ntmps58
  go_wp2
  go_ret
  exact ⟨rfl, rfl⟩
theorem lvs_set (ns : List Lv) (k : Nat) (y : Lv) : lvs (ns.set k y) = (lvs ns).set k y.val := by simp [lvs, List.map_set]
theorem iv_set (xs : List Int) (k : Nat) (y : Int) : iv (xs.set k y) = (iv xs).set k (.int .i64 y) := by simp [iv, List.map_set]
theorem OW.setN {w : World} {B g n cap k : Nat} {vc vm : Value} {ns : List Lv} {cs : List Int} {ms : List Mv} {y : Lv} (h : OW w B (.slice (some ⟨g, 0, none⟩) n cap) vc vm ns cs ms) (hn : ns.length = n) (hy : LIn w y.val y.l) :
    OW (w.setCell ⟨g, k, none⟩ y.val) B (.slice (some ⟨g, 0, none⟩) n cap) vc vm (ns.set k y) cs ms := by
  have hs := grown_setCell w g k y.val
  have hnf : ∀ q, some g = some q → NFb w q := fun q e => by cases e; exact h.n.nf g rfl
  have hC := h.c.ne h.n (by decide)
  have hM := h.m.ne h.n (by decide)
  refine ⟨?_, h.c.kept hs hC, h.m.kept hs hM, fun x hx => ?_, fun x hx => (h.ma x hx).offN hs hnf⟩
  · rw [lvs_set, List.length_set]
    have := h.n
    rw [hn] at this ⊢
    exact this.store y.val rfl
  · rcases List.mem_or_eq_of_mem_set hx with hx | rfl
    · exact (h.la x hx).offN hs hnf
    · exact hy.offN hs hnf
theorem OW.setC {w : World} {B g n cap k : Nat} {vn vm : Value} {ns : List Lv} {cs : List Int} {ms : List Mv} {y : Int} (h : OW w B vn (.slice (some ⟨g, 0, none⟩) n cap) vm ns cs ms) (hn : cs.length = n) :
    OW (w.setCell ⟨g, k, none⟩ (.int .i64 y)) B vn (.slice (some ⟨g, 0, none⟩) n cap) vm ns (cs.set k y) ms := by
  have hs := grown_setCell w g k (.int .i64 y)
  have hnf : ∀ q, some g = some q → NFb w q := fun q e => by cases e; exact h.c.nf g rfl
  have hN := h.n.ne h.c (by decide)
  have hM := h.m.ne h.c (by decide)
  refine ⟨h.n.kept hs hN, ?_, h.m.kept hs hM, fun x hx => (h.la x hx).offN hs hnf, fun x hx => (h.ma x hx).offN hs hnf⟩
  rw [iv_set, List.length_set]
  have := h.c
  rw [hn] at this ⊢
  exact this.store (.int .i64 y) rfl
theorem TRow.at1 {w : World} {B T n g cap k : Nat} {xs : List Value} {u : Value} (h : TRow w B T 1 (.slice (some ⟨g, 0, none⟩) n cap) n xs) (hk : k < n) (hu : xs[k]? = some u) : w.cell? ⟨g, k, none⟩ = some u ∧ w.frozen? ⟨g, k, none⟩ = false := ⟨by rw [h.own.cellAt k (by omega)]; exact hu, h.own.frozenAt k⟩
set_option maxHeartbeats 4000000 in
theorem keep1_any {w : World} {B bf bn : Nat} {vn vc vm v : Value} {ns : List Lv} {cs : List Int} {ms : List Mv} {k : Nat} {l : List Fl} (h : OW w B vn vc vm ns cs ms) (hB : B ≤ w.heap.size) (hk : k < ns.length) (hk2 : cs.length = ns.length) (hlim : ns.length ≤ 1000)
    (hcn : w.cell? ⟨bn, 0, none⟩ = some (.int .i64 (k : Int))) (hcf : w.cell? ⟨bf, 0, none⟩ = some v) (hbn : bn < B) (hbf : bf < B) (hl : LIn w v l) :
    Calls Tryz.prog 77 #[.agg #[vn, vc, vm], .pointer (some ⟨bf, 0, none⟩), .pointer (some ⟨bn, 0, none⟩)] w fun e w' => ∃ y : Lv, y.l = l ∧ e = .returned (.agg #[vn, vc, vm]) ∧ OW w' B vn vc vm (ns.set k y) (cs.set k (rsd (cs.getD k 0) l)) ms ∧ Below B w w' ∧ KpW w w' := by
  obtain ⟨n, hn⟩ : ∃ n, ns.length = n := ⟨_, rfl⟩
  rw [hn] at hk hk2 hlim
  obtain ⟨gn, capn, hvn, hg1, hg2⟩ := own_shape h.n.own (by omega)
  obtain ⟨gc, capc, hvc, hg3, hg4⟩ := own_shape h.c.own (by omega)
  rw [hn] at hvn
  rw [hk2] at hvc
  subst hvn hvc
  obtain ⟨am, cm, hvm⟩ := h.m.sl
  obtain ⟨m, hm⟩ : ∃ m, ms.length = m := ⟨_, rfl⟩
  rw [hm] at hvm
  subst hvm
  obtain ⟨y, hyl, hyv⟩ := hl.lv
  obtain ⟨w1, hw1, hz1, hb1, hx0, hx1⟩ := two_boxes w (.slice (some ⟨gn, 0, none⟩) n capn) (.slice (some ⟨gc, 0, none⟩) n capc) (.slice am m cm)
  have h1 := h.below hb1
  obtain ⟨lk, hlk⟩ := get_some (l := ns) (k := k) (by omega)
  obtain ⟨ck, hck⟩ := get_some (l := cs) (k := k) (by omega)
  have hck0 : cs.getD k 0 = ck := by simp [List.getD, hck]
  have n0 := (by have := h1.n; rw [hn] at this; exact this.at1 hk (by unfold lvs; rw [List.getElem?_map, hlk]; rfl) : _ ∧ _)
  obtain ⟨R, hR⟩ : ∃ R, rsd (cs.getD k 0) l = R := ⟨_, rfl⟩
  have hy1 : LIn w1 y.val y.l := by rw [hyl, hyv]; exact hl.below hb1
  have h2 := h1.setN (k := k) hn hy1
  rw [hyv] at h2
  have c0 := (by have := h2.c; rw [hk2] at this; exact this.at1 hk (by unfold iv; rw [List.getElem?_map, hck]; rfl) : _ ∧ _)
  obtain ⟨af, cf, hvf⟩ := hl.shape
  obtain ⟨nl, hnl⟩ : ∃ nl, l.length = nl := ⟨_, rfl⟩
  rw [hnl] at hvf
  subst hvf
  have s12 := grown_setCell w1 gn k (.slice af nl cf)
  have hl2 : LIn (w1.setCell ⟨gn, k, none⟩ (.slice af nl cf)) (.slice af nl cf) l := (hl.below hb1).offN s12 (fun q e => by cases e; exact h1.n.nf gn rfl)
  -- the cells that stay
  have st : ∀ {b i : Nat} {u : Value}, b ≠ gn → b < w1.heap.size → w1.cell? ⟨b, i, none⟩ = some u → (w1.setCell ⟨gn, k, none⟩ (.slice af nl cf)).cell? ⟨b, i, none⟩ = some u := fun hne hlt hc => s12.cell hc (fun e => hne (Option.some.inj e))
  have q0 := heap_row (i := 0) hx0
  have q1 := heap_row (i := 1) hx0
  have q2 := heap_row (i := 2) hx0
  have hcn1 : w1.cell? ⟨bn, 0, none⟩ = some (.int .i64 (k : Int)) := (hb1.cell (p := ⟨bn, 0, none⟩) (by show bn < _; omega)).trans hcn
  have hcf1 : w1.cell? ⟨bf, 0, none⟩ = some (.slice af nl cf) := (hb1.cell (p := ⟨bf, 0, none⟩) (by show bf < _; omega)).trans hcf
  have p1 := st (by omega) (by omega) q1
  have p2 := st (by omega) (by omega) hcn1
  have p3 := st (by omega) (by omega) hcf1
  have hx02 := (s12.block w.heap.size (by omega) (fun e => by have := Option.some.inj e; omega)).trans hx0
  have hx12 := (s12.block (w.heap.size + 1) (by omega) (fun e => by have := Option.some.inj e; omega)).trans hx1
  have hz2 : (w1.setCell ⟨gn, k, none⟩ (.slice af nl cf)).heap.size = w.heap.size + 2 := by simp [hz1]
  have hB2 : Below B w (w1.setCell ⟨gn, k, none⟩ (.slice af nl cf)) := (hb1.mono hB).grown s12 (by omega) (fun q e => by cases e; exact hg1)
  have kw2 : KpW w (w1.setCell ⟨gn, k, none⟩ (.slice af nl cf)) := KpW.row (KpW.below hb1) h.n s12 (by decide)
  have HKC := hide (fun (W W' : World) (k1 : KpW w W) (k2 : W.grownBy W' (some gc)) => KpW.row (v := .slice (some ⟨gc, 0, none⟩) n capc) k1 h.c k2 (by decide))
  obtain ⟨W2, hW2⟩ : ∃ W2, w1.setCell ⟨gn, k, none⟩ (.slice af nl cf) = W2 := ⟨_, rfl⟩
  rw [hW2] at h2 c0 hl2 p1 p2 p3 hx02 hx12 hz2 hB2 kw2
  have HKW := hide kw2
  have HC := hide (raised_l ck (hl2.below (below_drewN (Below.refl W2.heap.size W2) 1)))
  have hR' : rsd ck l = R := by rw [← hck0]; exact hR
  rw [hR'] at HC
  obtain ⟨n0a, n0b⟩ := n0
  have HW1 := hide hw1
  have HW2 := hide hW2
  have H2 := hide h2
  have HC0 := hide c0
  have HP := hide (And.intro p1 (And.intro p2 p3))
  have HX := hide (And.intro hx02 hx12)
  have HZ := hide hz2
  have HBB := hide hB2
  have HR := hide hR
  have HYL := hide hyl
  have hki0 : (0 : Int) ≤ (k : Int) := by omega
  have hki1 : (k : Int) < (n : Int) := by omega
  have hblk := And.intro hg1 (And.intro hg2 (And.intro hg3 hg4))
  have HBK := hide hblk
  have HK2 := hide hk2
  have HBN := hide (And.intro hB (And.intro hbn hbf))
  rw [← hw1] at q0 q1 q2 hcn1 hcf1 n0a n0b
  clear h h1 h2 hn hl hl2 hy1 hyl hyv hw1 hb1 hx0 hx1 hz1 hlk hck hck0 hR hR' s12 st p1 p2 p3 hx02 hx12 hz2 hB2 hW2 c0 kw2 hcn hcf hnl hm hblk hg1 hg2 hg3 hg4 hB hbn hbf
  go_enter Tryz.func77, Tryz.ntmps77
  go_upto_region 2 with fail
  go_cut [] (fun wc => Hid (OW wc B (.slice (some ⟨gn, 0, none⟩) n capn) (.slice (some ⟨gc, 0, none⟩) n capc) (.slice am m cm) (ns.set k y) (cs.set k R) ms ∧ (Below B w wc ∧ KpW w wc) ∧ wc.heap[w.heap.size]? = some (.cells #[.slice (some ⟨gn, 0, none⟩) n capn, .slice (some ⟨gc, 0, none⟩) n capc, .slice am m cm] 26 (0, 0)) ∧ wc.heap[w.heap.size + 1]? = some (.cells #[(.slice none 0 0), (.slice none 0 0), (.slice none 0 0)] 26 (0, 0))))
  case first =>
    rw [show (w.alloc (wbox (.slice (some ⟨gn, 0, none⟩) n capn) (.slice (some ⟨gc, 0, none⟩) n capc) (.slice am m cm))).alloc (wbox (.slice none 0 0) (.slice none 0 0) (.slice none 0 0)) = w1 from unhide HW1, show w1.setCell ⟨gn, k, none⟩ (.slice af nl cf) = W2 from unhide HW2]
    clear q0 q1 q2 hcn1 hcf1 n0a n0b
    refine wp_region_held_drew (S := fun W => W.cell? ⟨w.heap.size, 1, none⟩ = some (.slice (some ⟨gc, 0, none⟩) n capc) ∧ W.cell? ⟨bn, 0, none⟩ = some (.int .i64 (k : Int)) ∧ W.cell? ⟨bf, 0, none⟩ = some (.slice af nl cf)) (by kernel_rfl) (unhide HP) (fun hHeld => ?_)
    refine wpAnyH_take (i := 0) (v := .pointer (some ⟨w.heap.size, 1, none⟩)) rfl (by kernel_rfl) (by kernel_rfl) (by kernel_rfl) (fun _ _ _ h => h) (Or.inl ⟨by rfl, fun W hS => by go_simp⟩) hHeld ?_
    simp only [Act.put, List.setIfInBounds_toArray, List.set_cons_zero, List.set_cons_succ]
    refine wpAnyH_take (i := 1) (v := .slice (some ⟨gc, 0, none⟩) n capc) rfl (by kernel_rfl) (by kernel_rfl) (by kernel_rfl) (fun _ _ _ h => h) (Or.inl ⟨by rfl, fun W hS => by obtain ⟨z1, z2, z3⟩ := hS; go_simp⟩) hHeld ?_
    simp only [Act.put, List.setIfInBounds_toArray, List.set_cons_zero, List.set_cons_succ]
    refine wpAnyH_take (i := 2) (v := .int .i64 (k : Int)) rfl (by kernel_rfl) (by kernel_rfl) (by kernel_rfl) (fun _ _ _ h => h) (Or.inl ⟨by rfl, fun W hS => by obtain ⟨z1, z2, z3⟩ := hS; go_simp⟩) hHeld ?_
    simp only [Act.put, List.setIfInBounds_toArray, List.set_cons_zero, List.set_cons_succ]
    refine wpAnyH_take (i := 3) (v := .pointer (some ⟨w.heap.size, 1, none⟩)) rfl (by kernel_rfl) (by kernel_rfl) (by kernel_rfl) (fun _ _ _ h => h) (Or.inl ⟨by rfl, fun W hS => by go_simp⟩) hHeld ?_
    simp only [Act.put, List.setIfInBounds_toArray, List.set_cons_zero, List.set_cons_succ]
    refine wpAnyH_take (i := 4) (v := .slice (some ⟨gc, 0, none⟩) n capc) rfl (by kernel_rfl) (by kernel_rfl) (by kernel_rfl) (fun _ _ _ h => h) (Or.inl ⟨by rfl, fun W hS => by obtain ⟨z1, z2, z3⟩ := hS; go_simp⟩) hHeld ?_
    simp only [Act.put, List.setIfInBounds_toArray, List.set_cons_zero, List.set_cons_succ]
    refine wpAnyH_take (i := 5) (v := .int .i64 (k : Int)) rfl (by kernel_rfl) (by kernel_rfl) (by kernel_rfl) (fun _ _ _ h => h) (Or.inl ⟨by rfl, fun W hS => by obtain ⟨z1, z2, z3⟩ := hS; go_simp⟩) hHeld ?_
    simp only [Act.put, List.setIfInBounds_toArray, List.set_cons_zero, List.set_cons_succ]
    refine wpAnyH_take (i := 6) (v := .pointer (some ⟨gc, k, none⟩)) rfl (by kernel_rfl) (by kernel_rfl) (by kernel_rfl) (fun _ _ _ h => h) (Or.inl ⟨by rfl, fun W hS => by go_simp⟩) hHeld ?_
    simp only [Act.put, List.setIfInBounds_toArray, List.set_cons_zero, List.set_cons_succ]
    refine wpAnyH_take (i := 8) (v := .slice af nl cf) rfl (by kernel_rfl) (by kernel_rfl) (by kernel_rfl) (fun _ _ _ h => h) (Or.inl ⟨by rfl, fun W hS => by obtain ⟨z1, z2, z3⟩ := hS; go_simp⟩) hHeld ?_
    simp only [Act.put, List.setIfInBounds_toArray, List.set_cons_zero, List.set_cons_succ]
    refine wpAnyH_ready (rs := [7]) (by kernel_rfl) (by simp) (AllReadyH.cons rfl (fun K hK => ?_) AllReadyH.nil)
    have c0a : W2.drew.cell? ⟨gc, k, none⟩ = some (.int .i64 ck) := (unhide HC0).1
    go_simp
    refine hK.out _ _ hHeld (fun hHeld => ?_)
    clear hK K c0a
    refine wpAnyH_ready (rs := [9]) (by kernel_rfl) (by simp) (AllReadyH.cons rfl (fun K hK => ?_) AllReadyH.nil)
    go_simp
    refine (unhide HC).mono ?_
    rintro e w4 ⟨rfl, hB4⟩
    replace hB4 : Below W2.heap.size W2 w4 := (below_drewN (Below.refl W2.heap.size W2) 1).trans hB4
    dsimp only
    obtain ⟨hg1, hg2, hg3, hg4⟩ := unhide HBK
    obtain ⟨hB, hbn, hbf⟩ := unhide HBN
    have hz := unhide HZ
    have hkeep : ∀ {b i : Nat}, b < W2.heap.size → w4.cell? ⟨b, i, none⟩ = W2.cell? ⟨b, i, none⟩ := fun {b i} hb => hB4.cell (p := ⟨b, i, none⟩) hb
    obtain ⟨z1, z2, z3⟩ := unhide HP
    refine hK.out _ _ ⟨(hkeep (by omega)).trans z1, (hkeep (by omega)).trans z2, (hkeep (by omega)).trans z3⟩ (fun hHeld => ?_)
    clear hK K
    have h4 := (unhide H2).below hB4
    have c4 := (hkeep (b := gc) (i := k) (by omega)).trans (unhide HC0).1
    have f4 : w4.frozen? ⟨gc, k, none⟩ = false := by
      have := h4.c
      rw [unhide HK2] at this
      exact this.own.frozenAt k
    have h5 := h4.setC (k := k) (y := R) (unhide HK2)
    have s5 := grown_setCell w4 gc k (.int .i64 R)
    have hx5 := (unhide HX)
    have y0 := (s5.block w.heap.size (by have := hB4.size; omega) (fun e => by have := Option.some.inj e; omega)).trans ((hB4.block _ (by omega)).trans hx5.1)
    have y1 := (s5.block (w.heap.size + 1) (by have := hB4.size; omega) (fun e => by have := Option.some.inj e; omega)).trans ((hB4.block _ (by omega)).trans hx5.2)
    have hB5 := ((unhide HBB).trans (hB4.mono (by omega))).grown s5 (by have := hB4.size; omega) (fun q e => by cases e; exact hg3)
    have kw5 := unhide HKC _ _ ((unhide HKW).trans (KpW.below hB4)) s5
    have HF := hide (And.intro h5 (And.intro (And.intro hB5 kw5) (And.intro y0 y1)))
    have u1 := s5.cell hHeld.1 (fun e => by have := Option.some.inj e; simp at this; omega)
    have u2 := s5.cell hHeld.2.1 (fun e => by have := Option.some.inj e; simp at this; omega)
    have u3 := s5.cell hHeld.2.2 (fun e => by have := Option.some.inj e; simp at this; omega)
    have HU := hide (And.intro u1 (And.intro u2 u3))
    clear h4 h5 s5 hx5 y0 y1 hB5 kw5 u1 u2 u3 hB4 hkeep z1 z2 z3
    refine wpAnyH_take (i := 10) (v := .pointer (some ⟨gc, k, none⟩)) rfl (by kernel_rfl) (by kernel_rfl) (by kernel_rfl) (fun _ _ _ h => h) (Or.inl ⟨by rfl, fun W hS => by go_simp⟩) hHeld ?_
    simp only [Act.put, List.setIfInBounds_toArray, List.set_cons_zero, List.set_cons_succ]
    refine wpAnyH_ready (rs := [11]) (by kernel_rfl) (by simp) (AllReadyH.cons rfl (fun K hK => ?_) AllReadyH.nil)
    go_simp
    refine hK.out _ _ (unhide HU) (fun hHeld => ?_)
    clear hK K
    refine wpAnyH_done (by kernel_rfl) ?_ _
    go_wp2_with fail
    go_meet
    exact HF
  case rest =>
    obtain ⟨h5, ⟨hB5, kw5⟩, y0, y1⟩ := unhide hcut
    obtain ⟨hB, hbn, hbf⟩ := unhide HBN
    obtain ⟨p1, p2⟩ := put3 (.slice (some ⟨gn, 0, none⟩) n capn) (.slice (some ⟨gc, 0, none⟩) n capc) (.slice am m cm) y1
    have hx1 := y1
    have x0 := heap_row (i := 0) y1
    have x1 := heap_row (i := 1) y1
    have x2 := heap_row (i := 2) y1
    have v0 := frozen_of_row _ _ 0 _ _ y1
    have v1 := frozen_of_row _ _ 1 _ _ y1
    have v2 := frozen_of_row _ _ 2 _ _ y1
    have u0 := heap_row (i := 0) y0
    have u1 := heap_row (i := 1) y0
    have u2 := heap_row (i := 2) y0
    have hnfb := nf3 y1
    have hsz := (Array.getElem?_eq_some_iff.1 y1).1
    have h6 := h5.offT p2 y1 hnfb (by decide) (by decide) (by decide)
    have hB6 := hB5.grown p2 (by omega) (fun q e => by cases e; omega)
    have HKF := hide (kw5.new p2 (by omega))
    have HP1 := hide p1
    have H6 := hide h6
    have HB6 := hide hB6
    clear h5 hB5 kw5 y0 y1 p1 p2 hx1 hnfb h6 hB6 hcut q0 q1 q2 hcn1 hcf1 n0a n0b hB hbn hbf hsz
    go_wp2
    refine bodyPost_ret (v := .agg #[.slice (some ⟨gn, 0, none⟩) n capn, .slice (some ⟨gc, 0, none⟩) n capc, .slice am m cm]) ?_ rfl ⟨y, unhide HYL, rfl, by rw [unhide HR]; exact unhide H6, unhide HB6, unhide HKF⟩
    exact results_cell_row rfl _ _ _ _ _ _ _ rfl (unhide HP1) Tryz.underlying26 rfl (by kernel_rfl)
end Go.Proofs.YtmgmganbamjnmaaGreatDoor
