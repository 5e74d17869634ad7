/-
  What the struct past answers: token; what Tokens and Longest answer.
-/
import Derived.Test.YtmafecagcglaoahMatch5
namespace Go.Proofs.Ytmafecagcglaoah
open Go.RowKit
set_option linter.unusedVariables false
set_option maxRecDepth 100000

theorem Pas.weaken {No No' : Nat → Prop} {w : World} {p mb base b o n cap kn : Nat} {bs : List Nat} (h : Pas No' w p mb base b o n cap bs kn) (hn : ∀ g, No g → No' g) : Pas No w p mb base b o n cap bs kn :=
  ⟨h.pst, h.grp, fun es clock hb x hx g hg hN => h.shun es clock hb x hx g hg (hn g hN), h.row, h.size⟩
theorem Kp.weaken {No No' : Nat → Prop} {w w' : World} (h : Kp No' w w') (hn : ∀ g, No g → No' g) : Kp No w w' := fun g h1 h2 => h g h1 (hn g h2)
/-- what else must stay: whatever lies above -/
theorem Pas.more {No No' : Nat → Prop} {w : World} {p mb base b o n cap kn : Nat} {bs : List Nat} (h : Pas No w p mb base b o n cap bs kn) (hn : ∀ g, No' g → No g ∨ w.heap.size ≤ g) : Pas No' w p mb base b o n cap bs kn := by
  obtain ⟨D, hD, _⟩ := h.grp
  exact ⟨h.pst, h.grp, h.shun.reno hD hn, h.row, h.size⟩
theorem Geo.more {No No' : Nat → Prop} {B p mb base b : Nat} {bs : List Nat} (G : Geo No B p mb base b bs) (h1 : ¬ No' p) (h2 : ¬ No' mb) : Geo No' B p mb base b bs := ⟨G.bB, G.pB, G.mB, G.pm, G.pb, h1, h2, G.len, G.byte⟩

theorem info_tok3 : (Try.prog.info? 43).map (·.size) = some 3 := by kernel_rfl
theorem ret_tok {fn : Func} {p : Tmp} (h : fn.results = #[.cell p 43]) (tmps : Array Value) (w : World) (g : Nat) (cs : Array Value) (hcs : cs.size = 3) (hp : tmps.getD p undef = .pointer (some ⟨g, 0, none⟩)) (hA : w.heap[g]? = some (.cells cs 43 (0, 0))) :
    (results fn tmps).run Try.prog w = .ok (.agg cs) w := by
  have hl : (loadVar 43 ⟨g, 0, none⟩).run Try.prog w = .ok (.agg cs) w := run_loadVar_row w g _ _ _ _ _ hA Try.underlying43 rfl (by rw [hcs]; exact info_tok3)
  have hp' : tmps[p]?.getD undef = .pointer (some ⟨g, 0, none⟩) := by simpa using hp
  simp only [results, h]
  simp [hp', asAddr, hl]
theorem set_tok {w : World} {g : Nat} {x y z a b c : Value} (h : w.heap[g]? = some (.cells #[x, y, z] 43 (0, 0))) : (((w.setCell ⟨g, 0, none⟩ a).setCell ⟨g, 1, none⟩ b).setCell ⟨g, 2, none⟩ c).heap[g]? = some (.cells #[a, b, c] 43 (0, 0)) := by
  rw [heap_setCell_same _ g 2 _ _ _ (heap_setCell_same _ g 1 _ _ _ (heap_setCell_same w g 0 _ _ _ h))]; rfl
theorem set_grown (w : World) (g : Nat) (a b c : Value) : w.grownBy (((w.setCell ⟨g, 0, none⟩ a).setCell ⟨g, 1, none⟩ b).setCell ⟨g, 2, none⟩ c) (some g) :=
  grown_trans (grown_trans (grown_setCell w g 0 a) (grown_setCell _ g 1 b)) (grown_setCell _ g 2 c)

set_option maxHeartbeats 2000000 in
theorem token_any (No : Nat → Prop) (B p mb base b o n cap kn k : Nat) (bs : List Nat) (w : World) (G : Geo No B p mb base b bs) (hl : bs.length = n) (hcap : n ≤ cap) (hP : Pas No w p mb base b o n cap bs kn) (hk : kn ≤ k) (hkn : k < n) (hNo : ∀ g, w.heap.size ≤ g → ¬ No g) (tb : Nat) (ts tf : Int) (ht : Hid (tkAt bs k = (tb, ts, tf))) :
    Calls Try.prog 34 #[.pointer (some ⟨p, 0, none⟩), .int .i64 (k : Int)] w fun e w' => e = .returned (.agg #[.int .u8 (tb : Int), .int .i64 ts, .int .i64 tf]) ∧ (∃ kn', kn' ≤ k + 1 ∧ Pas No w' p mb base b o n cap bs kn') ∧ Below B w w' ∧ Kp No w w' := by
  have HG := hide G
  have HP := hide hP
  have HN := hide hNo
  have HL := hide hl
  have hn := G.len
  have hBw : B ≤ w.heap.size := Nat.le_trans G.pB (Nat.le_of_lt hP.pst.lt)
  have HGa : Hid (Geo (fun g => No g ∨ g = w.heap.size) B p mb base b bs) := G.more (by rintro (h | h); exact G.nop h; have := hP.pst.lt; omega) (by rintro (h | h); exact G.nom h; have := hP.grp.lt.2; omega)
  have HPa : Hid (Pas (fun g => No g ∨ g = w.heap.size) (w.alloc (.cells #[.int .u8 0, .int .i64 0, .int .i64 0] 43)) p mb base b o n cap bs kn) := (hP.more (No' := fun g => No g ∨ g = w.heap.size) (by rintro g (h | h); exact .inl h; exact .inr (by omega))).grown (unhide HGa) (World.grownBy_alloc w _ none) (fun j e => by cases e)
  have HNa : Hid (∀ g, (w.alloc (.cells #[.int .u8 0, .int .i64 0, .int .i64 0] 43)).heap.size ≤ g → ¬ (No g ∨ g = w.heap.size)) := by
    intro g hg
    simp at hg
    rintro (h | h)
    · exact hNo g (by omega) h
    · omega
  have HBa := hide ((Below.refl B w).alloc hBw (.cells #[.int .u8 0, .int .i64 0, .int .i64 0] 43))
  have hra : (w.alloc (.cells #[.int .u8 0, .int .i64 0, .int .i64 0] 43)).heap[w.heap.size]? = some (.cells #[.int .u8 0, .int .i64 0, .int .i64 0] 43 (0, 0)) := heap_alloc_new w _
  have HRa := hide hra
  clear G hP hNo hra
  obtain ⟨n1, f1, h1⟩ : ∃ n1 f1, lng bs k = (n1, f1) := ⟨_, _, rfl⟩
  obtain ⟨n2, f2, h2⟩ : ∃ n2 f2, lng bs (k + 1) = (n2, f2) := ⟨_, _, rfl⟩
  have H1 := hide h1
  have H2 := hide h2
  have ht' : tkAt bs k = if n1 = 0 then (bs.getD k 0, 0, 0) else if n1 < n2 then (bs.getD k 0, 0, 0) else (0, (n1 : Int), (f1 : Int)) := by
    unfold tkAt; rw [h1, h2]
  rw [unhide ht] at ht'
  clear h1 h2 ht
  go_enter Try.func34, Try.ntmps34
  go_wp2_with fail
  refine (longest_any _ B p mb base b o n cap kn k bs _ (unhide HGa) hl hcap (unhide HPa) hk (by omega) (unhide HNa) n1 f1 H1).mono ?_
  rintro e w1 ⟨rfl, ⟨kn1, hk1, hP1⟩, hB1, hK1⟩
  have hz1 := hB1.size
  simp only [World.size_alloc] at hz1
  have hr1 : w1.heap[w.heap.size]? = some (.cells #[.int .u8 0, .int .i64 0, .int .i64 0] 43 (0, 0)) := (hK1 w.heap.size (by simp) (.inr rfl)).trans (unhide HRa)
  have HP1 := hide hP1
  have HB1 := hide ((unhide HBa).trans hB1)
  have HK1 : Hid (Kp No w w1) := ((Kp.refl No w).grown (World.grownBy_alloc w (.cells #[.int .u8 0, .int .i64 0, .int .i64 0] 43) none) (Nat.le_refl _) (fun j e => by cases e)).trans (hK1.weaken (fun g h => .inl h)) (by simp)
  have c0 := hP1.pst.cell0
  have bk := hP1.row k (by omega)
  clear hP1 hB1 hK1 HPa HNa HBa HRa
  have r0 : w1.cell? ⟨w.heap.size, 0, none⟩ = some (.int .u8 0) := heap_row hr1
  have r1 : w1.cell? ⟨w.heap.size, 1, none⟩ = some (.int .i64 0) := heap_row hr1
  have r2 : w1.cell? ⟨w.heap.size, 2, none⟩ = some (.int .i64 0) := heap_row hr1
  have fr : ∀ j, w1.frozen? ⟨w.heap.size, j, none⟩ = false := fun j => frozen_of_row w1 _ j _ _ hr1
  have FIN : Hid (∀ (W : World) (kq : Nat) (x y z : Value), kq ≤ k + 1 → Pas (fun g => No g ∨ g = w.heap.size) W p mb base b o n cap bs kq → Below B w W → Kp No w W → w.heap.size ≤ W.heap.size →
      (∃ kn', kn' ≤ k + 1 ∧ Pas No (((W.setCell ⟨w.heap.size, 0, none⟩ x).setCell ⟨w.heap.size, 1, none⟩ y).setCell ⟨w.heap.size, 2, none⟩ z) p mb base b o n cap bs kn') ∧ Below B w (((W.setCell ⟨w.heap.size, 0, none⟩ x).setCell ⟨w.heap.size, 1, none⟩ y).setCell ⟨w.heap.size, 2, none⟩ z) ∧ Kp No w (((W.setCell ⟨w.heap.size, 0, none⟩ x).setCell ⟨w.heap.size, 1, none⟩ y).setCell ⟨w.heap.size, 2, none⟩ z)) := by
    intro W kq x y z hq hPq hBq hKq hsq
    have hg := set_grown W w.heap.size x y z
    have G := unhide HG
    have hp0 := (unhide HP).pst.lt
    have hm0 := (unhide HP).grp.lt.2
    refine ⟨⟨kq, hq, (hPq.grown (unhide HGa) hg (fun j e => ?_)).weaken (fun g h => .inl h)⟩, hBq.grown hg (Nat.le_trans hBw hsq) (fun j e => by cases e; exact hBw), ?_⟩
    · cases e
      have := G.bB
      exact ⟨by omega, by omega, by omega, .inl (.inr rfl)⟩
    · intro g h1 h2
      rw [hg.block g (by omega) (fun e => by simp at e; omega)]
      exact hKq g h1 h2
  by_cases hn1 : n1 = 0
  · rw [if_pos hn1] at ht'
    generalize bs.getD k 0 = x at *
    obtain ⟨rfl, rfl, rfl⟩ : tb = x ∧ ts = 0 ∧ tf = 0 := by simpa using ht'
    subst hn1
    have HR := hide (set_tok (a := .int .u8 (tb : Int)) (b := .int .i64 0) (c := .int .i64 0) hr1)
    go_wp2
    exact bodyPost_ret (ret_tok rfl _ _ _ _ rfl rfl (unhide HR)) rfl ⟨rfl, unhide FIN w1 kn1 _ _ _ (by omega) (unhide HP1) (unhide HB1) (unhide HK1) (by omega)⟩
  · rw [if_neg hn1] at ht'
    have hb1 : ((n1 : Int) == 0) = false := by rw [beq_eq_false_iff_ne]; omega
    have hk3 : k + 1 ≤ n := hkn
    clear c0 bk r0 r1 r2 fr
    go_wp2_with fail
    have HNb : Hid (∀ g, w1.heap.size ≤ g → ¬ (No g ∨ g = w.heap.size)) := by
      intro g hg
      rintro (h | h)
      · exact unhide HN g (by omega) h
      · omega
    refine (longest_any _ B p mb base b o n cap kn1 (k + 1) bs w1 (unhide HGa) hl hcap (unhide HP1) (by omega) hk3 (unhide HNb) n2 f2 H2).mono ?_
    rintro e w2 ⟨rfl, ⟨kn2, hk2, hP2⟩, hB2, hK2⟩
    have hz2 := hB2.size
    have hr2 : w2.heap[w.heap.size]? = some (.cells #[.int .u8 0, .int .i64 0, .int .i64 0] 43 (0, 0)) := (hK2 w.heap.size (by omega) (.inr rfl)).trans hr1
    have HP2 := hide hP2
    have HB2 := hide ((unhide HB1).trans hB2)
    have HK2 : Hid (Kp No w w2) := (unhide HK1).trans (hK2.weaken (fun g h => .inl h)) (by omega)
    have c0 := hP2.pst.cell0
    have bk := hP2.row k (by omega)
    clear hP2 hB2 hK2
    have r0 : w2.cell? ⟨w.heap.size, 0, none⟩ = some (.int .u8 0) := heap_row hr2
    have r1 : w2.cell? ⟨w.heap.size, 1, none⟩ = some (.int .i64 0) := heap_row hr2
    have r2 : w2.cell? ⟨w.heap.size, 2, none⟩ = some (.int .i64 0) := heap_row hr2
    have fr : ∀ j, w2.frozen? ⟨w.heap.size, j, none⟩ = false := fun j => frozen_of_row w2 _ j _ _ hr2
    by_cases hn2 : n1 < n2
    · rw [if_pos hn2] at ht'
      generalize bs.getD k 0 = x at *
      obtain ⟨rfl, rfl, rfl⟩ : tb = x ∧ ts = 0 ∧ tf = 0 := by simpa using ht'
      have HR := hide (set_tok (a := .int .u8 (tb : Int)) (b := .int .i64 0) (c := .int .i64 0) hr2)
      go_wp2
      exact bodyPost_ret (ret_tok rfl _ _ _ _ rfl rfl (unhide HR)) rfl ⟨rfl, unhide FIN w2 kn2 _ _ _ hk2 (unhide HP2) (unhide HB2) (unhide HK2) (by omega)⟩
    · rw [if_neg hn2] at ht'
      obtain ⟨rfl, rfl, rfl⟩ : 0 = tb ∧ (n1 : Int) = ts ∧ (f1 : Int) = tf := by
        simp only [Prod.mk.injEq] at ht'
        exact ⟨ht'.1.symm, ht'.2.1.symm, ht'.2.2.symm⟩
      have HR := hide (set_tok (a := .int .u8 0) (b := .int .i64 (n1 : Int)) (c := .int .i64 (f1 : Int)) hr2)
      go_wp2
      exact bodyPost_ret (ret_tok rfl _ _ _ _ rfl rfl (unhide HR)) rfl ⟨rfl, unhide FIN w2 kn2 _ _ _ hk2 (unhide HP2) (unhide HB2) (unhide HK2) (by omega)⟩
end Go.Proofs.Ytmafecagcglaoah
