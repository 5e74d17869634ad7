/-
  What the struct past answers: token; what Tokens and Longest answer.
-/
import Derived.Test.YtfoaaamcpknjnadGreatQ38
namespace Go.Proofs.YtfoaaamcpknjnadGreat
open Go.RowKit
set_option linter.unusedVariables false
set_option maxRecDepth 100000

theorem Pas.weaken {No No' : Nat → Prop} {w : World} {p mb base b o n cap kn : Nat} {bs : List Nat} (h : Pas No' w p mb base b o n cap bs kn) (hn : ∀ g, No g → No' g) : Pas No w p mb base b o n cap bs kn :=
  ⟨h.pst, h.grp, fun es clock hb x hx g hg hN => h.shun es clock hb x hx g hg (hn g hN), h.row, h.size⟩
/-- what else must stay: whatever lies above -/
theorem Pas.more {No No' : Nat → Prop} {w : World} {p mb base b o n cap kn : Nat} {bs : List Nat} (h : Pas No w p mb base b o n cap bs kn) (hn : ∀ g, No' g → No g ∨ w.heap.size ≤ g) : Pas No' w p mb base b o n cap bs kn := by
  obtain ⟨D, hD, _⟩ := h.grp
  exact ⟨h.pst, h.grp, h.shun.reno hD hn, h.row, h.size⟩
theorem Geo.more {No No' : Nat → Prop} {B p mb base b : Nat} {bs : List Nat} (G : Geo No B p mb base b bs) (h1 : ¬ No' p) (h2 : ¬ No' mb) : Geo No' B p mb base b bs := ⟨G.bB, G.pB, G.mB, G.pm, G.pb, h1, h2, G.len, G.byte⟩

theorem info_tok3 : (Tryz.prog.info? 115).map (·.size) = some 3 := by kernel_rfl
theorem ret_tok {fn : Func} {p : Tmp} (h : fn.results = #[.cell p 115]) (tmps : Array Value) (w : World) (g : Nat) (cs : Array Value) (hcs : cs.size = 3) (hp : tmps.getD p undef = .pointer (some ⟨g, 0, none⟩)) (hA : w.heap[g]? = some (.cells cs 115 (0, 0))) :
    (results fn tmps).run Tryz.prog w = .ok (.agg cs) w := by
  have hl : (loadVar 115 ⟨g, 0, none⟩).run Tryz.prog w = .ok (.agg cs) w := run_loadVar_row w g _ _ _ _ _ hA Tryz.underlying115 rfl (by rw [hcs]; exact info_tok3)
  have hp' : tmps[p]?.getD undef = .pointer (some ⟨g, 0, none⟩) := by simpa using hp
  simp only [results, h]
  simp [hp', asAddr, hl]
theorem set_tok {w : World} {g : Nat} {x y z a b c : Value} (h : w.heap[g]? = some (.cells #[x, y, z] 115 (0, 0))) : (((w.setCell ⟨g, 0, none⟩ a).setCell ⟨g, 1, none⟩ b).setCell ⟨g, 2, none⟩ c).heap[g]? = some (.cells #[a, b, c] 115 (0, 0)) := by
  rw [heap_setCell_same _ g 2 _ _ _ (heap_setCell_same _ g 1 _ _ _ (heap_setCell_same w g 0 _ _ _ h))]; rfl
theorem set_grown (w : World) (g : Nat) (a b c : Value) : w.grownBy (((w.setCell ⟨g, 0, none⟩ a).setCell ⟨g, 1, none⟩ b).setCell ⟨g, 2, none⟩ c) (some g) :=
  grown_trans (grown_trans (grown_setCell w g 0 a) (grown_setCell _ g 1 b)) (grown_setCell _ g 2 c)

set_option maxHeartbeats 2000000 in
theorem token_any (No : Nat → Prop) (B p mb base b o n cap kn k : Nat) (bs : List Nat) (w : World) (G : Geo No B p mb base b bs) (hl : bs.length = n) (hcap : n ≤ cap) (hP : Pas No w p mb base b o n cap bs kn) (hk : kn ≤ k) (hkn : k < n) (hNo : ∀ g, w.heap.size ≤ g → ¬ No g) (tb : Nat) (ts tf : Int) (ht : Hid (tkAt bs k = (tb, ts, tf))) :
    Calls Tryz.prog 59 #[.pointer (some ⟨p, 0, none⟩), .int .i64 (k : Int)] w fun e w' => e = .returned (.agg #[.int .u8 (tb : Int), .int .i64 ts, .int .i64 tf]) ∧ (∃ kn', kn' ≤ k + 1 ∧ Pas No w' p mb base b o n cap bs kn') ∧ Below B w w' ∧ Kp No w w' := by
  have HG := hide G
  have HP := hide hP
  have HN := hide hNo
  have HL := hide hl
  have hn := G.len
  have hBw : B ≤ w.heap.size := Nat.le_trans G.pB (Nat.le_of_lt hP.pst.lt)
  have HGa : Hid (Geo (fun g => No g ∨ g = w.heap.size) B p mb base b bs) := G.more (by rintro (h | h); exact G.nop h; have := hP.pst.lt; omega) (by rintro (h | h); exact G.nom h; have := hP.grp.lt.2; omega)
  have HPa : Hid (Pas (fun g => No g ∨ g = w.heap.size) (w.alloc (.cells #[.int .u8 0, .int .i64 0, .int .i64 0] 115)) p mb base b o n cap bs kn) := (hP.more (No' := fun g => No g ∨ g = w.heap.size) (by rintro g (h | h); exact .inl h; exact .inr (by omega))).grown (unhide HGa) (World.grownBy_alloc w _ none) (fun j e => by cases e)
  have HNa : Hid (∀ g, (w.alloc (.cells #[.int .u8 0, .int .i64 0, .int .i64 0] 115)).heap.size ≤ g → ¬ (No g ∨ g = w.heap.size)) := by
    intro g hg
    simp at hg
    rintro (h | h)
    · exact hNo g (by omega) h
    · omega
  have HBa := hide ((Below.refl B w).alloc hBw (.cells #[.int .u8 0, .int .i64 0, .int .i64 0] 115))
  have hra : (w.alloc (.cells #[.int .u8 0, .int .i64 0, .int .i64 0] 115)).heap[w.heap.size]? = some (.cells #[.int .u8 0, .int .i64 0, .int .i64 0] 115 (0, 0)) := heap_alloc_new w _
  have HRa := hide hra
  clear G hP hNo hra
  obtain ⟨n1, f1, h1⟩ : ∃ n1 f1, lng bs k = (n1, f1) := ⟨_, _, rfl⟩
  obtain ⟨n2, f2, h2⟩ : ∃ n2 f2, lng bs (k + 1) = (n2, f2) := ⟨_, _, rfl⟩
  have H1 := hide h1
  have H2 := hide h2
  have ht' : tkAt bs k = if n1 = 0 then (bs.getD k 0, 0, 0) else if n1 < n2 then (bs.getD k 0, 0, 0) else (0, (n1 : Int), (f1 : Int)) := by
    unfold tkAt; rw [h1, h2]
  rw [unhide ht] at ht'
  clear h1 h2 ht
  go_enter Tryz.func59, Tryz.ntmps59
  go_wp2_with fail
  refine (longest_any _ B p mb base b o n cap kn k bs _ (unhide HGa) hl hcap (unhide HPa) hk (by omega) (unhide HNa) n1 f1 H1).mono ?_
  rintro e w1 ⟨rfl, ⟨kn1, hk1, hP1⟩, hB1, hK1⟩
  have hz1 := hB1.size
  simp only [World.size_alloc] at hz1
  have hr1 : w1.heap[w.heap.size]? = some (.cells #[.int .u8 0, .int .i64 0, .int .i64 0] 115 (0, 0)) := (hK1 w.heap.size (by simp) (.inr rfl)).trans (unhide HRa)
  have HP1 := hide hP1
  have HB1 := hide ((unhide HBa).trans hB1)
  have HK1 : Hid (Kp No w w1) := ((Kp.refl No w).grown (World.grownBy_alloc w (.cells #[.int .u8 0, .int .i64 0, .int .i64 0] 115) none) (Nat.le_refl _) (fun j e => by cases e)).trans (hK1.weaken (fun g h => .inl h)) (by simp)
  have c0 := hP1.pst.cell0
  have bk := hP1.row k (by omega)
  clear hP1 hB1 hK1 HPa HNa HBa HRa
  have r0 : w1.cell? ⟨w.heap.size, 0, none⟩ = some (.int .u8 0) := heap_row hr1
  have r1 : w1.cell? ⟨w.heap.size, 1, none⟩ = some (.int .i64 0) := heap_row hr1
  have r2 : w1.cell? ⟨w.heap.size, 2, none⟩ = some (.int .i64 0) := heap_row hr1
  have fr : ∀ j, w1.frozen? ⟨w.heap.size, j, none⟩ = false := fun j => frozen_of_row w1 _ j _ _ hr1
  have FIN : Hid (∀ (W : World) (kq : Nat) (x y z : Value), kq ≤ k + 1 → Pas (fun g => No g ∨ g = w.heap.size) W p mb base b o n cap bs kq → Below B w W → Kp No w W → w.heap.size ≤ W.heap.size →
      (∃ kn', kn' ≤ k + 1 ∧ Pas No (((W.setCell ⟨w.heap.size, 0, none⟩ x).setCell ⟨w.heap.size, 1, none⟩ y).setCell ⟨w.heap.size, 2, none⟩ z) p mb base b o n cap bs kn') ∧ Below B w (((W.setCell ⟨w.heap.size, 0, none⟩ x).setCell ⟨w.heap.size, 1, none⟩ y).setCell ⟨w.heap.size, 2, none⟩ z) ∧ Kp No w (((W.setCell ⟨w.heap.size, 0, none⟩ x).setCell ⟨w.heap.size, 1, none⟩ y).setCell ⟨w.heap.size, 2, none⟩ z)) := by
    intro W kq x y z hq hPq hBq hKq hsq
    have hg := set_grown W w.heap.size x y z
    have G := unhide HG
    have hp0 := (unhide HP).pst.lt
    have hm0 := (unhide HP).grp.lt.2
    refine ⟨⟨kq, hq, (hPq.grown (unhide HGa) hg (fun j e => ?_)).weaken (fun g h => .inl h)⟩, hBq.grown hg (Nat.le_trans hBw hsq) (fun j e => by cases e; exact hBw), ?_⟩
    · cases e
      have := G.bB
      exact ⟨by omega, by omega, by omega, .inl (.inr rfl)⟩
    · intro g h1 h2
      rw [hg.block g (by omega) (fun e => by simp at e; omega)]
      exact hKq g h1 h2
  by_cases hn1 : n1 = 0
  · rw [if_pos hn1] at ht'
    generalize bs.getD k 0 = x at *
    obtain ⟨rfl, rfl, rfl⟩ : tb = x ∧ ts = 0 ∧ tf = 0 := by simpa using ht'
    subst hn1
    have HR := hide (set_tok (a := .int .u8 (tb : Int)) (b := .int .i64 0) (c := .int .i64 0) hr1)
    go_wp2
    exact bodyPost_ret (ret_tok rfl _ _ _ _ rfl rfl (unhide HR)) rfl ⟨rfl, unhide FIN w1 kn1 _ _ _ (by omega) (unhide HP1) (unhide HB1) (unhide HK1) (by omega)⟩
  · rw [if_neg hn1] at ht'
    have hb1 : ((n1 : Int) == 0) = false := by rw [beq_eq_false_iff_ne]; omega
    have hk3 : k + 1 ≤ n := hkn
    clear c0 bk r0 r1 r2 fr
    go_wp2_with fail
    have HNb : Hid (∀ g, w1.heap.size ≤ g → ¬ (No g ∨ g = w.heap.size)) := by
      intro g hg
      rintro (h | h)
      · exact unhide HN g (by omega) h
      · omega
    refine (longest_any _ B p mb base b o n cap kn1 (k + 1) bs w1 (unhide HGa) hl hcap (unhide HP1) (by omega) hk3 (unhide HNb) n2 f2 H2).mono ?_
    rintro e w2 ⟨rfl, ⟨kn2, hk2, hP2⟩, hB2, hK2⟩
    have hz2 := hB2.size
    have hr2 : w2.heap[w.heap.size]? = some (.cells #[.int .u8 0, .int .i64 0, .int .i64 0] 115 (0, 0)) := (hK2 w.heap.size (by omega) (.inr rfl)).trans hr1
    have HP2 := hide hP2
    have HB2 := hide ((unhide HB1).trans hB2)
    have HK2 : Hid (Kp No w w2) := (unhide HK1).trans (hK2.weaken (fun g h => .inl h)) (by omega)
    have c0 := hP2.pst.cell0
    have bk := hP2.row k (by omega)
    clear hP2 hB2 hK2
    have r0 : w2.cell? ⟨w.heap.size, 0, none⟩ = some (.int .u8 0) := heap_row hr2
    have r1 : w2.cell? ⟨w.heap.size, 1, none⟩ = some (.int .i64 0) := heap_row hr2
    have r2 : w2.cell? ⟨w.heap.size, 2, none⟩ = some (.int .i64 0) := heap_row hr2
    have fr : ∀ j, w2.frozen? ⟨w.heap.size, j, none⟩ = false := fun j => frozen_of_row w2 _ j _ _ hr2
    by_cases hn2 : n1 < n2
    · rw [if_pos hn2] at ht'
      generalize bs.getD k 0 = x at *
      obtain ⟨rfl, rfl, rfl⟩ : tb = x ∧ ts = 0 ∧ tf = 0 := by simpa using ht'
      have HR := hide (set_tok (a := .int .u8 (tb : Int)) (b := .int .i64 0) (c := .int .i64 0) hr2)
      go_wp2
      exact bodyPost_ret (ret_tok rfl _ _ _ _ rfl rfl (unhide HR)) rfl ⟨rfl, unhide FIN w2 kn2 _ _ _ hk2 (unhide HP2) (unhide HB2) (unhide HK2) (by omega)⟩
    · rw [if_neg hn2] at ht'
      obtain ⟨rfl, rfl, rfl⟩ : 0 = tb ∧ (n1 : Int) = ts ∧ (f1 : Int) = tf := by
        simp only [Prod.mk.injEq] at ht'
        exact ⟨ht'.1.symm, ht'.2.1.symm, ht'.2.2.symm⟩
      have HR := hide (set_tok (a := .int .u8 0) (b := .int .i64 (n1 : Int)) (c := .int .i64 (f1 : Int)) hr2)
      go_wp2
      exact bodyPost_ret (ret_tok rfl _ _ _ _ rfl rfl (unhide HR)) rfl ⟨rfl, unhide FIN w2 kn2 _ _ _ hk2 (unhide HP2) (unhide HB2) (unhide HK2) (by omega)⟩
end Go.Proofs.YtfoaaamcpknjnadGreat

/-
  What Tokens answers.
-/
namespace Go.Proofs.YtfoaaamcpknjnadGreat
open Go.RowKit
set_option linter.unusedVariables false
set_option maxRecDepth 100000

theorem Pas.turn {No No' : Nat → Prop} {W w3 : World} {p mb base b o n cap kn : Nat} {bs : List Nat} {r : Option Nat} (h : Pas No W p mb base b o n cap bs kn) (h3 : Pas No w3 p mb base b o n cap bs kn) (hg : W.grownBy w3 r) (hr : some mb ≠ r) (hn : ∀ g, No' g → No g ∨ W.heap.size ≤ g) : Pas No' w3 p mb base b o n cap bs kn :=
  ⟨h3.pst, h3.grp, (h.more hn).shun.kept hg h.grp.lt.2 hr, h3.row, h3.size⟩
theorem tok_cells (W : World) (x y z : Value) (t : TypeId) : ∀ j u, [x, y, z][j]? = some u → (W.alloc (.cells #[x, y, z] t)).cell? ((⟨W.heap.size, 0, none⟩ : Addr).add j) = some u := by
  intro j u hj
  have e : (⟨W.heap.size, 0, none⟩ : Addr).add j = ⟨W.heap.size, j, none⟩ := by unfold Addr.add; split <;> simp_all
  rw [e, World.cell?_alloc_at _ _ _ _ rfl]
  match j, hj with
  | 0, hj => simpa using hj
  | 1, hj => simpa using hj
  | 2, hj => simpa using hj

theorem tokens_many (a : Option Addr) (n cap : Nat) (w : World) (h : 3000 < n) : Calls Tryz.prog 43 #[.slice a n cap] w fun e w' => e = .returned (.tuple #[.slice none 0 0, .int .i64 2]) ∧ w' = w := by
  go_enter Tryz.func43, Tryz.ntmps43
  go_wp2
  go_ret2
  exact ⟨rfl, rfl⟩

theorem tokens_none (a : Option Addr) (cap : Nat) (w : World) : Calls Tryz.prog 43 #[.slice a 0 cap] w fun e w' => e = .returned (.tuple #[.slice none 0 0, .int .i64 0]) ∧ Below w.heap.size w w' := by
  have HB := hide (((Below.refl w.heap.size w).alloc (Nat.le_refl _) (.map #[] 0)).alloc (by simp) (.cells #[.slice a 0 cap, .map (some w.heap.size), .int .i64 0] 149))
  go_enter Tryz.func43, Tryz.ntmps43
  go_wp2_with fail
  refine (newPast_any a 0 cap w).mono ?_
  rintro e w1 ⟨rfl, rfl⟩
  go_wp2
  go_loop [4, 6] (fun v4 v6 => v4 = .slice none 0 0 ∧ v6 = .int .i64 0) (fun _ _ => 0)
  case atStart => exact ⟨rfl, rfl⟩
  case round =>
    obtain ⟨rfl, rfl⟩ := hrel
    go_wp2
    go_ret2
    exact ⟨rfl, unhide HB⟩

set_option maxHeartbeats 2000000 in
theorem tokens_some (b o n cap : Nat) (bs : List Nat) (w : World) (hl : bs.length = n) (hn : n ≤ 3000) (hcap : n ≤ cap) (hb : b < w.heap.size) (hB : Bytes w b o bs) (hx : ∀ j, bs.getD j 0 < 256) :
    Calls Tryz.prog 43 #[.slice (some ⟨b, o, none⟩) n cap] w fun e w' => ∃ v, e = .returned (.tuple #[v, .int .i64 0]) ∧ w'.ownsRow w.heap.size 115 3 v (toks bs).length (tvs (toks bs)) ∧ Below w.heap.size w w' := by
  obtain ⟨i0, hi, hz0, hz1, hz2⟩ := info_parts info_tok
  have HL := hide hl
  have HX := hide hx
  have HGg : Hid (∀ No : Nat → Prop, ¬ No (w.heap.size + 1) → ¬ No w.heap.size → Geo No w.heap.size (w.heap.size + 1) w.heap.size (w.heap.size + 2) b bs) := fun No h1 h2 => ⟨hb, by omega, Nat.le_refl _, by omega, by omega, h1, h2, by omega, hx⟩
  have HP0 : Hid (Pas (fun g => (Value.slice none 0 0).ownBlock = some g) ((w.alloc (.map #[] 0)).alloc (.cells #[.slice (some ⟨b, o, none⟩) n cap, .map (some w.heap.size), .int .i64 0] 149)) (w.heap.size + 1) w.heap.size (w.heap.size + 2) b o n cap bs 0) := by
    have hg := World.grownBy_alloc (w.alloc (.map #[] 0)) (.cells #[.slice (some ⟨b, o, none⟩) n cap, .map (some w.heap.size), .int .i64 0] 149) none
    refine ⟨?_, (Grp.made w (w.heap.size + 2) bs (by omega)).kept hg (fun j e => by cases e), (World.Shuns_made w _).kept hg (by simp) (by simp), ?_, by simp⟩
    · have := heap_alloc_new (w.alloc (.map #[] 0)) (.cells #[.slice (some ⟨b, o, none⟩) n cap, .map (some w.heap.size), .int .i64 0] 149)
      rw [World.size_alloc] at this
      exact this
    · exact (hB.grown (World.grownBy_alloc w _ none) (by simp)).grown hg (by simp)
  have HB0 := hide (((Below.refl w.heap.size w).alloc (Nat.le_refl _) (.map #[] 0)).alloc (by simp) (.cells #[.slice (some ⟨b, o, none⟩) n cap, .map (some w.heap.size), .int .i64 0] 149))
  clear hB hx
  go_enter Tryz.func43, Tryz.ntmps43
  go_wp2_with fail
  refine (newPast_any (some ⟨b, o, none⟩) n cap w).mono ?_
  rintro e w1 ⟨rfl, hw1⟩
  have HP1 : Hid (Pas (fun g => (Value.slice none 0 0).ownBlock = some g) w1 (w.heap.size + 1) w.heap.size (w.heap.size + 2) b o n cap bs 0) := by rw [hw1]; exact unhide HP0
  have HB1 : Hid (Below w.heap.size w w1) := by rw [hw1]; exact unhide HB0
  clear hw1 HP0 HB0
  have HT : Hid (∀ l, l = toks bs → l = toks bs) := fun l h => h
  generalize hT : toks bs = T at *
  have HTT := hide hT
  clear hT HT
  go_wp2
  go_loopw [4, 6] (fun v4 v6 wr => ∃ (k fuel kn : Nat) (acc : List Tk), k ≤ n ∧ v6 = .int .i64 (k : Int) ∧ acc ++ tks bs fuel k = T ∧ n ≤ k + fuel ∧ acc.length ≤ k ∧ kn ≤ k ∧ wr.ownsRow (w.heap.size + 2) 115 3 v4 acc.length (tvs acc) ∧ Pas (fun g => v4.ownBlock = some g) wr (w.heap.size + 1) w.heap.size (w.heap.size + 2) b o n cap bs kn ∧ Below w.heap.size w wr) (fun _ v6 _ => n - (intOf v6).toNat)
  case atStart => exact ⟨0, n, 0, [], Nat.zero_le _, rfl, by rw [← unhide HTT]; simp [toks, unhide HL], by omega, Nat.le_refl _, Nat.le_refl _, World.ownsRow_nil _ _ _ _, unhide HP1, unhide HB1⟩
  case round =>
    obtain ⟨k, fuel, kn, acc, hk, rfl, hT, hf, hak, hkn, hO, hP, hBr⟩ := hrel
    have hT2 := hide hT
    have HO := hide hO
    have HP := hide hP
    have HBr := hide hBr
    have hzr := hBr.size
    have hsz2 := hP.size
    clear hT
    by_cases hlt : k < n
    · obtain ⟨fuel', hs1, hs2⟩ := tks_step bs fuel k (by omega) (by omega)
      have hw := tkAt_wid bs k (by omega)
      have hright := tkAt_right bs k (by omega)
      have hmx := wid_max hright
      have hwle := wid_le hright
      obtain ⟨tb, ts, tf, ht⟩ : ∃ tb ts tf, tkAt bs k = (tb, ts, tf) := ⟨_, _, _, rfl⟩
      have HTk := hide ht
      have hmx' : max ts 1 = ((wid (tkAt bs k) : Nat) : Int) := by rw [ht] at hmx ⊢; exact hmx
      have HTn : Hid ((acc ++ [(tb, ts, tf)]) ++ tks bs fuel' (k + wid (tkAt bs k)) = T) := by
        rw [← unhide hT2, hs1, ht, List.append_assoc]; rfl
      generalize wid (tkAt bs k) = wd at *
      have HNo : Hid (∀ g, wr.heap.size ≤ g → ¬ (u4.ownBlock = some g)) := fun g hg e => by
        have := (hO.lt g e).2
        omega
      have hnob : ∀ g, u4.ownBlock = some g → w.heap.size + 2 ≤ g := fun g e => (hO.lt g e).1
      have HNob := hide hnob
      have HG : Hid (Geo (fun g => u4.ownBlock = some g) w.heap.size (w.heap.size + 1) w.heap.size (w.heap.size + 2) b bs) := unhide HGg _ (fun e => by have := hnob _ e; omega) (fun e => by have := hnob _ e; omega)
      clear hO hP hBr hmx hright hs1 ht hnob
      go_wp2_with fail
      refine (token_any _ w.heap.size (w.heap.size + 1) w.heap.size (w.heap.size + 2) b o n cap kn k bs wr (unhide HG) (unhide HL) hcap (unhide HP) hkn hlt (unhide HNo) tb ts tf HTk).mono ?_
      rintro e w2 ⟨rfl, ⟨kn2, hk2, hP2⟩, hB2, hK2⟩
      have hz2' := hB2.size
      have HP2 := hide hP2
      have HB2 := hide ((unhide HBr).trans hB2)
      have HO2 : Hid (w2.ownsRow (w.heap.size + 2) 115 3 u4 acc.length (tvs acc)) := own_kp (unhide HO) (fun g hg => hK2 g ((unhide HO).lt g hg).2 hg)
      clear hP2 hB2 hK2 HP HO HBr HP1 HB1
      have HOw := hide (((unhide HO2).alloc (.cells #[.int .u8 (tb : Int), .int .i64 ts, .int .i64 tf] 115)).alloc (.cells #[.int .u8 (tb : Int), .int .i64 ts, .int .i64 tf] 115))
      have HPw := hide (((unhide HP2).grown (unhide HG) (World.grownBy_alloc w2 (.cells #[.int .u8 (tb : Int), .int .i64 ts, .int .i64 tf] 115) none) (fun j e => by cases e)).grown (unhide HG) (World.grownBy_alloc _ (.cells #[.int .u8 (tb : Int), .int .i64 ts, .int .i64 tf] 115) none) (fun j e => by cases e))
      have HBw := hide (((unhide HB2).alloc (by omega) (.cells #[.int .u8 (tb : Int), .int .i64 ts, .int .i64 tf] 115)).alloc (by simp; omega) (.cells #[.int .u8 (tb : Int), .int .i64 ts, .int .i64 tf] 115))
      have HCw := hide (tok_cells (w2.alloc (.cells #[.int .u8 (tb : Int), .int .i64 ts, .int .i64 tf] 115)) (.int .u8 (tb : Int)) (.int .i64 ts) (.int .i64 tf) 115)
      go_wp2_with (at_builtin; refine wpList_append_own_at _ rfl _ _ 93 rfl (w.heap.size + 2) 115 i0 _ 3 24 Tryz.underlying93 hi hz0 hz1 hz2 rfl (by decide) u4 acc.length (tvs acc) rfl (unhide HOw) ⟨w2.heap.size + 1, 0, none⟩ 1 1 [.int .u8 (tb : Int), .int .i64 ts, .int .i64 tf] rfl rfl (by have := unhide HCw; simp only [World.size_alloc] at this; exact this) (by intro u hu; simp at hu; rcases hu with rfl | rfl | rfl <;> rfl) (by unfold maxLen; omega) (by omega) (by simp; omega) ?_)
      intro v' w3 hO3 hgrow _ hspot
      have hne : some w2.heap.size ≠ u4.ownBlock := fun e => by have := ((unhide HO2).lt _ e.symm).2; omega
      have q0 : w3.cell? ⟨w2.heap.size, 0, none⟩ = some (.int .u8 (tb : Int)) := hgrow.cell (by simp) hne
      have q1 : w3.cell? ⟨w2.heap.size, 1, none⟩ = some (.int .i64 ts) := hgrow.cell (by simp) hne
      have q2 : w3.cell? ⟨w2.heap.size, 2, none⟩ = some (.int .i64 tf) := hgrow.cell (by simp) hne
      have HO3 : Hid (w3.ownsRow (w.heap.size + 2) 115 3 v' (acc ++ [(tb, ts, tf)]).length (tvs (acc ++ [(tb, ts, tf)]))) := by
        rw [tvs_append, List.length_append]; exact hO3
      have HB3 := hide ((unhide HBw).grown hgrow (by simp; omega) (fun g e => by have := unhide HNob g e; omega))
      have HP3a := hide ((unhide HPw).grown (unhide HG) hgrow (fun g e => by have := unhide HNob g e; exact ⟨by omega, by omega, by omega, .inl e⟩))
      have HP3 : Hid (Pas (fun g => v'.ownBlock = some g) w3 (w.heap.size + 1) w.heap.size (w.heap.size + 2) b o n cap bs kn2) := (unhide HPw).turn (unhide HP3a) hgrow (fun e => by have := unhide HNob _ e.symm; omega) (fun g hg => by
        rcases hspot with h | h
        · exact .inl (by rw [← h]; exact hg)
        · refine .inr ?_
          have hg' : v'.ownBlock = some g := hg
          rw [h] at hg'
          have := Option.some.inj hg'
          simp only [World.size_alloc] at this ⊢
          omega)
      clear hO3 hgrow hspot hne HP3a HPw HBw HOw HCw HP2 HB2 HO2
      go_wp2_with fail
      refine (bytesOf_any tb ts tf w3 wd hmx').mono ?_
      rintro e w4 ⟨rfl, hg4⟩
      have HO4 := hide (own_kept (unhide HO3) hg4)
      have HB4 := hide (below_none (unhide HB3) hg4 (unhide HB3).size)
      have HP4 := hide ((unhide HP3).grown (unhide HGg _ (fun e => by have := ((unhide HO3).lt _ e).1; omega) (fun e => by have := ((unhide HO3).lt _ e).1; omega)) hg4 (fun j e => by cases e))
      clear hg4 q0 q1 q2
      go_wp2
      go_roundw
      case rel => exact ⟨k + wd, fuel', kn2, acc ++ [(tb, ts, tf)], by omega, by go_num, unhide HTn, by omega, by simp; omega, by omega, unhide HO4, unhide HP4, unhide HB4⟩
      case measure => simp [intOf]; omega
    · obtain rfl : n = k := by omega
      have e : acc = T := by
        have := unhide hT2
        rw [tks_done bs fuel n (by omega), List.append_nil] at this
        exact this
      have HO5 := own_mono (unhide HO) (show w.heap.size ≤ w.heap.size + 2 by omega)
      rw [e, ← unhide HTT] at HO5
      have HO6 := hide HO5
      clear hO hP hBr HO5
      go_wp2
      go_ret2
      exact ⟨u4, rfl, unhide HO6, unhide HBr⟩
end Go.Proofs.YtfoaaamcpknjnadGreat

/-
  Tokens of any bytes that are not too many; rows of a call's own as rows that are read.
-/
namespace Go.Proofs.YtfoaaamcpknjnadGreat
open Go.RowKit
set_option linter.unusedVariables false
set_option maxRecDepth 100000

theorem TokIn.ofOwn {w : World} {B n : Nat} {v : Value} {l : List Tk} (h : w.ownsRow B 115 3 v n (tvs l)) : l.length = n ∧ ∃ a c, v = .slice a n c ∧ TokIn w a l := by
  have hn : l.length = n := by have := h.1; rw [tvs_length] at this; omega
  refine ⟨hn, ?_⟩
  rcases h.2 with ⟨h1, h2⟩ | ⟨g, cap, cur, h1, _⟩
  · subst h2
    exact ⟨none, 0, h1, .inl (List.eq_nil_of_length_eq_zero hn)⟩
  · subst h1
    exact ⟨_, _, rfl, TokIn.own h⟩
/-- Tokens, where there are not too many bytes -/
theorem tokens_ok (a : Option Addr) (n cap : Nat) (bs : List Nat) (w : World) (hl : bs.length = n) (hn : n ≤ 3000) (hcap : n ≤ cap) (hB : BytesIn w a bs) (hx : ∀ j, bs.getD j 0 < 256) (L : Nat) (hL : Hid ((toks bs).length = L)) :
    Calls Tryz.prog 43 #[.slice a n cap] w fun e w' => ∃ a1 c1, e = .returned (.tuple #[.slice a1 L c1, .int .i64 0]) ∧ TokIn w' a1 (toks bs) ∧ Below w.heap.size w w' := by
  by_cases h0 : n = 0
  · subst h0
    obtain rfl : bs = [] := List.eq_nil_of_length_eq_zero hl
    obtain rfl : 0 = L := unhide hL
    refine (tokens_none a cap w).mono ?_
    rintro e w' ⟨rfl, h⟩
    exact ⟨none, 0, rfl, .inl rfl, h⟩
  · obtain ⟨b, o, rfl, hb, hBy⟩ := bytesIn_some hB (by omega)
    refine (tokens_some b o n cap bs w hl hn hcap hb hBy hx).mono ?_
    rintro e w' ⟨v, rfl, hO, h⟩
    obtain ⟨h1, a1, c1, rfl, h2⟩ := TokIn.ofOwn hO
    rw [unhide hL]
    exact ⟨a1, c1, rfl, h2, h⟩
end Go.Proofs.YtfoaaamcpknjnadGreat
