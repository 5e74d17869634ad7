/-
  What Tokens answers.
-/
import Derived.Test.YtmafecagcglaoahMatch6
namespace Go.Proofs.Ytmafecagcglaoah
open Go.RowKit
set_option linter.unusedVariables false
set_option maxRecDepth 100000

theorem own_kp {w w' : World} {B e size n : Nat} {v : Value} {xs : List Value} (h : w.ownsRow B e size v n xs) (hk : ∀ g, v.ownBlock = some g → w'.heap[g]? = w.heap[g]?) : w'.ownsRow B e size v n xs := by
  refine ⟨h.1, ?_⟩
  rcases h.2 with h1 | ⟨g, cap, cur, h1, h2, h3, h4⟩
  · exact .inl h1
  · exact .inr ⟨g, cap, cur, h1, h2, (hk g (by rw [h1]; rfl)).trans h3, h4⟩
theorem own_mono {w : World} {B B' e size n : Nat} {v : Value} {xs : List Value} (h : w.ownsRow B e size v n xs) (hB : B' ≤ B) : w.ownsRow B' e size v n xs := by
  refine ⟨h.1, ?_⟩
  rcases h.2 with h1 | ⟨g, cap, cur, h1, h2, h3⟩
  · exact .inl h1
  · exact .inr ⟨g, cap, cur, h1, Nat.le_trans hB h2, h3⟩
theorem Pas.turn {No No' : Nat → Prop} {W w3 : World} {p mb base b o n cap kn : Nat} {bs : List Nat} {r : Option Nat} (h : Pas No W p mb base b o n cap bs kn) (h3 : Pas No w3 p mb base b o n cap bs kn) (hg : W.grownBy w3 r) (hr : some mb ≠ r) (hn : ∀ g, No' g → No g ∨ W.heap.size ≤ g) : Pas No' w3 p mb base b o n cap bs kn :=
  ⟨h3.pst, h3.grp, (h.more hn).shun.kept hg h.grp.lt.2 hr, h3.row, h3.size⟩
theorem tok_cells (W : World) (x y z : Value) (t : TypeId) : ∀ j u, [x, y, z][j]? = some u → (W.alloc (.cells #[x, y, z] t)).cell? ((⟨W.heap.size, 0, none⟩ : Addr).add j) = some u := by
  intro j u hj
  have e : (⟨W.heap.size, 0, none⟩ : Addr).add j = ⟨W.heap.size, j, none⟩ := by unfold Addr.add; split <;> simp_all
  rw [e, World.cell?_alloc_at _ _ _ _ rfl]
  match j, hj with
  | 0, hj => simpa using hj
  | 1, hj => simpa using hj
  | 2, hj => simpa using hj

theorem tokens_many (a : Option Addr) (n cap : Nat) (w : World) (h : 3000 < n) : Calls Try.prog 16 #[.slice a n cap] w fun e w' => e = .returned (.tuple #[.slice none 0 0, .int .i64 2]) ∧ w' = w := by
  go_enter Try.func16, Try.ntmps16
  go_wp2
  go_ret2
  exact ⟨rfl, rfl⟩

theorem tokens_none (a : Option Addr) (cap : Nat) (w : World) : Calls Try.prog 16 #[.slice a 0 cap] w fun e w' => e = .returned (.tuple #[.slice none 0 0, .int .i64 0]) ∧ Below w.heap.size w w' := by
  have HB := hide (((Below.refl w.heap.size w).alloc (Nat.le_refl _) (.map #[] 0)).alloc (by simp) (.cells #[.slice a 0 cap, .map (some w.heap.size), .int .i64 0] 91))
  go_enter Try.func16, Try.ntmps16
  go_wp2_with fail
  refine (newPast_any a 0 cap w).mono ?_
  rintro e w1 ⟨rfl, rfl⟩
  go_wp2
  go_loop [4, 6] (fun v4 v6 => v4 = .slice none 0 0 ∧ v6 = .int .i64 0) (fun _ _ => 0)
  case atStart => exact ⟨rfl, rfl⟩
  case round =>
    obtain ⟨rfl, rfl⟩ := hrel
    go_wp2
    go_ret2
    exact ⟨rfl, unhide HB⟩

set_option maxHeartbeats 2000000 in
theorem tokens_some (b o n cap : Nat) (bs : List Nat) (w : World) (hl : bs.length = n) (hn : n ≤ 3000) (hcap : n ≤ cap) (hb : b < w.heap.size) (hB : Bytes w b o bs) (hx : ∀ j, bs.getD j 0 < 256) :
    Calls Try.prog 16 #[.slice (some ⟨b, o, none⟩) n cap] w fun e w' => ∃ v, e = .returned (.tuple #[v, .int .i64 0]) ∧ w'.ownsRow w.heap.size 43 3 v (toks bs).length (tvs (toks bs)) ∧ Below w.heap.size w w' := by
  obtain ⟨i0, hi, hz0, hz1, hz2⟩ := info_parts info_tok
  have HL := hide hl
  have HX := hide hx
  have HGg : Hid (∀ No : Nat → Prop, ¬ No (w.heap.size + 1) → ¬ No w.heap.size → Geo No w.heap.size (w.heap.size + 1) w.heap.size (w.heap.size + 2) b bs) := fun No h1 h2 => ⟨hb, by omega, Nat.le_refl _, by omega, by omega, h1, h2, by omega, hx⟩
  have HP0 : Hid (Pas (fun g => (Value.slice none 0 0).ownBlock = some g) ((w.alloc (.map #[] 0)).alloc (.cells #[.slice (some ⟨b, o, none⟩) n cap, .map (some w.heap.size), .int .i64 0] 91)) (w.heap.size + 1) w.heap.size (w.heap.size + 2) b o n cap bs 0) := by
    have hg := World.grownBy_alloc (w.alloc (.map #[] 0)) (.cells #[.slice (some ⟨b, o, none⟩) n cap, .map (some w.heap.size), .int .i64 0] 91) none
    refine ⟨?_, (Grp.made w (w.heap.size + 2) bs (by omega)).kept hg (fun j e => by cases e), (World.Shuns_made w _).kept hg (by simp) (by simp), ?_, by simp⟩
    · have := heap_alloc_new (w.alloc (.map #[] 0)) (.cells #[.slice (some ⟨b, o, none⟩) n cap, .map (some w.heap.size), .int .i64 0] 91)
      rw [World.size_alloc] at this
      exact this
    · exact (hB.grown (World.grownBy_alloc w _ none) (by simp)).grown hg (by simp)
  have HB0 := hide (((Below.refl w.heap.size w).alloc (Nat.le_refl _) (.map #[] 0)).alloc (by simp) (.cells #[.slice (some ⟨b, o, none⟩) n cap, .map (some w.heap.size), .int .i64 0] 91))
  clear hB hx
  go_enter Try.func16, Try.ntmps16
  go_wp2_with fail
  refine (newPast_any (some ⟨b, o, none⟩) n cap w).mono ?_
  rintro e w1 ⟨rfl, hw1⟩
  have HP1 : Hid (Pas (fun g => (Value.slice none 0 0).ownBlock = some g) w1 (w.heap.size + 1) w.heap.size (w.heap.size + 2) b o n cap bs 0) := by rw [hw1]; exact unhide HP0
  have HB1 : Hid (Below w.heap.size w w1) := by rw [hw1]; exact unhide HB0
  clear hw1 HP0 HB0
  have HT : Hid (∀ l, l = toks bs → l = toks bs) := fun l h => h
  generalize hT : toks bs = T at *
  have HTT := hide hT
  clear hT HT
  go_wp2
  go_loopw [4, 6] (fun v4 v6 wr => ∃ (k fuel kn : Nat) (acc : List Tk), k ≤ n ∧ v6 = .int .i64 (k : Int) ∧ acc ++ tks bs fuel k = T ∧ n ≤ k + fuel ∧ acc.length ≤ k ∧ kn ≤ k ∧ wr.ownsRow (w.heap.size + 2) 43 3 v4 acc.length (tvs acc) ∧ Pas (fun g => v4.ownBlock = some g) wr (w.heap.size + 1) w.heap.size (w.heap.size + 2) b o n cap bs kn ∧ Below w.heap.size w wr) (fun _ v6 _ => n - (intOf v6).toNat)
  case atStart => exact ⟨0, n, 0, [], Nat.zero_le _, rfl, by rw [← unhide HTT]; simp [toks, unhide HL], by omega, Nat.le_refl _, Nat.le_refl _, World.ownsRow_nil _ _ _ _, unhide HP1, unhide HB1⟩
  case round =>
    obtain ⟨k, fuel, kn, acc, hk, rfl, hT, hf, hak, hkn, hO, hP, hBr⟩ := hrel
    have hT2 := hide hT
    have HO := hide hO
    have HP := hide hP
    have HBr := hide hBr
    have hzr := hBr.size
    have hsz2 := hP.size
    clear hT
    by_cases hlt : k < n
    · obtain ⟨fuel', hs1, hs2⟩ := tks_step bs fuel k (by omega) (by omega)
      have hw := tkAt_wid bs k (by omega)
      have hright := tkAt_right bs k (by omega)
      have hmx := wid_max hright
      have hwle := wid_le hright
      obtain ⟨tb, ts, tf, ht⟩ : ∃ tb ts tf, tkAt bs k = (tb, ts, tf) := ⟨_, _, _, rfl⟩
      have HTk := hide ht
      have hmx' : max ts 1 = ((wid (tkAt bs k) : Nat) : Int) := by rw [ht] at hmx ⊢; exact hmx
      have HTn : Hid ((acc ++ [(tb, ts, tf)]) ++ tks bs fuel' (k + wid (tkAt bs k)) = T) := by
        rw [← unhide hT2, hs1, ht, List.append_assoc]; rfl
      generalize wid (tkAt bs k) = wd at *
      have HNo : Hid (∀ g, wr.heap.size ≤ g → ¬ (u4.ownBlock = some g)) := fun g hg e => by
        have := (hO.lt g e).2
        omega
      have hnob : ∀ g, u4.ownBlock = some g → w.heap.size + 2 ≤ g := fun g e => (hO.lt g e).1
      have HNob := hide hnob
      have HG : Hid (Geo (fun g => u4.ownBlock = some g) w.heap.size (w.heap.size + 1) w.heap.size (w.heap.size + 2) b bs) := unhide HGg _ (fun e => by have := hnob _ e; omega) (fun e => by have := hnob _ e; omega)
      clear hO hP hBr hmx hright hs1 ht hnob
      go_wp2_with fail
      refine (token_any _ w.heap.size (w.heap.size + 1) w.heap.size (w.heap.size + 2) b o n cap kn k bs wr (unhide HG) (unhide HL) hcap (unhide HP) hkn hlt (unhide HNo) tb ts tf HTk).mono ?_
      rintro e w2 ⟨rfl, ⟨kn2, hk2, hP2⟩, hB2, hK2⟩
      have hz2' := hB2.size
      have HP2 := hide hP2
      have HB2 := hide ((unhide HBr).trans hB2)
      have HO2 : Hid (w2.ownsRow (w.heap.size + 2) 43 3 u4 acc.length (tvs acc)) := own_kp (unhide HO) (fun g hg => hK2 g ((unhide HO).lt g hg).2 hg)
      clear hP2 hB2 hK2 HP HO HBr HP1 HB1
      have HOw := hide (((unhide HO2).alloc (.cells #[.int .u8 (tb : Int), .int .i64 ts, .int .i64 tf] 43)).alloc (.cells #[.int .u8 (tb : Int), .int .i64 ts, .int .i64 tf] 43))
      have HPw := hide (((unhide HP2).grown (unhide HG) (World.grownBy_alloc w2 (.cells #[.int .u8 (tb : Int), .int .i64 ts, .int .i64 tf] 43) none) (fun j e => by cases e)).grown (unhide HG) (World.grownBy_alloc _ (.cells #[.int .u8 (tb : Int), .int .i64 ts, .int .i64 tf] 43) none) (fun j e => by cases e))
      have HBw := hide (((unhide HB2).alloc (by omega) (.cells #[.int .u8 (tb : Int), .int .i64 ts, .int .i64 tf] 43)).alloc (by simp; omega) (.cells #[.int .u8 (tb : Int), .int .i64 ts, .int .i64 tf] 43))
      have HCw := hide (tok_cells (w2.alloc (.cells #[.int .u8 (tb : Int), .int .i64 ts, .int .i64 tf] 43)) (.int .u8 (tb : Int)) (.int .i64 ts) (.int .i64 tf) 43)
      go_wp2_with (at_builtin; refine wpList_append_own_at _ rfl _ _ 39 rfl (w.heap.size + 2) 43 i0 _ 3 24 Try.underlying39 hi hz0 hz1 hz2 rfl (by decide) u4 acc.length (tvs acc) rfl (unhide HOw) ⟨w2.heap.size + 1, 0, none⟩ 1 1 [.int .u8 (tb : Int), .int .i64 ts, .int .i64 tf] rfl rfl (by have := unhide HCw; simp only [World.size_alloc] at this; exact this) (by intro u hu; simp at hu; rcases hu with rfl | rfl | rfl <;> rfl) (by unfold maxLen; omega) (by omega) (by simp; omega) ?_)
      intro v' w3 hO3 hgrow _ hspot
      have hne : some w2.heap.size ≠ u4.ownBlock := fun e => by have := ((unhide HO2).lt _ e.symm).2; omega
      have q0 : w3.cell? ⟨w2.heap.size, 0, none⟩ = some (.int .u8 (tb : Int)) := hgrow.cell (by simp) hne
      have q1 : w3.cell? ⟨w2.heap.size, 1, none⟩ = some (.int .i64 ts) := hgrow.cell (by simp) hne
      have q2 : w3.cell? ⟨w2.heap.size, 2, none⟩ = some (.int .i64 tf) := hgrow.cell (by simp) hne
      have HO3 : Hid (w3.ownsRow (w.heap.size + 2) 43 3 v' (acc ++ [(tb, ts, tf)]).length (tvs (acc ++ [(tb, ts, tf)]))) := by
        rw [tvs_append, List.length_append]; exact hO3
      have HB3 := hide ((unhide HBw).grown hgrow (by simp; omega) (fun g e => by have := unhide HNob g e; omega))
      have HP3a := hide ((unhide HPw).grown (unhide HG) hgrow (fun g e => by have := unhide HNob g e; exact ⟨by omega, by omega, by omega, .inl e⟩))
      have HP3 : Hid (Pas (fun g => v'.ownBlock = some g) w3 (w.heap.size + 1) w.heap.size (w.heap.size + 2) b o n cap bs kn2) := (unhide HPw).turn (unhide HP3a) hgrow (fun e => by have := unhide HNob _ e.symm; omega) (fun g hg => by
        rcases hspot with h | h
        · exact .inl (by rw [← h]; exact hg)
        · refine .inr ?_
          have hg' : v'.ownBlock = some g := hg
          rw [h] at hg'
          have := Option.some.inj hg'
          simp only [World.size_alloc] at this ⊢
          omega)
      clear hO3 hgrow hspot hne HP3a HPw HBw HOw HCw HP2 HB2 HO2
      go_wp2_with fail
      refine (bytesOf_any tb ts tf w3 wd hmx').mono ?_
      rintro e w4 ⟨rfl, hg4⟩
      have HO4 := hide (own_kept (unhide HO3) hg4)
      have HB4 := hide (below_none (unhide HB3) hg4 (unhide HB3).size)
      have HP4 := hide ((unhide HP3).grown (unhide HGg _ (fun e => by have := ((unhide HO3).lt _ e).1; omega) (fun e => by have := ((unhide HO3).lt _ e).1; omega)) hg4 (fun j e => by cases e))
      clear hg4 q0 q1 q2
      go_wp2
      go_roundw
      case rel => exact ⟨k + wd, fuel', kn2, acc ++ [(tb, ts, tf)], by omega, by go_num, unhide HTn, by omega, by simp; omega, by omega, unhide HO4, unhide HP4, unhide HB4⟩
      case measure => simp [intOf]; omega
    · obtain rfl : n = k := by omega
      have e : acc = T := by
        have := unhide hT2
        rw [tks_done bs fuel n (by omega), List.append_nil] at this
        exact this
      have HO5 := own_mono (unhide HO) (show w.heap.size ≤ w.heap.size + 2 by omega)
      rw [e, ← unhide HTT] at HO5
      have HO6 := hide HO5
      clear hO hP hBr HO5
      go_wp2
      go_ret2
      exact ⟨u4, rfl, unhide HO6, unhide HBr⟩
end Go.Proofs.Ytmafecagcglaoah
