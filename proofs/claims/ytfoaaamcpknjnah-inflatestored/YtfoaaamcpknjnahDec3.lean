/-
  Package inflate: how far.
-/
import Derived.Test.YtfoaaamcpknjnahDec2
import Derived.Test.YtfoaaamcpknjnahInf3
namespace Go.Proofs.Ytfoaaamcpknjnah
open Go.RowKit
set_option linter.unusedVariables false
set_option maxRecDepth 100000

/-- how far, by the program -/
def ihow (row : List Bool) (lb : List Int) (u : US) : Nat × US :=
  if (uplace lb row u).2.e ≠ 0 then (0, (uplace lb row u).2)
  else if 29 < (uplace lb row u).1 then (0, { (uplace lb row u).2 with e := 8 })
  else ((leastF (uplace lb row u).1).1 + (uget row (leastF (uplace lb row u).1).2 (uplace lb row u).2).1, (uget row (leastF (uplace lb row u).1).2 (uplace lb row u).2).2)
theorem nextF_le (l : List Int) (row : List Bool) (p : Nat) (hp : p ≤ row.length) : ∀ f n, p + (nextF l row p f n).2.1 ≤ row.length
  | 0, n => by simpa [nextF] using hp
  | f + 1, n => by
    unfold nextF
    split
    · simpa using hp
    · split
      · show p + n ≤ row.length
        omega
      · exact nextF_le l row p hp f (n + 1)
theorem uplace_le (l : List Int) (row : List Bool) (u : US) (hp : u.p ≤ row.length) : (uplace l row u).2.p ≤ row.length := by
  unfold uplace
  split
  · exact nextF_le l row u.p hp 15 1
  · exact hp
theorem leastF_le : ∀ k, k ≤ 29 → (leastF k).1 ≤ 40000 ∧ (leastF k).2 ≤ 16 := by decide
theorem Got.from {No : Nat → Prop} {B b : Nat} {w w1 w' : World} {R f1 f2 v : Value} {u : US} {e : Ending} (h : Got No B w1 b R f1 f2 v u e w') (hB : Below B w w1) (hK : Kp No w w1) : Got No B w b R f1 f2 v u e w' := by
  rcases h with ⟨h1, h2, h3⟩ | ⟨h1, h2, h3⟩
  · exact .inl ⟨h1, h2, h3.is, hB.trans h3.below, hK.trans h3.kp hB.size⟩
  · exact .inr ⟨h1, h2, hB.trans h3.below, hK.trans h3.kp hB.size⟩

set_option maxHeartbeats 4000000 in
theorem ihowFar_any (No : Nat → Prop) (B b : Nat) (a : Option Addr) (n cap : Nat) (bs : List Nat) (f1 f2 : Value) (u : US) (w : World) (h : IIs No B w b (.slice a n cap) f1 f2 u) (hR : Rd w No a n bs) (hp : u.p ≤ 8 * n) (he : u.e = 0) (g1 g2 gr gm mb nn : Nat) (l : List Int) (hD : DIs w gr gm mb nn b l) (hG : Good l) (hN : No gr ∧ No gm ∧ No mb) (hNo : ∀ g, w.heap.size ≤ g → ¬ No g) (k : Nat) (v : US) (hr : Hid (ihow (rowB bs n) l u = (k, v))) :
    Calls Try.prog 85 #[.pointer (some ⟨b, 0, none⟩), .agg #[DV g1 g2, DV gr gm]] w fun e w' => Got No B w b (.slice a n cap) f1 f2 (.int .i64 (k : Int)) v e w' := by
  have hrl := rowB_length bs n
  obtain ⟨k1, v1, h1⟩ : ∃ k1 v1, uplace l (rowB bs n) u = (k1, v1) := ⟨_, _, rfl⟩
  have hv1p : v1.p ≤ 8 * n := by
    have := uplace_le l (rowB bs n) u (by omega)
    rw [h1, hrl] at this
    exact this
  have HI : Hid ((v1.e ≠ 0 → v = v1) ∧ (v1.e = 0 → 29 < k1 → v = { v1 with e := 8 }) ∧ (v1.e = 0 → k1 ≤ 29 → k = (leastF k1).1 + (uget (rowB bs n) (leastF k1).2 v1).1 ∧ v = (uget (rowB bs n) (leastF k1).2 v1).2)) := hide (by
    have := unhide hr
    unfold ihow at this
    rw [h1] at this
    refine ⟨fun e => ?_, fun e e2 => ?_, fun e e2 => ?_⟩
    · rw [if_pos e] at this
      exact (Prod.mk.inj this).2.symm
    · rw [if_neg (by simpa using e), if_pos e2] at this
      exact (Prod.mk.inj this).2.symm
    · rw [if_neg (by simpa using e), if_neg (by omega)] at this
      exact ⟨(Prod.mk.inj this).1.symm, (Prod.mk.inj this).2.symm⟩)
  obtain ⟨W1, hW1⟩ : ∃ W1, w.alloc (.cells #[DV g1 g2, DV gr gm] 89) = W1 := ⟨_, rfl⟩
  have hbl := h.lt
  have hbw : B ≤ w.heap.size := by have := h.base; omega
  have B1 : Below w.heap.size w W1 := by rw [← hW1]; exact (Below.refl _ _).alloc (Nat.le_refl _) _
  have hK1 : Kp No w W1 := fun g hg _ => B1.block g hg
  have hz1 : W1.heap.size = w.heap.size + 1 := by rw [← hW1]; simp
  have hnew : W1.heap[w.heap.size]? = some (.cells #[DV g1 g2, DV gr gm] 89 (0, 0)) := by rw [← hW1]; exact heap_alloc_new _ _
  have cW1 : W1.cell? ⟨w.heap.size, 1, none⟩ = some (DV gr gm) := heap_row hnew
  have I1 := h.grown (w' := W1) (by rw [← hW1]; exact World.grownBy_alloc w _ none)
  have R1 := hR.keep (by omega) hK1
  have hgl := hD.lt
  have hml := hD.is.lt
  have D1 : DIs W1 gr gm mb nn b l := hD.keep (by omega) (B1.block gr (by omega)) (B1.block gm (by omega)) (B1.block mb (by omega))
  have HS := hide (sym_any No B b a n cap bs f1 f2 u W1 I1 R1 hp he gr gm mb nn l D1 hG hN (fun g hg => hNo g (by omega)) k1 v1 (hide h1))
  have HB1 := hide (B1.mono hbw)
  have HK1 := hide hK1
  have HR1 := hide R1
  have HZ := hide hz1
  clear h hR hp he hD hG hN hNo hr h1 B1 hK1 I1 R1 D1 hz1 hgl hml hnew
  go_enter Try.func85, Try.ntmps85
  go_wp2_with fail
  refine (unhide HS).mono ?_
  rintro e w2 hg
  rcases hg with ⟨e0, rfl, hU⟩ | ⟨e0, rfl, hBl⟩
  · have HU := hide hU
    clear hU
    by_cases hk : 29 < k1
    · have hkI : (30 : Int) ≤ (k1 : Int) := by omega
      have hv := (unhide HI).2.1 e0 hk
      have HV := hide hv
      clear hv HI
      go_wp2_with fail
      refine (giveUp_any 8 _).mono ?_
      rintro e w3 ⟨rfl, rfl⟩
      go_wp2
      exact ⟨rfl, .inr ⟨by rw [unhide HV]; exact (by decide : (8 : Int) ≠ 0), by rw [unhide HV], (unhide HB1).trans (unhide HU).below, (unhide HK1).trans (unhide HU).kp (unhide HB1).size⟩⟩
    · have hkI : ¬ (30 : Int) ≤ (k1 : Int) := by omega
      obtain ⟨hk1, hv⟩ := (unhide HI).2.2 e0 (by omega)
      obtain ⟨hl1, hl2⟩ := leastF_le k1 (by omega)
      obtain ⟨r, v2, hg⟩ : ∃ r v2, uget (rowB bs n) (leastF k1).2 v1 = (r, v2) := ⟨_, _, rfl⟩
      rw [hg] at hk1 hv
      have HWR := hide (withRest_any No B b a n cap (leastF k1).2 (leastF k1).1 bs f1 f2 v1 w2 (unhide HU).is ((unhide HR1).keep (unhide HU).below.size (unhide HU).kp) hv1p e0 hl2 hl1 r v2 (hide hg))
      have HLF := hide (leastFar_any k1 w2 (by omega))
      have HKV : Hid (k = (leastF k1).1 + r ∧ v = v2) := hide ⟨hk1, hv⟩
      clear hk1 hv hg HI hl1 hl2
      generalize leastF k1 = LF at *
      obtain ⟨L1, L2⟩ := LF
      go_wp2_with fail
      refine (unhide HLF).mono ?_
      rintro e w3 ⟨rfl, rfl⟩
      go_wp2_with fail
      refine (unhide HWR).mono ?_
      rintro e w4 hg
      have HG4 := hide (Got.from hg ((unhide HB1).trans (unhide HU).below) ((unhide HK1).trans (unhide HU).kp (unhide HB1).size))
      rcases hg with ⟨e4, rfl, hU4⟩ | ⟨e4, rfl, hB4⟩
      · clear hU4
        go_wp2
        go_ret
        rw [(unhide HKV).1, (unhide HKV).2]
        exact unhide HG4
      · clear hB4
        go_wp2
        refine ⟨rfl, ?_⟩
        rw [(unhide HKV).1, (unhide HKV).2]
        exact unhide HG4
  · have HBl := hide hBl
    have HV := hide ((unhide HI).1 e0)
    clear hBl
    go_wp2
    exact ⟨rfl, .inr ⟨by rw [unhide HV]; exact e0, by rw [unhide HV], (unhide HB1).trans (unhide HBl).below, (unhide HK1).trans (unhide HBl).kp (unhide HB1).size⟩⟩
end Go.Proofs.Ytfoaaamcpknjnah
