/-
  The walk of the law GzPack.
-/
import Derived.Test.YtfoaaamcpknjnadGreatQ51
import Derived.Test.YtfoaaamcpknjnadGreatQ0
import Derived.Deep.Slices
namespace Go.Proofs.YtfoaaamcpknjnadGreat
open Go.RowKit
set_option linter.unusedVariables false
set_option linter.unusedSimpArgs false
set_option maxRecDepth 100000

theorem tail_arr (c n : Nat) (hc : c < 4294967296) (hn : n ≤ 3000) : (#[Value.int IntKind.u8 ((c : Int) % 256), Value.int IntKind.u8 ((c : Int) / 256 % 256), Value.int IntKind.u8 ((c : Int) / 65536 % 256), Value.int IntKind.u8 ((c : Int) / 16777216), Value.int IntKind.u8 ((n : Int) % 256), Value.int IntKind.u8 ((n : Int) / 256), Value.int IntKind.u8 0, Value.int IntKind.u8 0] : Array Value) = (u8s (tailL c n)).toArray := by
  simp only [u8s, tailL, List.map_cons, List.map_nil]
  have e1 : (c : Int) / 16777216 = ((c / 16777216 % 256 : Nat) : Int) := by omega
  have e2 : (n : Int) / 256 = ((n / 256 % 256 : Nat) : Int) := by omega
  have e3 : n / 65536 % 256 = 0 := by omega
  have e4 : n / 16777216 % 256 = 0 := by omega
  rw [e1, e2, e3, e4]
  rfl
theorem head_arr : (#[Value.int IntKind.u8 31, Value.int IntKind.u8 139, Value.int IntKind.u8 8, Value.int IntKind.u8 0, Value.int IntKind.u8 0, Value.int IntKind.u8 0, Value.int IntKind.u8 0, Value.int IntKind.u8 0, Value.int IntKind.u8 0, Value.int IntKind.u8 255] : Array Value) = (u8s headL).toArray := rfl

set_option maxHeartbeats 2000000 in
theorem gzp_many (a : Option Addr) (n cap : Nat) (bs : List Nat) (w : World) (hl : bs.length = n) (hcap : n ≤ cap) (hnil : a = none → cap = 0) (hB : BytesIn w a bs) (hx : ∀ j, bs.getD j 0 < 256) (hm : n ≤ 9223372036854775807) (h : 3000 < n) : Calls Tryz.prog 3 #[.slice a n cap] w fun e w' => e = .returned (.bool true) ∧ Below w.heap.size w w' := by
  have HPM := hide (gzPack_many a n cap bs w hl hcap hnil hB hx hm h)
  have HBM := hide (fun W (hW : Below w.heap.size w W) => best_many a n cap bs W hl hcap hnil (hB.below hW (Nat.le_refl _)) hx hm h)
  clear hB hx hnil
  have hnI : (3000 : Int) < (n : Int) := by omega
  go_enter Tryz.func3, Tryz.ntmps3
  go_wp2_with fail
  refine (unhide HPM).mono ?_
  rintro e w1 ⟨rfl, hB1⟩
  have HB1 := hide hB1
  have hz1 := hB1.size
  clear hB1 HPM
  go_wp2_with fail
  refine (unhide HBM _ (unhide HB1)).mono ?_
  rintro e w2 ⟨rfl, hB2⟩
  have HB2 := hide ((unhide HB1).trans (hB2.mono hz1))
  have hz2 := (unhide HB2).size
  clear hB2 HBM
  go_wp2_with fail
  refine (zipped_any _).mono ?_
  rintro e w3 ⟨rfl, hB3⟩
  have HB3 := hide ((unhide HB2).trans (hB3.mono hz2))
  have hz3 := (unhide HB3).size
  clear hB3
  go_wp2_with fail
  refine (zipped_any _).mono ?_
  rintro e w4 ⟨rfl, hB4⟩
  have HB4 := hide ((unhide HB3).trans (hB4.mono hz3))
  clear hB4
  go_wp2
  go_ret
  exact ⟨rfl, unhide HB4⟩

set_option maxHeartbeats 4000000 in
theorem gzp_few (a : Option Addr) (n cap : Nat) (bs : List Nat) (w : World) (hl : bs.length = n) (hcap : n ≤ cap) (hnil : a = none → cap = 0) (hB : BytesIn w a bs) (hx : ∀ j, bs.getD j 0 < 256) (hn : n ≤ 3000) : Calls Tryz.prog 3 #[.slice a n cap] w fun e w' => e = .returned (.bool true) ∧ Below w.heap.size w w' := by
  have HPO := hide (gzPack_ok a n cap bs w hl hcap hnil hB hx hn)
  have HBO := hide (fun W (hW : Below w.heap.size w W) => best_ok a n cap bs W hl hcap hnil (hB.below hW (Nat.le_refl _)) hx hn)
  have HCR := hide (fun W (hW : Below w.heap.size w W) => crcOf_any 0 a n cap bs W hl (by omega) (by decide) (hB.below hW (Nat.le_refl _)) hx)
  have HSM : Hid (∀ out k, IsOne bs k out → out.length ≤ 30000) := hide (fun out k h => by have := one_small h hx (by omega); omega)
  have hlt : crcN 0 bs < 4294967296 := crcN_lt (fun x hx' => by
    obtain ⟨i, hi, rfl⟩ := List.getElem_of_mem hx'
    have := hx i
    rw [List.getD, List.getElem?_eq_getElem hi] at this
    exact this) (by decide)
  obtain ⟨cr, hcr⟩ : ∃ cr, crcN 0 bs = cr := ⟨_, rfl⟩
  obtain ⟨K3, hK3⟩ : ∃ K3, bestP bs 3 = K3 := ⟨_, rfl⟩
  obtain ⟨L, hL⟩ : ∃ L, lenP bs K3 = L := ⟨_, rfl⟩
  unfold GzP at HPO
  rw [hcr] at HCR hlt
  rw [hcr, hK3] at HPO
  rw [hK3, hL] at HBO
  have HL := hide hL
  have hnI : ¬ (3000 : Int) < (n : Int) := by omega
  clear hB hx hnil hcr hK3 hL hl
  go_enter Tryz.func3, Tryz.ntmps3
  go_wp2_with fail
  refine (unhide HPO).mono ?_
  rintro e w1 ⟨hB1, x, c1, out, hc1, rfl, hI1, hy1⟩
  have hl1 : out.length = L := by rw [hI1.len, unhide HL]
  have hL3 : L ≤ 30000 := by rw [← hl1]; exact unhide HSM _ _ hI1
  rw [hl1]
  have HB1 := hide hB1
  have hz1 := hB1.size
  have HI1 := hide hI1
  have HY1 := hide hy1
  have HL1 := hide hl1
  clear hB1 HPO hI1 hy1 hl1 hc1
  go_wp2_with fail
  refine (unhide HBO _ (unhide HB1)).mono ?_
  rintro e w2 ⟨g, c2, out2, rfl, hg2, hy2, hI2, hB2⟩
  have hoo : out2 = out := hI2.one (unhide HI1)
  subst hoo
  have HY1b := hide ((unhide HY1).below hB2 (Nat.le_refl _))
  have HB2 := hide ((unhide HB1).trans (hB2.mono hz1))
  have HY2 := hide hy2
  have hz2 := (unhide HB2).size
  clear hB2 HBO HY1 hy2 hI2
  go_wp2_with fail
  refine (zipped_any _).mono ?_
  rintro e w3 ⟨rfl, hB3⟩
  have HY1c := hide ((unhide HY1b).below hB3 (Nat.le_refl _))
  have HY3 := hide ((unhide HY2).below hB3 hg2)
  have hg3 : g < w3.heap.size := Nat.lt_of_lt_of_le hg2 hB3.size
  have HB3 := hide ((unhide HB2).trans (hB3.mono hz2))
  clear hB3 HY1b HY2 hg2
  go_wp2_with fail
  refine (unhide HCR _ (unhide HB3)).mono ?_
  rintro e w4 ⟨rfl, rfl⟩
  go_wp2_with fail
  have hT := tail_arr cr n hlt hn
  rw [hT, head_arr]
  generalize hTL : tailL cr n = TL at HY1c ⊢
  generalize hHL : headL = HL at HY1c ⊢
  have hTl : TL.length = 8 := by rw [← hTL]; rfl
  have hHl : HL.length = 10 := by rw [← hHL]; rfl
  have hTv : ∀ j, TL.getD j 0 < 256 := by rw [← hTL]; exact tail_val _ _
  have hHv : ∀ j, HL.getD j 0 < 256 := by rw [← hHL]; exact head_val
  generalize hA1 : w4.alloc (.cells (u8s TL).toArray 5) = wa
  generalize hA2 : wa.alloc (.cells (u8s HL).toArray 5) = wb
  have hza : wa.heap.size = w4.heap.size + 1 := by rw [← hA1]; simp
  have hzb : wb.heap.size = w4.heap.size + 1 + 1 := by rw [← hA2]; simp [hza]
  have hBa : Below w4.heap.size w4 wa := by rw [← hA1]; exact (Below.refl _ _).alloc (Nat.le_refl _) _
  have hBb : Below wa.heap.size wa wb := by rw [← hA2]; exact (Below.refl _ _).alloc (Nat.le_refl _) _
  have hBab : Below w4.heap.size w4 wb := hBa.trans (hBb.mono (by omega))
  have uT : URow 5 wb w4.heap.size TL := (by rw [← hA1]; exact heap_alloc_new _ _ : URow 5 wa w4.heap.size TL).keep (hBb.block _ (by omega))
  have uH : URow 5 wb (w4.heap.size + 1) HL := by rw [← hza, ← hA2]; exact heap_alloc_new _ _
  have HCC := hide (three_rows wb (some ⟨w4.heap.size + 1, 0, none⟩) (some ⟨g, 0, none⟩) (some ⟨w4.heap.size, 0, none⟩) 10 L 8 10 c2 8 3 HL out2 TL 22 hHl (unhide HL1) hTl (.inr ⟨_, 0, rfl, uH.lt, uH.bytes⟩) (.inr ⟨g, 0, rfl, by omega, (unhide HY3).below hBab hg3⟩) (.inr ⟨_, 0, rfl, uT.lt, uT.bytes⟩) (by omega))
  rw [hzb] at HCC
  refine (unhide HCC).mono ?_
  rintro e w5 ⟨y, c5, hc5, rfl, hby5, hB5⟩
  have hI := unhide HI1
  have hv : ∀ j, (HL ++ out2 ++ TL).getD j 0 < 256 := app_lt (app_lt hHv hI.val) hTv
  have hlen : (HL ++ out2 ++ TL).length = 10 + L + 8 := by rw [List.length_append, List.length_append, hHl, hTl, unhide HL1]
  have hbb : ((HL ++ out2 ++ TL) == (HL ++ out2 ++ TL)) = true := by simp
  have hB45 : Below w4.heap.size w4 w5 := hBab.trans (hB5.mono (by omega))
  have HQ := hide (bequal_in x y (10 + L + 8) c1 (10 + L + 8) c5 (HL ++ out2 ++ TL) (HL ++ out2 ++ TL) w5 hlen hlen hv hv ((unhide HY1c).below hB45 (Nat.le_refl _)) hby5)
  rw [hbb] at HQ
  have HB5 := hide ((unhide HB3).trans (hB45.mono (unhide HB3).size))
  clear hby5 hB5 hc5 HCC uT uH hBab hBa hBb hza hzb hA1 hA2 hv hlen hbb hB45 hI hTv hHv hTl hHl hTL hHL HY1c HY3 hT
  dsimp only
  go_wp2_with fail
  refine (unhide HQ).mono ?_
  rintro e w6 ⟨rfl, rfl⟩
  go_wp2
  go_ret
  exact ⟨rfl, unhide HB5⟩
end Go.Proofs.YtfoaaamcpknjnadGreat

/-
  Rows of bytes as arguments.
-/
namespace Go.Proofs.YtfoaaamcpknjnadGreat
open Go.RowKit Go.ChangeShapes Go.WideShapes Go.ChangeAt Go.Deep
set_option linter.unusedVariables false

theorem add_plain (b o j : Nat) : (⟨b, o, none⟩ : Addr).add j = ⟨b, o + j, none⟩ := by unfold Addr.add; split <;> simp_all

theorem cells5 : Tryz.prog.cellsOf 5 = 1 := by kernel_rfl

theorem open_bytes {H : Type} {enc : TypeId × Value → H} {w : World} {fuel : Nat} {a0 : Option Addr} {l0 c0 : Nat} {x : DataW H × List MemPlace}
    (h : DataW.trod enc Tryz.prog w 0 (fun _ => true) true fuel 22 [.slice a0 l0 c0] = some x) : l0 ≤ maxLen ∧ ∃ xs, xs.length = l0 ∧ (∀ j, xs.getD j 0 < 256) ∧ BytesIn w a0 xs := by
  rcases open_ints Tryz.underlying22 Tryz.underlying5 cells5 h with ⟨hcs, _⟩ | ⟨a, l, c, zs, hcs, _, hl, hm, hz, _, hcell, hwz⟩
  · simp at hcs
    obtain ⟨rfl, rfl, rfl⟩ := hcs
    exact ⟨Nat.zero_le _, [], rfl, fun j => by simp, .inl rfl⟩
  · simp at hcs
    obtain ⟨rfl, rfl, rfl⟩ := hcs
    have hz' : zs.length = c0 := by simpa using hz
    have hb : ∀ j, j < zs.length → 0 ≤ zs.getD j 0 ∧ zs.getD j 0 ≤ 255 := by
      intro j hj
      have hmem : zs.getD j 0 ∈ zs := by simp [List.getD, hj]
      have := hwz _ hmem
      simpa [Lit.wf, IntKind.min, IntKind.max, IntKind.signed, IntKind.bits] using this
    have e1 : ∀ j, j < l0 → ((zs.take l0).map Int.toNat).getD j 0 = (zs.getD j 0).toNat := by
      intro j hj
      have : j < zs.length := by omega
      simp [List.getD, hj, this]
    refine ⟨Nat.le_trans hl hm, (zs.take l0).map Int.toNat, by simp; omega, ?_, ?_⟩
    · intro j
      by_cases hj : j < l0
      · rw [e1 j hj]
        have := hb j (by omega)
        omega
      · have : ((zs.take l0).map Int.toNat).length ≤ j := by simp; omega
        rw [List.getD_eq_getElem?_getD, List.getElem?_eq_none this]; simp
    by_cases h0 : l0 = 0
    · subst h0
      exact .inl rfl
    · obtain ⟨b, o, spot⟩ := a
      have hc := hcell 0 (by omega)
      have hspot : spot = none := by simpa [Addr.add] using World.cell?_spot hc
      subst hspot
      refine .inr ⟨b, o, rfl, ?_, ?_⟩
      · have := World.block_lt_of_cell? _ _ hc
        simpa [Addr.add] using this
      · intro j hj
        have hj' : j < l0 := by simp at hj; omega
        have h1 := hcell j (by omega)
        rw [e1 j hj', Int.toNat_of_nonneg (hb j (by omega)).1]
        rw [add_plain] at h1
        exact h1
theorem open_cap {H : Type} {enc : TypeId × Value → H} {w : World} {fuel : Nat} {a0 : Option Addr} {l0 c0 : Nat} {x : DataW H × List MemPlace}
    (h : DataW.trod enc Tryz.prog w 0 (fun _ => true) true fuel 22 [.slice a0 l0 c0] = some x) : l0 ≤ c0 := by
  rcases open_ints Tryz.underlying22 Tryz.underlying5 cells5 h with ⟨hcs, _⟩ | ⟨a, l, c, zs, hcs, _, hl, hm, hz, _, hcell, hwz⟩
  · simp at hcs
    obtain ⟨rfl, rfl, rfl⟩ := hcs
    exact Nat.le_refl _
  · simp at hcs
    obtain ⟨rfl, rfl, rfl⟩ := hcs
    exact hl
end Go.Proofs.YtfoaaamcpknjnadGreat

/-
  How the arguments of a law lie in memory: a slice of numbers, of bytes is nil, or empty, or leads to a row that holds them.
-/
namespace Go.Proofs.YtfoaaamcpknjnadGreat
open Go.RowKit Go.ChangeShapes Go.WideShapes Go.ChangeAt Go.Deep
set_option linter.unusedVariables false

theorem cells3 : Tryz.prog.cellsOf 3 = 1 := by kernel_rfl
theorem open_nums {H : Type} {enc : TypeId × Value → H} {w : World} {fuel : Nat} {a0 : Option Addr} {l0 c0 : Nat} {x : DataW H × List MemPlace}
    (h : DataW.trod enc Tryz.prog w 0 (fun _ => true) true fuel 37 [.slice a0 l0 c0] = some x) : l0 ≤ maxLen ∧ ∃ xs, xs.length = l0 ∧ RowIn .i64 w a0 xs := by
  rcases open_ints Tryz.underlying37 Tryz.underlying3 cells3 h with ⟨hcs, _⟩ | ⟨a, l, c, zs, hcs, _, hl, hm, hz, _, hcell, hwz⟩
  · simp at hcs
    obtain ⟨rfl, rfl, rfl⟩ := hcs
    exact ⟨Nat.zero_le _, [], rfl, .inl rfl⟩
  · simp at hcs
    obtain ⟨rfl, rfl, rfl⟩ := hcs
    refine ⟨Nat.le_trans hl hm, zs.take l0, by simp at hz; simp; omega, ?_⟩
    by_cases h0 : l0 = 0
    · subst h0
      exact .inl rfl
    · obtain ⟨b, o, spot⟩ := a
      have hz' : zs.length = c0 := by simpa using hz
      have hc := hcell 0 (by omega)
      have hspot : spot = none := by simpa [Addr.add] using World.cell?_spot hc
      subst hspot
      refine .inr ⟨b, o, rfl, ?_, ?_⟩
      · have := World.block_lt_of_cell? _ _ hc
        simpa [Addr.add] using this
      · intro j hj
        have hj' : j < l0 := by simp at hj; omega
        have := hcell j (by omega)
        have e : (zs.take l0).getD j 0 = zs.getD j 0 := by simp [List.getD, hj']
        rw [e]
        rw [add_plain] at this
        exact this

end Go.Proofs.YtfoaaamcpknjnadGreat
