/-
  What weigh.rising answers: all that is wanted, the least first.
-/
import Derived.Test.YtmafecagcglaoabWeigh0
import Derived.Test.YtmafecagcglaoabCmp5
namespace Go.Proofs.Ytmafecagcglaoab
open Go.RowKit
set_option linter.unusedVariables false

/-- a row of numbers in block g that may be written -/
structure WRow (w : World) (g : Nat) (xs : List Int) : Prop where
  lt : g < w.heap.size
  at_ : ∀ j, j < xs.length → w.cell? ⟨g, j, none⟩ = some (.int .i64 (xs.getD j 0)) ∧ w.frozen? ⟨g, j, none⟩ = false
theorem WRow.row {w : World} {g : Nat} {xs : List Int} (h : WRow w g xs) : RowIn .i64 w (some ⟨g, 0, none⟩) xs := .inr ⟨g, 0, rfl, h.lt, fun j hj => by rw [Nat.zero_add]; exact (h.at_ j hj).1⟩
theorem WRow.grown {w w' : World} {g : Nat} {xs : List Int} {r : Option Nat} (h : WRow w g xs) (hg : w.grownBy w' r) (hne : some g ≠ r) : WRow w' g xs := by
  refine ⟨Nat.lt_of_lt_of_le h.lt hg.size, fun j hj => ?_⟩
  have e := hg.block g h.lt hne
  exact ⟨by rw [World.cell?_of_block (w := w) (a := ⟨g, j, none⟩) e]; exact (h.at_ j hj).1, by rw [World.frozen?_of_block (w := w) (a := ⟨g, j, none⟩) e]; exact (h.at_ j hj).2⟩
theorem WRow.below {w w' : World} {B g : Nat} {xs : List Int} (h : WRow w g xs) (hB : Below B w w') (hb : g < B) : WRow w' g xs :=
  ⟨Nat.lt_of_lt_of_le h.lt hB.size, fun j hj => ⟨by rw [hB.cell (p := ⟨g, j, none⟩) hb]; exact (h.at_ j hj).1, by rw [hB.frozen (p := ⟨g, j, none⟩) hb]; exact (h.at_ j hj).2⟩⟩
theorem WRow.own {w : World} {B g n cap : Nat} {xs : List Int} (h : w.ownsRow B 3 1 (.slice (some ⟨g, 0, none⟩) n cap) n (iv xs)) : WRow w g xs := by
  refine ⟨(h.lt g rfl).2, fun j hj => ⟨?_, h.frozenAt j⟩⟩
  have hn : xs.length = n := by have := h.1; simpa using this
  rw [h.cellAt j (by omega)]
  simp [List.getD, hj]
theorem WRow.set {w : World} {g : Nat} {xs : List Int} (h : WRow w g xs) (i : Nat) (hi : i < xs.length) (v : Int) : WRow (w.setCell ⟨g, i, none⟩ (.int .i64 v)) g (xs.set i v) := by
  refine ⟨by simpa using h.lt, fun j hj => ?_⟩
  rw [List.length_set] at hj
  refine ⟨?_, by simp [(h.at_ j hj).2]⟩
  by_cases e : i = j
  · subst e
    rw [World.cell?_setCell_same _ _ _ (h.at_ i hj).1]
    simp [List.getD, hi]
  · rw [World.cell?_setCell_other _ _ _ _ (by intro h; injection h; omega), (h.at_ j hj).1]
    simp [List.getD, e]
theorem WRow.other {w : World} {g : Nat} {xs : List Int} (h : WRow w g xs) {a : Addr} (ha : a.block ≠ g) (v : Value) : WRow (w.setCell a v) g xs := by
  refine ⟨by simpa using h.lt, fun j hj => ⟨?_, by simp [(h.at_ j hj).2]⟩⟩
  rw [World.cell?_setCell_other _ _ _ _ (by intro h; subst h; exact ha rfl)]
  exact (h.at_ j hj).1

theorem WRow.drew {w : World} {g : Nat} {xs : List Int} (h : WRow w g xs) : WRow w.drew g xs := ⟨h.lt, h.at_⟩

abbrev ni (P : List Nat) : List Int := P.map fun p : Nat => (p : Int)

/-- the places with how often they are wanted -/
def dOf (l : List Int) (P : List Nat) (k : Nat) : Int × Int := (l.getD (P.getD k 0) 0, (P.getD k 0 : Nat))
theorem seg_dOf (l : List Int) (P : List Nat) : (Stab.seg (dOf l P) 0 P.length).map (fun x => x.2.toNat) = P := by
  apply List.ext_getElem
  · simp [Stab.seg]
  · intro i h1 h2
    simp [Stab.seg, dOf, List.getD, h2]

theorem rise_of {l : List Int} {N bp : Nat} {w' : World} {d' : Nat → Int × Int} (hN : N = (wpl l l.length).length) (hP : PC N bp l d' w') (hM : Stab.Moved 0 N (dOf l (wpl l l.length)) d') (hS : Stab.Srt Stab.lx d' 0 N) (P : List Nat) (hE : P = (Stab.seg d' 0 N).map fun x => x.2.toNat) : RiseOf l P := by
  have hlen : P.length = N := by rw [hE]; simp [Stab.seg]
  have hget : ∀ i (h : i < P.length), P[i] = (d' i).2.toNat := by
    intro i h
    simp [hE, Stab.seg]
  refine ⟨?_, ?_⟩
  · have := hM.perm.map (fun x : Int × Int => x.2.toNat)
    rw [← hE, hN, seg_dOf] at this
    exact this
  · rw [List.pairwise_iff_getElem]
    intro i j hi hj hij
    have hi' : i < N := by omega
    have hj' : j < N := by omega
    obtain ⟨_, p, p1, p2, p3⟩ := hP i hi'
    obtain ⟨_, q, q1, q2, q3⟩ := hP j hj'
    have h := hS i j (Nat.zero_le _) hij hj'
    unfold Stab.lx at h
    rw [hget i hi, hget j hj, p1, q1, Int.toNat_natCast, Int.toNat_natCast]
    rw [p1, q1, p3, q3] at h
    omega

set_option maxHeartbeats 1000000 in
set_option maxRecDepth 100000 in
theorem rising_any (a : Option Addr) (len cap : Nat) (l : List Int) (w : World) (hl : l.length = len) (hlen : len ≤ 288) (hR : RowIn .i64 w a l) :
    Calls Try.prog 48 #[.slice a len cap] w fun e w' => ∃ v P, e = .returned v ∧ RiseOf l P ∧ Below w.heap.size w w' ∧ ((P = [] ∧ v = .slice none 0 0) ∨ ∃ g c, v = .slice (some ⟨g, 0, none⟩) P.length c ∧ P.length ≤ c ∧ c ≤ maxLen ∧ w.heap.size ≤ g ∧ WRow w' g (ni P)) := by
  obtain ⟨i0, hi, hz0, hz1, hz2⟩ := info_parts info_int
  have HL := hide hl
  have HR := hide hR
  have hbox : (w.alloc (.cells #[.slice a len cap] 22)).cell? ⟨w.heap.size, 0, none⟩ = some (.slice a len cap) := by simp
  clear hR
  have HB0 := hide ((Below.refl w.heap.size w).alloc (Nat.le_refl _) (.cells #[.slice a len cap] 22))
  go_enter Try.func48, Try.ntmps48
  go_wp2
  go_loopw [3, 4, 5, 8] (fun vo _ _ i wr => ∃ k : Nat, k ≤ len ∧ i = .int .i64 k ∧ wr.ownsRow (w.heap.size + 1) 3 1 vo (wpl l k).length (i64s (wpl l k)) ∧ (wpl l k = [] → vo = .slice none 0 0) ∧ Below (w.heap.size + 1) (w.alloc (.cells #[.slice a len cap] 22)) wr) (fun _ _ _ i _ => len - (intOf i).toNat)
  case atStart => exact ⟨0, Nat.zero_le _, rfl, ⟨rfl, .inl ⟨rfl, rfl⟩⟩, fun _ => rfl, Below.refl _ _⟩
  case round =>
    obtain ⟨k, hk, rfl, hO, hV, hB⟩ := hrel
    have HV := hide hV
    clear hV
    have HO := hide hO
    have HB := hide hB
    have hzr := hB.size
    simp only [World.size_alloc] at hzr
    by_cases hlt : k < len
    · have hlk : k < l.length := by omega
      obtain ⟨b, o, rfl, hb, hR⟩ : ∃ b o, a = some ⟨b, o, none⟩ ∧ b < w.heap.size ∧ Row .i64 w b o l := by
        rcases unhide HR with rfl | h
        · simp at hlk
        · exact h
      have c1 := ((unhide HB).cell (p := ⟨b, o + k, none⟩) (by simp; omega)).trans ((World.cell?_alloc_past _ _ _ hb).trans (hR k hlk))
      have hpl := wpl_le l k
      have HN : Hid (wpl l (k + 1) = wpl l k ++ (if 0 < l.getD k 0 then [k] else [])) := rfl
      clear hO hB hR
      generalize l.getD k 0 = x at *
      by_cases hx : 0 < x
      · rw [if_pos hx] at HN
        go_wp2_with (at_builtin; refine wpList_append_own _ rfl _ _ 22 rfl (w.heap.size + 1) 3 i0 (.int .i64 0) 1 8 Try.underlying22 hi hz0 hz1 hz2 rfl (by decide) _ _ _ rfl ((unhide HO).alloc _) ⟨wr.heap.size, 0, none⟩ 1 1 [.int .i64 (k : Int)] rfl rfl (by intro j u hj; match j, hj with | 0, hj => simp at hj; subst hj; simp [Addr.add]) (by intro u hu; simp at hu; subst hu; rfl) (by unfold maxLen; omega) (by omega) (by simp; omega) ?_)
        intro v' w1 hO1 hgrow _
        have HO1 := hide hO1
        have HB1 := hide (((unhide HB).alloc (by omega) _).grown hgrow (by simp; omega) (fun k hk => ((unhide HO).lt k hk).1))
        clear hO1 hgrow
        go_wp2
        go_roundw
        case rel =>
          refine ⟨k + 1, by omega, by go_num, ?_, fun h => by rw [unhide HN] at h; simp at h, unhide HB1⟩
          have e : i64s (wpl l (k + 1)) = i64s (wpl l k) ++ [.int .i64 (k : Int)] := by rw [unhide HN]; simp [i64s]
          have e2 : (wpl l (k + 1)).length = (wpl l k).length + 1 := by rw [unhide HN, List.length_append]; rfl
          rw [e, e2]
          exact unhide HO1
        case measure => simp [intOf]; omega
      · rw [if_neg hx, List.append_nil] at HN
        go_wp2
        go_roundw
        case rel => exact ⟨k + 1, by omega, by go_num, by rw [unhide HN]; exact unhide HO, by rw [unhide HN]; exact unhide HV, unhide HB⟩
        case measure => simp [intOf]; omega
    · obtain rfl : k = len := by omega
      have HBW : Hid (Below w.heap.size w wr) := (unhide HB0).trans ((unhide HB).mono (by omega))
      by_cases hN : wpl l k = []
      · have hv := unhide HV hN
        subst hv
        have HP : Hid (RiseOf l []) := ⟨by rw [unhide HL, hN], .nil⟩
        clear hO hB
        go_wp2_with fail
        refine (sortStableC_none none 0 w.heap.size wr).mono ?_
        rintro e w2 ⟨rfl, rfl⟩
        go_wp2
        go_ret
        exact ⟨_, [], rfl, unhide HP, unhide HBW, .inl ⟨rfl, rfl⟩⟩
      · have hpos : 0 < (wpl l k).length := by cases h : wpl l k with | nil => exact absurd h hN | cons => simp
        obtain ⟨g, c, hv, hg, hgl, hcc, hcm⟩ : ∃ g c, u3 = .slice (some ⟨g, 0, none⟩) (wpl l k).length c ∧ w.heap.size + 1 ≤ g ∧ g < wr.heap.size ∧ (wpl l k).length ≤ c ∧ c ≤ maxLen := by
          rcases hO.2 with h | ⟨g, c, cur, h1, h2, h3, h4, h5, h6, h7⟩
          · omega
          · refine ⟨g, c, h1, h2, ?_, h4, h5⟩
            rcases Nat.lt_or_ge g wr.heap.size with h | h
            · exact h
            · rw [Array.getElem?_eq_none h] at h3; cases h3
        subst hv
        have hle := wpl_le l k
        obtain ⟨b, o, rfl, hb, hR⟩ : ∃ b o, a = some ⟨b, o, none⟩ ∧ b < w.heap.size ∧ Row .i64 w b o l := by
          rcases unhide HR with rfl | h
          · simp at hl; omega
          · exact h
        have hX : Cx g w.heap.size b o k cap l wr := by
          refine ⟨((unhide HB).cell (p := ⟨w.heap.size, 0, none⟩) (by simp)).trans hbox, fun j hj => ((unhide HB).cell (p := ⟨b, o + j, none⟩) (by simp; omega)).trans ((World.cell?_alloc_past _ _ _ hb).trans (hR j hj)), hl, hlen, ?_, ?_, hgl, by omega, by omega⟩
          · omega
          · omega
        have hPC : PC (wpl l k).length g l (dOf l (wpl l k)) wr := by
          intro j hj
          refine ⟨⟨?_, hO.frozenAt j⟩, (wpl l k).getD j 0, rfl, ?_, rfl⟩
          · rw [hO.cellAt j (by omega)]
            simp [dOf, List.getD, hj]
          · have h1 : (wpl l k).getD j 0 ∈ wpl l k := by simp [List.getD, hj]
            have := wpl_lt l k _ h1
            omega
        have hri : Rise (dOf l (wpl l k)) 0 (wpl l k).length := by
          intro i j _ hij hj
          have h1 := (List.pairwise_iff_getElem.1 (wpl_rise l k)) i j (by omega) hj hij
          have e1 : (wpl l k).getD i 0 = (wpl l k)[i]'(by omega) := by simp [List.getD, show i < (wpl l k).length by omega]
          have e2 : (wpl l k).getD j 0 = (wpl l k)[j]'hj := by simp [List.getD, hj]
          unfold dOf
          simp only []
          rw [e1, e2]
          omega
        have HS := hide (sortStableC (wpl l k).length g c w.heap.size b o k cap l _ wr (by omega) hX hPC hri)
        have HGG := hide hg
        clear hO hB hX hPC hri hR HO HB HV hg
        generalize hNN : (wpl l k).length = N at *
        have HNN := hide hNN
        clear hNN
        go_wp2_with fail
        refine (unhide HS).mono ?_
        rintro e w2 ⟨rfl, d', hP', hM, hSr, hgr⟩
        obtain ⟨P, hE⟩ : ∃ P, P = (Stab.seg d' 0 N).map fun x => x.2.toNat := ⟨_, rfl⟩
        have hPl : P.length = N := by rw [hE]; simp [Stab.seg]
        have HRi : Hid (RiseOf l P) := by
          refine rise_of (by rw [unhide HL, unhide HNN]) hP' ?_ hSr P hE
          rw [unhide HL]; exact hM
        have HWR : Hid (WRow w2 g (ni P)) := by
          refine ⟨Nat.lt_of_lt_of_le hgl hgr.size, fun j hj => ?_⟩
          have hj' : j < N := by simpa [hPl] using hj
          obtain ⟨⟨c0, f0⟩, p, p1, p2, p3⟩ := hP' j hj'
          refine ⟨?_, f0⟩
          rw [c0]
          have : (ni P).getD j 0 = (d' j).2 := by
            simp [hE, Stab.seg, List.getD, hj', p1]
          rw [this]
        have HB2 : Hid (Below w.heap.size w w2) := (unhide HBW).grown hgr (by omega) (fun j h => by cases h; have := unhide HGG; omega)
        have HPL := hide hPl
        clear hP' hM hSr hgr hE hPl
        go_wp2
        go_ret
        refine ⟨_, P, rfl, unhide HRi, unhide HB2, .inr ⟨g, c, ?_, ?_, hcm, ?_, unhide HWR⟩⟩
        · rw [unhide HPL]; rfl
        · rw [unhide HPL]; exact hcc
        · have := unhide HGG; omega
end Go.Proofs.Ytmafecagcglaoab
