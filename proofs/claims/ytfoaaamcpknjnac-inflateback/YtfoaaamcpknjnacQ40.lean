/-
  Package inflate, of bits alone: tokens as the program reads them.
-/
import Derived.Test.YtfoaaamcpknjnacQ36
import Derived.Test.YtfoaaamcpknjnacInfB
import Derived.Test.YtfoaaamcpknjnacInf6
namespace Go.Proofs.Ytfoaaamcpknjnac
set_option linter.unusedVariables false

/-- what a symbol says, which is not the end -/
def istep (row : List Bool) (lb : List Int) (k : Nat) (u : US) : US :=
  if k < 256 then (if 3000 < u.out.length + 1 then { u with e := 2 } else { u with out := u.out ++ [k] })
  else if 285 < k then { u with e := 8 }
  else if (uget row (leastS k).2 u).2.e ≠ 0 then (uget row (leastS k).2 u).2
  else if (ihow row lb (uget row (leastS k).2 u).2).2.e ≠ 0 then (ihow row lb (uget row (leastS k).2 u).2).2
  else iback (ihow row lb (uget row (leastS k).2 u).2).1 ((leastS k).1 + (uget row (leastS k).2 u).1) (ihow row lb (uget row (leastS k).2 u).2).2
/-- tokens, behind a first symbol -/
def itok (row : List Bool) (la lb : List Int) : Nat → Nat → US → US
  | 0, _, u => u
  | f + 1, k, u => if k = 256 then u
    else if (istep row lb k u).e ≠ 0 then istep row lb k u
    else if (uplace la row (istep row lb k u)).2.e ≠ 0 then (uplace la row (istep row lb k u)).2
    else itok row la lb f (uplace la row (istep row lb k u)).1 (uplace la row (istep row lb k u)).2
def itoks (row : List Bool) (la lb : List Int) (f : Nat) (u : US) : US :=
  if (uplace la row u).2.e ≠ 0 then (uplace la row u).2 else itok row la lb f (uplace la row u).1 (uplace la row u).2

theorem nextF_some (l : List Int) (row : List Bool) (p : Nat) : ∀ f n, 1 ≤ n → (nextF l row p f n).2.2 = 0 → 1 ≤ (nextF l row p f n).2.1
  | 0, n, _, h => absurd (show (8 : Int) = 0 from h) (by decide)
  | f + 1, n, hn, h => by
    unfold nextF at h ⊢
    split
    · rename_i hc
      rw [if_pos hc] at h
      exact absurd (show (7 : Int) = 0 from h) (by decide)
    · rename_i hc
      rw [if_neg hc] at h
      split
      · exact hn
      · rename_i hf
        rw [hf] at h
        exact nextF_some l row p f (n + 1) (by omega) h
theorem uplace_keeps (l : List Int) (row : List Bool) (u : US) : (uplace l row u).2.out = u.out ∧ (uplace l row u).2.ks = u.ks ∧ u.p ≤ (uplace l row u).2.p := by
  unfold uplace
  split
  · exact ⟨rfl, rfl, Nat.le_add_right _ _⟩
  · exact ⟨rfl, rfl, Nat.le_refl _⟩
theorem uplace_up (l : List Int) (row : List Bool) (u : US) (he : u.e = 0) (h : (uplace l row u).2.e = 0) : u.p < (uplace l row u).2.p := by
  unfold uplace at h ⊢
  rw [if_pos he] at h ⊢
  have := nextF_some l row u.p 15 1 (Nat.le_refl _) h
  show u.p < u.p + (nextR l row u.p).2.1
  unfold nextR
  omega
theorem uget_ge (row : List Bool) (n : Nat) (u : US) : u.p ≤ (uget row n u).2.p := by
  unfold uget
  split
  · split
    · exact Nat.le_refl _
    · exact Nat.le_add_right _ _
  · exact Nat.le_refl _
theorem leastF_rng : ∀ k, k ≤ 29 → 1 ≤ (leastF k).1 ∧ (leastF k).1 ≤ 40000 ∧ (leastF k).2 ≤ 13 := by decide
theorem leastS_rng0 : ∀ j, j ≤ 28 → 1 ≤ (leastS (257 + j)).1 ∧ (leastS (257 + j)).1 ≤ 300 ∧ (leastS (257 + j)).2 ≤ 5 := by decide
theorem leastS_rng (k : Nat) (h1 : 257 ≤ k) (h2 : k ≤ 285) : 1 ≤ (leastS k).1 ∧ (leastS k).1 ≤ 300 ∧ (leastS k).2 ≤ 5 := by
  obtain ⟨j, rfl⟩ : ∃ j, k = 257 + j := ⟨k - 257, by omega⟩
  exact leastS_rng0 j (by omega)
theorem ihow_keeps (row : List Bool) (l : List Int) (u : US) (hp : u.p ≤ row.length) : (ihow row l u).2.out = u.out ∧ (ihow row l u).2.ks = u.ks ∧ u.p ≤ (ihow row l u).2.p ∧ (ihow row l u).2.p ≤ row.length := by
  obtain ⟨h1, h2, h3⟩ := uplace_keeps l row u
  have h4 := uplace_le l row u hp
  unfold ihow
  split
  · exact ⟨h1, h2, h3, h4⟩
  · split
    · exact ⟨h1, h2, h3, h4⟩
    · exact ⟨(iget_out row _ _).trans h1, (iget_ks row _ _).trans h2, Nat.le_trans h3 (uget_ge _ _ _), iget_p row _ _ h4⟩
theorem ihow_rng (row : List Bool) (l : List Int) (u : US) (h : (ihow row l u).2.e = 0) : 1 ≤ (ihow row l u).1 ∧ (ihow row l u).1 ≤ 80000 := by
  unfold ihow at h ⊢
  split
  · rename_i hc
    rw [if_pos hc] at h
    exact absurd h hc
  · rename_i hc
    rw [if_neg hc] at h
    split
    · rename_i hd
      rw [if_pos hd] at h
      exact absurd (show (8 : Int) = 0 from h) (by decide)
    · rename_i hd
      obtain ⟨a1, a2, a3⟩ := leastF_rng (uplace l row u).1 (by omega)
      have := iget_lt row (leastF (uplace l row u).1).2 (uplace l row u).2
      have h13 : 2 ^ (leastF (uplace l row u).1).2 ≤ 2 ^ 13 := Nat.pow_le_pow_right (by decide) a3
      have : (2 : Nat) ^ 13 = 8192 := by decide
      dsimp only
      omega
end Go.Proofs.Ytfoaaamcpknjnac

/-
  Package inflate: a row of Stored blocks.
-/
namespace Go.Proofs.Ytfoaaamcpknjnac
open Go.RowKit
set_option linter.unusedVariables false
set_option maxRecDepth 100000

/-- N blocks, all Stored, that are read without an error: us i is where the reader is behind i of them -/
structure Stos (row : List Bool) (N : Nat) (us : Nat → US) : Prop where
  step : ∀ i, i < N → ∃ (l : Nat) (v v2 : US), uget row 1 (us i) = (l, v) ∧ v.e = 0 ∧ uget row 2 v = (0, v2) ∧ v2.e = 0 ∧ (istored row v2).e = 0 ∧ us (i + 1) = ukept 0 (istored row v2) ∧ (l = 0 ↔ i + 1 < N)
  up : ∀ i, i < N → (us i).p < (us (i + 1)).p
  good : ∀ i, i ≤ N → (us i).p ≤ row.length ∧ (us i).e = 0 ∧ (us i).out.length ≤ 3000 ∧ (us i).ks.length ≤ 48000

/-- what is left of the bits, as the reader's place tells -/
def leftB (n b : Nat) (w : World) : Nat := 8 * n + 1 - ((w.cell? ⟨b, 1, none⟩).map (fun x => (intOf x).toNat)).getD 0
theorem leftB_is {No : Nat → Prop} {B b n : Nat} {w : World} {R f1 f2 : Value} {u : US} (h : IIs No B w b R f1 f2 u) : leftB n b w = 8 * n + 1 - u.p := by
  unfold leftB
  rw [h.cell.2.1]
  simp [intOf]

theorem blocksStored_any (No : Nat → Prop) (B b : Nat) (a : Option Addr) (n cap : Nat) (bs : List Nat) (f1 f2 : Value) (us : Nat → US) (N : Nat) (w : World) (h : IIs No B w b (.slice a n cap) f1 f2 (us 0)) (hR : Rd w No a n bs) (hN : 0 < N) (hS : Stos (rowB bs n) N us) (hNo : ∀ g, w.heap.size ≤ g → ¬ No g) (hbB : B ≤ b) :
    Calls Try.prog 28 #[.pointer (some ⟨b, 0, none⟩)] w fun e w' => e = .returned (.tuple #[]) ∧ IUp No B w b (.slice a n cap) f1 f2 (us N) w' := by
  have H := hide h
  have HR := hide hR
  have HS := hide hS
  have HNo := hide hNo
  clear h hR hS hNo
  go_enter Try.func28, Try.ntmps28
  go_wp2
  go_loopw [2] (fun v wr => ∃ i l : Nat, i ≤ N ∧ v = .int .i64 (l : Int) ∧ Hid (l = 0 ↔ i < N) ∧ Hid (IUp No B w b (.slice a n cap) f1 f2 (us i) wr)) (fun _ wr => leftB n b wr)
  case atStart => exact ⟨0, 0, Nat.zero_le _, rfl, hide ⟨fun _ => hN, fun _ => rfl⟩, hide (IUp.refl (unhide H))⟩
  case round =>
    obtain ⟨i, l, hi, rfl, hl, hI⟩ := hrel
    by_cases h0 : l = 0
    · subst h0
      have hlt : i < N := (unhide hl).1 rfl
      obtain ⟨l1, v, v2, hg1, e1, hg2, e2, e3, hnx, hl1⟩ := (unhide HS).step i hlt
      obtain ⟨g1, g2, g3, g4⟩ := (unhide HS).good i hi
      have hrl := rowB_length bs n
      rw [hrl] at g1
      have k1 : v.p ≤ 8 * n := by have := iget_p (rowB bs n) 1 (us i) (by rw [hrl]; exact g1); rw [hg1, hrl] at this; exact this
      have k2 : v2.p ≤ 8 * n := by have := iget_p (rowB bs n) 2 v (by rw [hrl]; exact k1); rw [hg2, hrl] at this; exact this
      have o1 : v.out = (us i).out := by have := iget_out (rowB bs n) 1 (us i); rw [hg1] at this; exact this
      have o2 : v2.out = (us i).out := by have := iget_out (rowB bs n) 2 v; rw [hg2] at this; exact this.trans o1
      have s1 : v.ks = (us i).ks := by have := iget_ks (rowB bs n) 1 (us i); rw [hg1] at this; exact this
      have s2 : v2.ks = (us i).ks := by have := iget_ks (rowB bs n) 2 v; rw [hg2] at this; exact this.trans s1
      rw [← o2] at g3
      rw [← s2] at g4
      have HG1 := hide hg1
      have HG2 := hide hg2
      have HX := hide hnx
      have HL1 := hide hl1
      clear hl hg1 hg2 hnx hl1 o1 o2 s1 s2 hrl
      go_wp2_with fail
      refine (number_any No B b a n cap 1 bs f1 f2 (us i) wr (unhide hI).is ((unhide HR).keep (unhide hI).below.size (unhide hI).kp) g1 g2 (by decide) l1 v HG1).mono ?_
      rintro e w1 hg
      rcases hg with ⟨_, rfl, hU⟩ | ⟨e0, _⟩
      rotate_left
      · exact absurd e1 e0
      have H1 := hide ((unhide hI).trans hU)
      clear hU
      go_wp2_with fail
      refine (number_any No B b a n cap 2 bs f1 f2 v w1 (unhide H1).is ((unhide HR).keep (unhide H1).below.size (unhide H1).kp) k1 e1 (by decide) 0 v2 HG2).mono ?_
      rintro e w2 hg
      rcases hg with ⟨_, rfl, hU⟩ | ⟨e0, _⟩
      rotate_left
      · exact absurd e2 e0
      have H2 := hide ((unhide H1).trans hU)
      clear hU
      go_wp2_with fail
      refine (blockStored_any No B b a n cap bs f1 f2 v2 w2 (unhide H2).is ((unhide HR).keep (unhide H2).below.size (unhide H2).kp) k2 e2 g3 g4 (fun g hg => unhide HNo g (by have := (unhide H2).below.size; omega)) hbB _ (hide rfl)).mono ?_
      rw [if_pos e3, ← unhide HX]
      rintro e w3 hg
      rcases hg with ⟨_, rfl, hU⟩ | ⟨e0, _⟩
      rotate_left
      · exact absurd ((unhide HS).good (i + 1) (by omega)).2.1 e0
      have H3 := hide ((unhide H2).trans hU)
      clear hU
      go_wp2
      go_roundw
      case rel => exact ⟨i + 1, l1, by omega, rfl, HL1, H3⟩
      case measure =>
        rw [leftB_is (unhide hI).is, leftB_is (unhide H3).is]
        have h1 := (unhide HS).up i hlt
        have h2 := ((unhide HS).good (i + 1) (by omega)).1
        rw [rowB_length] at h2
        omega
    · have hb : ((l : Int) == 0) = false := by rw [beq_eq_false_iff_ne]; omega
      have hiN : i = N := by
        by_cases e : i < N
        · exact absurd ((unhide hl).2 e) h0
        · omega
      subst hiN
      clear hl
      go_wp2
      go_end0
      exact ⟨rfl, unhide hI⟩
end Go.Proofs.Ytfoaaamcpknjnac
