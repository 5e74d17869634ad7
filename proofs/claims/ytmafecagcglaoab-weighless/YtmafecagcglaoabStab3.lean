/-
  Plain facts for the library's stable sort: blocks that are sorted, and that are merged two and two. No program is named here.
-/
import Derived.Test.YtmafecagcglaoabStab2
namespace Go.Proofs.Ytmafecagcglaoab
open Go.RowKit
set_option linter.unusedVariables false

/-- what stands ahead of c came earlier than what stands from c on -/
def CutAt (d : Nat → Int × Int) (n c : Nat) : Prop := ∀ i j, i < c → c ≤ j → j < n → (d i).2 < (d j).2
theorem CutAt.moved {d d' : Nat → Int × Int} {n c p q : Nat} (h : CutAt d n c) (hm : Stab.Moved p q d d') (hq : q ≤ n) (hc : c ≤ p ∨ q ≤ c) : CutAt d' n c := by
  intro i j hi hj hn
  have hi' : ∃ i', i' < c ∧ d i' = d' i := by
    by_cases e : p ≤ i ∧ i < q
    · obtain ⟨k, k1, k2, k3⟩ := hm.mem e.1 e.2
      exact ⟨k, by omega, k3⟩
    · exact ⟨i, hi, (hm.out i (by omega)).symm⟩
  have hj' : ∃ j', c ≤ j' ∧ j' < n ∧ d j' = d' j := by
    by_cases e : p ≤ j ∧ j < q
    · obtain ⟨k, k1, k2, k3⟩ := hm.mem e.1 e.2
      exact ⟨k, by omega, by omega, k3⟩
    · exact ⟨j, hj, hn, (hm.out j (by omega)).symm⟩
  obtain ⟨i', h1, h2⟩ := hi'
  obtain ⟨j', h3, h4, h5⟩ := hj'
  rw [← h2, ← h5]
  exact h i' j' h1 h3 h4

/-- the places rise from a to b -/
def Rise (d : Nat → Int × Int) (a b : Nat) : Prop := ∀ i j, a ≤ i → i < j → j < b → (d i).2 < (d j).2

/-- each block of B is sorted -/
def Blocks (d : Nat → Int × Int) (n B : Nat) : Prop := ∀ s, Stab.Srt Stab.lx d (s * B) (min (s * B + B) n)
def Cuts (d : Nat → Int × Int) (n B : Nat) : Prop := ∀ s, CutAt d n (s * B)
/-- the first t blocks of X are sorted, the rest is as it was -/
structure Part (d dk : Nat → Int × Int) (n X t : Nat) : Prop where
  srt : ∀ s, s < t → Stab.Srt Stab.lx d (s * X) (s * X + X)
  rest : ∀ k, t * X ≤ k → d k = dk k
  cuts : Cuts d n X
theorem blk_lt {s t : Nat} (X : Nat) (h : s < t) : s * X + X ≤ t * X := by
  have := Nat.mul_le_mul_right X (show s + 1 ≤ t from h)
  rwa [Nat.succ_mul] at this
theorem blk_le {s t : Nat} (X : Nat) (h : s ≤ t) : s * X ≤ t * X := Nat.mul_le_mul_right X h
theorem cut_ways (s t X n : Nat) : s * X ≤ t * X ∨ t * X + X ≤ s * X := by
  by_cases h : s ≤ t
  · exact .inl (blk_le X h)
  · exact .inr (blk_lt X (by omega))
theorem Part.step {d dk d' : Nat → Int × Int} {n X t : Nat} (h : Part d dk n X t) (hn : t * X + X ≤ n) (hm : Stab.Moved (t * X) (t * X + X) d d') (hs : Stab.Srt Stab.lx d' (t * X) (t * X + X)) : Part d' dk n X (t + 1) := by
  refine ⟨fun s hst => ?_, fun k hk => ?_, fun s => (h.cuts s).moved hm hn (cut_ways s t X n)⟩
  · by_cases e : s = t
    · subst e; exact hs
    · have := blk_lt X (show s < t by omega)
      exact (h.srt s (by omega)).congr (fun k h1 h2 => hm.out k (by omega))
  · rw [Nat.succ_mul] at hk
    rw [hm.out k (by omega)]
    exact h.rest k (by omega)
theorem Part.last {d dk d' : Nat → Int × Int} {n X t : Nat} (h : Part d dk n X t) (h1 : t * X ≤ n) (h2 : n ≤ t * X + X) (hm : Stab.Moved (t * X) n d d') (hs : Stab.Srt Stab.lx d' (t * X) n) : Blocks d' n X ∧ Cuts d' n X := by
  refine ⟨fun s => ?_, fun s => ?_⟩
  · rcases Nat.lt_trichotomy s t with e | e | e
    · have := blk_lt X e
      rw [Nat.min_eq_left (by omega)]
      exact (h.srt s e).congr (fun k h1 h2 => hm.out k (by omega))
    · subst e
      rw [Nat.min_eq_right h2]
      exact hs
    · have := blk_lt X e
      intro i j hi hij hj
      have : j < n := Nat.lt_of_lt_of_le hj (Nat.min_le_right _ _)
      omega
  · rcases cut_ways s t X n with e | e
    · exact (h.cuts s).moved hm (Nat.le_refl _) (.inl e)
    · exact (h.cuts s).moved hm (Nat.le_refl _) (.inr (by omega))
/-- two blocks that are to be merged -/
theorem two_runs {d dk : Nat → Int × Int} {n B t e : Nat} (hb : Blocks dk n B) (hc : Cuts dk n B) (hr : ∀ k, t * (2 * B) ≤ k → d k = dk k) (h1 : t * (2 * B) + B < e) (h2 : e ≤ t * (2 * B) + 2 * B) (h3 : e ≤ n) (h4 : e = n ∨ e = t * (2 * B) + 2 * B) :
    Stab.Srt Stab.lx d (t * (2 * B)) (t * (2 * B) + B) ∧ Stab.Srt Stab.lx d (t * (2 * B) + B) e ∧ Stab.Cross d (t * (2 * B)) (t * (2 * B) + B) e := by
  have e1 : (2 * t) * B = t * (2 * B) := by rw [Nat.mul_comm 2 t, Nat.mul_assoc]
  have e2 : (2 * t + 1) * B = t * (2 * B) + B := by rw [Nat.succ_mul, e1]
  have b1 := hb (2 * t)
  have b2 := hb (2 * t + 1)
  have c := hc (2 * t + 1)
  rw [e1, Nat.min_eq_left (by omega)] at b1
  rw [e2] at b2 c
  generalize t * (2 * B) = a at *
  refine ⟨b1.congr (fun k h _ => hr k h), ?_, fun i j hi hi2 hj hj2 => ?_⟩
  · refine Stab.Srt.congr (d := dk) (b2.sub (Nat.le_refl _) ?_) (fun k h _ => hr k (by omega))
    rcases h4 with rfl | rfl
    · exact Nat.le_min.2 ⟨by omega, Nat.le_refl _⟩
    · exact Nat.le_min.2 ⟨by omega, h3⟩
  · rw [hr i hi, hr j (by omega)]
    exact c i j hi2 hj (by omega)
/-- one block that stands alone -/
theorem one_run {d dk : Nat → Int × Int} {n B t : Nat} (hb : Blocks dk n B) (hr : ∀ k, t * (2 * B) ≤ k → d k = dk k) (h : n ≤ t * (2 * B) + B) : Stab.Srt Stab.lx d (t * (2 * B)) n := by
  have e1 : (2 * t) * B = t * (2 * B) := by rw [Nat.mul_comm 2 t, Nat.mul_assoc]
  have b1 := hb (2 * t)
  rw [e1, Nat.min_eq_right h] at b1
  exact b1.congr (fun k h _ => hr k h)
theorem Cuts.double {d : Nat → Int × Int} {n B : Nat} (h : Cuts d n B) : Cuts d n (2 * B) := fun s => by
  have e : s * (2 * B) = (2 * s) * B := by rw [Nat.mul_comm 2 s, Nat.mul_assoc]
  rw [e]; exact h (2 * s)

end Go.Proofs.Ytmafecagcglaoab
