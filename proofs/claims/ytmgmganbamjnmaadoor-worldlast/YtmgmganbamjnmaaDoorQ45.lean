/-
  Worlds, of lists alone: what grows.
-/
import Derived.Test.YtmgmganbamjnmaaDoorQ44
namespace Go.Proofs.YtmgmganbamjnmaaDoor
open Go.RowKit
set_option linter.unusedVariables false
set_option linter.unusedSimpArgs false

/-- no file is lost but for a newer one -/
def Newer1 (l l' : List Fl) : Prop := ∀ f ∈ l, ∃ g ∈ l', g.name = f.name ∧ nwr f g ≤ 0
theorem newer_refl (l : List Fl) : Newer1 l l := fun f hf => ⟨f, hf, rfl, by rw [nwr_self]; exact Int.le_refl _⟩
theorem newer_both {a b : List Fl} (h : bothE a b = 0) : Newer1 a (bothL a b) ∧ Newer1 b (bothL a b) := by
  obtain ⟨h1, h2, _⟩ := bothE_zero.1 h
  rw [bothL_ok h]
  have r1 := (errM_zero.1 h1).2.2
  have r2 := (errM_zero.1 h2).2.2
  refine ⟨fun f hf => ?_, fun f hf => ?_⟩
  · obtain ⟨g, h3, h4⟩ := tog_newer r1 r2 (.inl hf)
    exact ⟨g, (look_some h3).2, (look_some h3).1, h4⟩
  · obtain ⟨g, h3, h4⟩ := tog_newer r1 r2 (.inr hf)
    exact ⟨g, (look_some h3).2, (look_some h3).1, h4⟩
/-- what is done to the nodes: one at most has other files, newer ones; no clock goes back -/
structure Gw (W V : Wd) (kd : Int) : Prop where
  len : V.nodes.length = W.nodes.length
  cl : V.clock.length = W.clock.length
  one : ∃ k : Nat, ∀ j : Nat, j ≠ k → V.nodes[j]? = W.nodes[j]?
  new : ∀ (j : Nat) (l l' : List Fl), W.nodes[j]? = some l → V.nodes[j]? = some l' → Newer1 l l'
  ck : ∀ (j : Nat) (c c' : Int), W.clock[j]? = some c → V.clock[j]? = some c' → c ≤ c'
  knd : V.nodes = W.nodes ∨ kd = 1 ∨ kd = 2 ∨ kd = 4
theorem keep_gw {W : Wd} {k : Nat} {l : List Fl} {kd : Int} (hl : Newer1 (W.nodes.getD k []) l) (hk : kd = 1 ∨ kd = 2 ∨ kd = 4) : Gw W (keepW k l W) kd := by
  refine ⟨by simp [keepW], by simp [keepW], ⟨k, fun j hj => by simp only [keepW]; rw [List.getElem?_set_ne (fun e => hj e.symm)]⟩, ?_, ?_, .inr hk⟩
  · intro j a b h1 h2
    simp only [keepW] at h2
    by_cases hj : k = j
    · subst hj
      rw [List.getElem?_set_self (List.getElem?_eq_some_iff.1 h1).1] at h2
      cases h2
      have e : W.nodes.getD k [] = a := by simp [List.getD, h1]
      rw [e] at hl
      exact hl
    · rw [List.getElem?_set_ne hj, h1] at h2
      cases h2
      exact newer_refl a
  · intro j c c' h1 h2
    simp only [keepW] at h2
    by_cases hj : k = j
    · subst hj
      rw [List.getElem?_set_self (List.getElem?_eq_some_iff.1 h1).1] at h2
      cases h2
      have e : W.clock.getD k 0 = c := by simp [List.getD, h1]
      rw [e]
      exact rsd_le l c
    · rw [List.getElem?_set_ne hj, h1] at h2
      cases h2
      exact Int.le_refl _
theorem same_gw {W V : Wd} {kd : Int} (h1 : V.nodes = W.nodes) (h2 : V.clock = W.clock) : Gw W V kd :=
  ⟨by rw [h1], by rw [h2], ⟨0, fun j _ => by rw [h1]⟩, fun j l l' a b => by rw [h1, a] at b; cases b; exact newer_refl l, fun j c c' a b => by rw [h2, a] at b; cases b; exact Int.le_refl _, .inl h1⟩
theorem drop_gw {W V : Wd} {kd : Int} {p : Nat} (h : Gw W V kd) : Gw W (dropW p V) kd := ⟨h.len, h.cl, h.one, h.new, h.ck, h.knd⟩
theorem fileE_zero {W : Wd} {x : Hp} (hE : fileE W x = 0) : isP x.node W.nodes.length = true ∧ W.clock.getD x.node.toNat 0 ≠ 1000000 ∧ bothE (W.nodes.getD x.node.toNat []) [putF x (W.clock.getD x.node.toNat 0)] = 0 := by
  unfold fileE at hE
  split at hE
  · cases hE
  · rename_i h1
    split at hE
    · rename_i q; exact absurd hE q
    · split at hE
      · cases hE
      · rename_i h3
        split at hE
        · cases hE
        · exact ⟨by simpa using h1, h3, hE⟩
theorem do_gw {W : Wd} {x : Hp} (h : doE W x = 0) : Gw W (doW W x) x.kind := by
  obtain ⟨hok, hE, hV⟩ := doE_zero h
  rw [hV]
  unfold cgE at hE
  unfold cgC
  by_cases k1 : x.kind = 1 ∨ x.kind = 2
  · rw [if_pos k1] at hE ⊢
    obtain ⟨_, _, hb⟩ := fileE_zero hE
    exact keep_gw (newer_both hb).1 (by rcases k1 with k | k <;> simp [k])
  · rw [if_neg k1] at hE ⊢
    by_cases k2 : x.kind = 3
    · rw [if_pos k2]; exact same_gw rfl rfl
    · rw [if_neg k2] at hE ⊢
      by_cases k3 : x.kind = 4 ∨ x.kind = 5 ∨ x.kind = 6
      · rw [if_pos k3] at hE
        unfold netE at hE
        unfold netC
        cases hp : isP x.dst W.net.length with
        | false => rw [if_pos hp] at hE; cases hE
        | true =>
          rw [if_neg (by rw [hp]; decide)] at hE
          by_cases k5 : x.kind = 5
          · rw [if_pos k5]; exact same_gw rfl rfl
          · rw [if_neg k5] at hE ⊢
            by_cases k6 : x.kind = 6
            · rw [if_pos k6]; exact same_gw rfl rfl
            · rw [if_neg k6] at hE ⊢
              exact drop_gw (keep_gw (newer_both hE).1 (by rcases k3 with k | k | k; simp [k]; exact absurd k k5; exact absurd k k6))
      · rw [if_neg k3] at hE; cases hE
/-- how many of the first so many nodes have other files -/
def chg (W V : Wd) : Nat → Nat
  | 0 => 0
  | k + 1 => chg W V k + if W.nodes[k]? = V.nodes[k]? then 0 else 1
theorem chg_one {W V : Wd} {kd : Int} (h : Gw W V kd) (n : Nat) : chg W V n ≤ 1 := by
  obtain ⟨k, hk⟩ := h.one
  have : ∀ n, chg W V n ≤ if k < n then 1 else 0 := by
    intro n
    induction n with
    | zero => simp [chg]
    | succ n ih =>
      unfold chg
      by_cases e : n = k
      · subst e
        rw [if_neg (Nat.lt_irrefl n)] at ih
        have q : n < n + 1 := Nat.lt_succ_self n
        simp only [q, if_true]
        split <;> omega
      · rw [if_pos (hk n e).symm]
        split at ih
        · rw [if_pos (by omega)]; omega
        · split <;> omega
  have := this n
  split at this <;> omega
theorem chg_zero {W V : Wd} (h : V.nodes = W.nodes) (n : Nat) : chg W V n = 0 := by
  induction n with
  | zero => rfl
  | succ n ih => unfold chg; rw [ih, h]; simp
end Go.Proofs.YtmgmganbamjnmaaDoor
