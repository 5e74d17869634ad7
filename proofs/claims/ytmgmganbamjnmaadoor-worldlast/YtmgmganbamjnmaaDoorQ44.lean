/-
  Worlds, of lists alone: two messages, in either order.
-/
import Derived.Test.YtmgmganbamjnmaaDoorQ39
namespace Go.Proofs.YtmgmganbamjnmaaDoor
open Go.RowKit
set_option linter.unusedVariables false
set_option linter.unusedSimpArgs false

theorem erase_two {α : Type} (l : List α) {i k : Nat} (h : i < k) : (l.eraseIdx i).eraseIdx (k - 1) = (l.eraseIdx k).eraseIdx i := by
  apply List.ext_getElem?
  intro j
  simp only [List.getElem?_eraseIdx]
  by_cases h1 : j < i
  · rw [if_pos (by omega), if_pos h1, if_pos h1, if_pos (by omega)]
  · by_cases h2 : j < k - 1
    · rw [if_pos h2, if_neg h1, if_neg h1, if_pos (by omega)]
    · rw [if_neg h2, if_neg (by omega), if_neg h1, if_neg (by omega)]
theorem nwr_stamp {f g : Fl} (h : nwr f g ≤ 0) : f.stamp ≤ g.stamp := by
  by_cases hlt : g.stamp < f.stamp
  · have e : cmpI f.stamp g.stamp = 1 := by unfold cmpI; rw [if_neg (by omega), if_pos hlt]
    have e2 : nwr f g = 1 := by unfold nwr; rw [e]; unfold nz; rw [if_pos (by decide)]
    omega
  · omega
theorem pick_newer (x y : Fl) : nwr x (pickF x y) ≤ 0 ∧ nwr y (pickF x y) ≤ 0 := by
  unfold pickF
  have h := nwr_ord.anti x y
  split
  · rename_i h1
    exact ⟨by omega, by rw [nwr_self]; exact Int.le_refl _⟩
  · rename_i h1
    exact ⟨by rw [nwr_self]; exact Int.le_refl _, by omega⟩
/-- nobody's file is lost but for a newer one -/
theorem tog_newer {a b : List Fl} (ha : NRise a) (hb : NRise b) {f : Fl} (hf : f ∈ a ∨ f ∈ b) : ∃ g, lookF f.name (tog a b) = some g ∧ nwr f g ≤ 0 := by
  rw [look_tog a b ha hb]
  rcases hf with hf | hf
  · rw [look_mem ha hf]
    cases hl : lookF f.name b with
    | none => exact ⟨f, by rw [joinO_none], by rw [nwr_self]; exact Int.le_refl _⟩
    | some y => exact ⟨pickF f y, rfl, (pick_newer f y).1⟩
  · rw [look_mem hb hf]
    cases hl : lookF f.name a with
    | none => exact ⟨f, rfl, by rw [nwr_self]; exact Int.le_refl _⟩
    | some y => exact ⟨pickF y f, rfl, (pick_newer y f).2⟩
theorem rsd_sub {a b : List Fl} (h : ∀ f ∈ a, ∃ g ∈ b, f.stamp ≤ g.stamp) (c : Int) : rsd (rsd c a) b = rsd c b := by
  have h1 : rsd c a ≤ rsd c b := rsd_lub a c _ (rsd_le b c) (fun f hf => by
    obtain ⟨g, hg, hs⟩ := h f hf
    have := rsd_all b c g hg
    omega)
  have h2 := rsd_lub b (rsd c a) (rsd c b) h1 (rsd_all b c)
  have h3 := rsd_lub b c (rsd (rsd c a) b) (Int.le_trans (rsd_le a c) (rsd_le b _)) (rsd_all b _)
  omega
theorem tog_stamps {a b : List Fl} (ha : NRise a) (hb : NRise b) : ∀ f ∈ a, ∃ g ∈ tog a b, f.stamp ≤ g.stamp := by
  intro f hf
  obtain ⟨g, h1, h2⟩ := tog_newer ha hb (.inl hf)
  exact ⟨g, (look_some h1).2, nwr_stamp h2⟩
/-- three lists, in either order -/
theorem both_swap {l f g : List Fl} (h1 : bothE l f = 0) (h2 : bothE l g = 0) : bothE (bothL l f) g = bothE (bothL l g) f ∧ bothL (bothL l f) g = bothL (bothL l g) f ∧ (bothE (bothL l f) g = 0 → ∀ c, rsd (rsd c (bothL l f)) (bothL (bothL l f) g) = rsd (rsd c (bothL l g)) (bothL (bothL l g) f)) := by
  obtain ⟨el, ef, _⟩ := bothE_zero.1 h1
  obtain ⟨_, eg, _⟩ := bothE_zero.1 h2
  have rl := (errM_zero.1 el).2.2
  have rf := (errM_zero.1 ef).2.2
  have rg := (errM_zero.1 eg).2.2
  have hA := bothL_err h1
  have hB := bothL_err h2
  have ht : tog (bothL l f) g = tog (bothL l g) f := by
    rw [bothL_ok h1, bothL_ok h2, tog_assoc rl rf rg, tog_comm rf rg, ← tog_assoc rl rg rf]
  have he : bothE (bothL l f) g = bothE (bothL l g) f := by
    unfold bothE errE
    simp only [hA, hB, ef, eg, ht]
  have hL : bothL (bothL l f) g = bothL (bothL l g) f := by
    unfold bothL at ht ⊢
    unfold bothL at he
    rw [he, ht]
  refine ⟨he, hL, fun h0 c => ?_⟩
  rw [← hL]
  have s1 := tog_stamps (errM_zero.1 hA).2.2 rg
  have s2 := tog_stamps (errM_zero.1 hB).2.2 rf
  rw [← bothL_ok h0] at s1
  rw [← bothL_ok (he ▸ h0), ← hL] at s2
  rw [rsd_sub s1, rsd_sub s2]
theorem order_is {W : Wd} {i k : Nat} (h : WdOk W) (hik : i < k) (hk : k < W.net.length) (nd : Int) (nm bs : List UInt8) (h1 : doE W ⟨4, nd, i, nm, bs⟩ = 0) (h2 : doE W ⟨4, nd, k, nm, bs⟩ = 0) :
    doE (doW W ⟨4, nd, i, nm, bs⟩) ⟨4, nd, ((k - 1 : Nat) : Int), nm, bs⟩ = doE (doW W ⟨4, nd, k, nm, bs⟩) ⟨4, nd, i, nm, bs⟩ ∧ doW (doW W ⟨4, nd, i, nm, bs⟩) ⟨4, nd, ((k - 1 : Nat) : Int), nm, bs⟩ = doW (doW W ⟨4, nd, k, nm, bs⟩) ⟨4, nd, i, nm, bs⟩ := by
  obtain ⟨m1, hm1⟩ : ∃ m, W.net[i]? = some m := ⟨_, List.getElem?_eq_getElem (by omega)⟩
  obtain ⟨m2, hm2⟩ : ∃ m, W.net[k]? = some m := ⟨_, List.getElem?_eq_getElem hk⟩
  have o1 := h.ms _ (List.mem_of_getElem? hm1)
  have o2 := h.ms _ (List.mem_of_getElem? hm2)
  obtain ⟨d1, f1⟩ := m1
  obtain ⟨d2, f2⟩ := m2
  obtain ⟨k1, e1⟩ : ∃ k1 : Nat, d1 = (k1 : Int) := ⟨d1.toNat, by have := o1.lo; simp only at this; omega⟩
  obtain ⟨k2, e2⟩ : ∃ k2 : Nat, d2 = (k2 : Int) := ⟨d2.toNat, by have := o2.lo; simp only at this; omega⟩
  subst e1 e2
  have hk1 : k1 < W.nodes.length := by have := o1.hi; simp only at this; omega
  have hk2 : k2 < W.nodes.length := by have := o2.hi; simp only at this; omega
  obtain ⟨l1, c1, hl1, hc1, n1⟩ := h.node hk1
  obtain ⟨l2, c2, hl2, hc2, n2⟩ := h.node hk2
  obtain ⟨A1, A2⟩ := arr_is h hm1 hl1 nd nm bs
  obtain ⟨B1, B2⟩ := arr_is h hm2 hl2 nd nm bs
  rw [A1] at h1
  rw [B1] at h2
  have A3 := A2 h1
  have B3 := B2 h2
  have okA : WdOk (doW W ⟨4, nd, i, nm, bs⟩) := do_ok (A1.trans h1)
  have okB : WdOk (doW W ⟨4, nd, k, nm, bs⟩) := do_ok (B1.trans h2)
  have hmA : (doW W ⟨4, nd, i, nm, bs⟩).net[k - 1]? = some ⟨(k2 : Int), f2⟩ := by
    rw [A3]
    simp only [dropW, keepW, List.getElem?_eraseIdx]
    rw [if_neg (by omega), show k - 1 + 1 = k by omega]
    exact hm2
  have hmB : (doW W ⟨4, nd, k, nm, bs⟩).net[i]? = some ⟨(k1 : Int), f1⟩ := by
    rw [B3]
    simp only [dropW, keepW, List.getElem?_eraseIdx]
    rw [if_pos hik]
    exact hm1
  have hcl1 : k1 < W.clock.length := by rw [h.cl]; exact hk1
  have hcl2 : k2 < W.clock.length := by rw [h.cl]; exact hk2
  by_cases he : k1 = k2
  · subst he
    rw [hl1] at hl2
    cases hl2
    rw [hc1] at hc2
    cases hc2
    have hlA : (doW W ⟨4, nd, i, nm, bs⟩).nodes[k1]? = some (bothL l1 f1) := by rw [A3]; simp [dropW, keepW, hk1]
    have hlB : (doW W ⟨4, nd, k, nm, bs⟩).nodes[k1]? = some (bothL l1 f2) := by rw [B3]; simp [dropW, keepW, hk1]
    obtain ⟨C1, C2⟩ := arr_is okA hmA hlA nd nm bs
    obtain ⟨D1, D2⟩ := arr_is okB hmB hlB nd nm bs
    obtain ⟨s1, s2, s3⟩ := both_swap h1 h2
    refine ⟨by rw [C1, D1, s1], ?_⟩
    by_cases h0 : bothE (bothL l1 f1) f2 = 0
    · rw [C2 h0, D2 (s1 ▸ h0), A3, B3]
      have hcA : W.clock.getD k1 0 = c1 := by simp [List.getD, hc1]
      simp only [dropW, keepW, List.set_set, s2]
      rw [erase_two _ hik]
      congr 1
      simp only [List.getD, List.getElem?_set_self hcl1, Option.getD_some, hc1]
      rw [← s2]
      rw [s3 h0 c1, s2]
    · have x1 : ¬ doE (doW W ⟨4, nd, i, nm, bs⟩) ⟨4, nd, ((k - 1 : Nat) : Int), nm, bs⟩ = 0 := by rw [C1]; exact h0
      have x2 : ¬ doE (doW W ⟨4, nd, k, nm, bs⟩) ⟨4, nd, i, nm, bs⟩ = 0 := by rw [D1, ← s1]; exact h0
      unfold doW at x1 x2 ⊢
      rw [if_neg x1, if_neg x2]
  · have hlA : (doW W ⟨4, nd, i, nm, bs⟩).nodes[k2]? = some l2 := by rw [A3]; simp only [dropW, keepW]; rw [List.getElem?_set_ne he]; exact hl2
    have hlB : (doW W ⟨4, nd, k, nm, bs⟩).nodes[k1]? = some l1 := by rw [B3]; simp only [dropW, keepW]; rw [List.getElem?_set_ne (fun e => he e.symm)]; exact hl1
    obtain ⟨C1, C2⟩ := arr_is okA hmA hlA nd nm bs
    obtain ⟨D1, D2⟩ := arr_is okB hmB hlB nd nm bs
    refine ⟨by rw [C1, D1, h1, h2], ?_⟩
    rw [C2 h2, D2 h1, A3, B3]
    simp only [dropW, keepW]
    rw [erase_two _ hik, List.set_comm _ _ he, List.set_comm _ _ he]
    simp only [List.getD, List.getElem?_set_ne he, List.getElem?_set_ne (fun e : k2 = k1 => he e.symm)]
end Go.Proofs.YtmgmganbamjnmaaDoor
