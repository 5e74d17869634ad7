/-
  Worlds, of lists alone: a right world stays right.
-/
import Derived.Test.YtmgmganbamjnmaaGreatDoorS17
namespace Go.Proofs.YtmgmganbamjnmaaGreatDoor
open Go.RowKit
set_option linter.unusedVariables false
set_option linter.unusedSimpArgs false

theorem errM_stamp {l : List Fl} (h : errM l = 0) : ∀ f ∈ l, f.stamp ≤ 1000000 := by
  intro f hf
  have h2 := (errM_zero.1 h).2.1 f hf
  unfold errV at h2
  split at h2
  · rename_i h3; exact absurd h2 h3
  · split at h2
    · cases h2
    · split at h2
      · cases h2
      · omega
theorem ndok_rsd {l : List Fl} {c : Int} (h : errM l = 0) (h0 : 0 ≤ c) (h1 : c ≤ 1000000) : NdOk l (rsd c l) :=
  ⟨h, Int.le_trans h0 (rsd_le l c), rsd_lub l c 1000000 h1 (errM_stamp h), rsd_all l c⟩
theorem keep_ok {W : Wd} {k : Nat} {l : List Fl} (h : WdOk W) (hl : errM l = 0) : WdOk (keepW k l W) := by
  refine ⟨by simp [keepW]; exact h.lo, by simp [keepW]; exact h.hi, by simp [keepW]; exact h.cl, h.nt, ?_, by simp only [keepW, List.length_set]; exact h.ms⟩
  intro j l' c' h1 h2
  simp only [keepW] at h1 h2
  by_cases hj : j = k
  · subst hj
    rw [List.getElem?_set] at h1 h2
    simp only [if_true] at h1 h2
    split at h1
    · split at h2
      · rename_i q1 q2
        cases h1; cases h2
        obtain ⟨l0, c0, e1, e2, h0⟩ := h.node q1
        have e3 : W.clock.getD j 0 = c0 := by simp [List.getD, e2]
        rw [e3]
        exact ndok_rsd hl h0.lo h0.hi
      · cases h2
    · cases h1
  · rw [List.getElem?_set_ne (fun e => hj e.symm)] at h1 h2
    exact h.nd j l' c' h1 h2
theorem pass_ok {W : Wd} {m : Ms} (h : WdOk W) (hm : MsOk W.nodes.length m) (hn : W.net.length < 20) : WdOk (passW m W) := by
  refine ⟨h.lo, h.hi, h.cl, by simp [passW]; omega, h.nd, ?_⟩
  intro x hx
  rcases List.mem_append.1 hx with hx | hx
  · exact h.ms x hx
  · rw [List.mem_singleton.1 hx]; exact hm
theorem drop_ok {W : Wd} {p : Nat} (h : WdOk W) : WdOk (dropW p W) := by
  refine ⟨h.lo, h.hi, h.cl, ?_, h.nd, fun x hx => h.ms x (List.mem_of_mem_eraseIdx hx)⟩
  simp only [dropW, List.length_eraseIdx]
  have := h.nt
  split <;> omega
theorem node_ok {W : Wd} (h : WdOk W) (k : Nat) : errM (W.nodes.getD k []) = 0 := by
  by_cases hk : k < W.nodes.length
  · obtain ⟨l, c, e1, e2, h0⟩ := h.node hk
    simp only [List.getD, e1, Option.getD_some]
    exact h0.m
  · simp only [List.getD, List.getElem?_eq_none (Nat.le_of_not_lt hk), Option.getD_none]
    decide
theorem msg_ok {W : Wd} (h : WdOk W) {i : Int} (hi : isP i W.net.length = true) : MsOk W.nodes.length (msgAt W i) := by
  have hq := isP_true.1 hi
  have hd : i.toNat < W.net.length := by omega
  unfold msgAt
  simp only [List.getD, List.getElem?_eq_getElem hd, Option.getD_some]
  exact h.ms _ (List.getElem_mem hd)
theorem passE_zero {W : Wd} (h : passE W = 0) : W.net.length < 20 := by
  unfold passE at h
  split at h
  · cases h
  · omega
theorem cg_ok {W : Wd} {x : Hp} (h : WdOk W) (hE : cgE W x = 0) : WdOk ((cgC W x).act W) := by
  unfold cgE at hE
  unfold cgC
  by_cases k1 : x.kind = 1 ∨ x.kind = 2
  · rw [if_pos k1] at hE ⊢
    unfold fileE at hE
    have hb : bothE (W.nodes.getD x.node.toNat []) [putF x (W.clock.getD x.node.toNat 0)] = 0 := by
      split at hE
      · cases hE
      · split at hE
        · rename_i q; exact absurd hE q
        · split at hE
          · cases hE
          · split at hE
            · cases hE
            · exact hE
    exact keep_ok h (bothL_err hb)
  · rw [if_neg k1] at hE ⊢
    by_cases k2 : x.kind = 3
    · rw [if_pos k2] at hE ⊢
      unfold sendE at hE
      by_cases hb : isP x.node W.nodes.length = false ∨ isP x.dst W.nodes.length = false
      · rw [if_pos hb] at hE; cases hE
      · rw [if_neg hb] at hE
        have hq := isP_true.1 (by cases hq : isP x.dst W.nodes.length with | true => rfl | false => exact absurd (.inr hq) hb : isP x.dst W.nodes.length = true)
        exact pass_ok h ⟨node_ok h _, hq.1, hq.2⟩ (passE_zero hE)
    · rw [if_neg k2] at hE ⊢
      by_cases k3 : x.kind = 4 ∨ x.kind = 5 ∨ x.kind = 6
      · rw [if_pos k3] at hE
        unfold netE at hE
        unfold netC
        cases hp : isP x.dst W.net.length with
        | false => rw [if_pos hp] at hE; cases hE
        | true =>
          rw [if_neg (by rw [hp]; decide)] at hE
          by_cases k5 : x.kind = 5
          · rw [if_pos k5]; exact drop_ok h
          · rw [if_neg k5] at hE ⊢
            by_cases k6 : x.kind = 6
            · rw [if_pos k6] at hE ⊢
              exact pass_ok h (msg_ok h hp) (passE_zero hE)
            · rw [if_neg k6] at hE ⊢
              exact drop_ok (keep_ok h (bothL_err hE))
      · rw [if_neg k3] at hE; cases hE
theorem doE_zero {W : Wd} {x : Hp} (h : doE W x = 0) : WdOk W ∧ cgE W x = 0 ∧ doW W x = (cgC W x).act W := by
  have h2 := h
  unfold doE at h2
  by_cases h0 : errWd W = 0
  · rw [if_neg (by simp [h0])] at h2
    exact ⟨errWd_zero.1 h0, h2, by unfold doW; rw [if_pos h]⟩
  · rw [if_pos h0] at h2; exact absurd h2 h0
theorem doE_ok {W : Wd} {x : Hp} (h : WdOk W) : doE W x = cgE W x := by
  unfold doE
  rw [if_neg (by simp [errWd_zero.2 h])]
theorem do_ok {W : Wd} {x : Hp} (h : doE W x = 0) : WdOk (doW W x) := by
  obtain ⟨h1, h2, h3⟩ := doE_zero h
  rw [h3]
  exact cg_ok h1 h2
/-- messages -/
theorem arr_is {W : Wd} {p k : Nat} {l fl : List Fl} (h : WdOk W) (hm : W.net[p]? = some ⟨(k : Int), fl⟩) (hl : W.nodes[k]? = some l) (nd : Int) (nm bs : List UInt8) : doE W ⟨4, nd, p, nm, bs⟩ = bothE l fl ∧ (bothE l fl = 0 → doW W ⟨4, nd, p, nm, bs⟩ = dropW p (keepW k (bothL l fl) W)) := by
  have hp : isP (p : Int) W.net.length = true := isP_nat (List.getElem?_eq_some_iff.1 hm).1
  have em : msgAt W (p : Int) = ⟨(k : Int), fl⟩ := by simp [msgAt, List.getD, hm]
  have e : doE W ⟨4, nd, p, nm, bs⟩ = bothE l fl := by
    rw [doE_ok h]
    unfold cgE
    rw [if_neg (by simp), if_neg (by simp), if_pos (by simp)]
    unfold netE
    rw [if_neg (by rw [hp]; decide), if_neg (by simp), if_neg (by simp), em]
    simp [List.getD, hl]
  refine ⟨e, fun h0 => ?_⟩
  obtain ⟨_, _, h3⟩ := doE_zero (e.trans h0)
  rw [h3]
  unfold cgC
  rw [if_neg (by simp), if_neg (by simp)]
  unfold netC
  rw [if_neg (by simp), if_neg (by simp), em]
  simp [Cg.act, List.getD, hl]
theorem lose_is {W : Wd} {p : Nat} (h : WdOk W) (hp : p < W.net.length) (nd : Int) (nm bs : List UInt8) : doE W ⟨5, nd, p, nm, bs⟩ = 0 ∧ doW W ⟨5, nd, p, nm, bs⟩ = dropW p W := by
  have e : doE W ⟨5, nd, p, nm, bs⟩ = 0 := by
    rw [doE_ok h]
    unfold cgE
    rw [if_neg (by simp), if_neg (by simp), if_pos (by simp)]
    unfold netE
    rw [if_neg (by rw [isP_nat hp]; decide), if_pos rfl]
  refine ⟨e, ?_⟩
  obtain ⟨_, _, h3⟩ := doE_zero e
  rw [h3]
  unfold cgC
  rw [if_neg (by simp), if_neg (by simp)]
  unfold netC
  rw [if_pos rfl]
  simp [Cg.act]
theorem dbl_is {W : Wd} {p : Nat} {m : Ms} (h : WdOk W) (hm : W.net[p]? = some m) (hn : W.net.length < 20) (nd : Int) (nm bs : List UInt8) : doE W ⟨6, nd, p, nm, bs⟩ = 0 ∧ doW W ⟨6, nd, p, nm, bs⟩ = passW m W := by
  have hp : isP (p : Int) W.net.length = true := isP_nat (List.getElem?_eq_some_iff.1 hm).1
  have em : msgAt W (p : Int) = m := by simp [msgAt, List.getD, hm]
  have e : doE W ⟨6, nd, p, nm, bs⟩ = 0 := by
    rw [doE_ok h]
    unfold cgE
    rw [if_neg (by simp), if_neg (by simp), if_pos (by simp)]
    unfold netE
    rw [if_neg (by rw [hp]; decide), if_neg (by simp), if_pos rfl]
    unfold passE
    rw [if_neg (by omega)]
  refine ⟨e, ?_⟩
  obtain ⟨_, _, h3⟩ := doE_zero e
  rw [h3]
  unfold cgC
  rw [if_neg (by simp), if_neg (by simp)]
  unfold netC
  rw [if_neg (by simp), if_pos rfl, em]
  rfl
theorem bothE_full2 {a b : List Fl} (ha : errM a = 0) (hb : errM b = 0) : bothE a b = 0 ∨ bothE a b = 11 := by
  by_cases h : (tog a b).length ≤ 12
  · exact .inl (bothE_zero.2 ⟨ha, hb, h⟩)
  · refine .inr (bothE_full ?_ (by omega))
    unfold errE
    simp [ha, hb]
theorem both_again {a b : List Fl} (h : bothE a b = 0) : bothE (bothL a b) b = 0 ∧ bothL (bothL a b) b = bothL a b := by
  obtain ⟨h1, h2⟩ := both_comm a b
  have h3 := both_twice (h1.1 h)
  rw [← h2] at h3
  exact ⟨h3.1, h3.2.1⟩
theorem rsd_again (c : Int) (l : List Fl) : rsd (rsd c l) l = rsd c l := rsd_same (rsd_all l c)
/-- a message that comes twice -/
theorem net_twice {W : Wd} {p k : Nat} {l fl : List Fl} (h : WdOk W) (hm : W.net[p]? = some ⟨(k : Int), fl⟩) (hl : W.nodes[k]? = some l) (hn : W.net.length < 20) (hb : bothE l fl = 0) (nd : Int) (nm bs : List UInt8) :
    doE (passW ⟨(k : Int), fl⟩ W) ⟨4, nd, (W.net.length : Nat), nm, bs⟩ = 0 ∧ doE (doW (passW ⟨(k : Int), fl⟩ W) ⟨4, nd, (W.net.length : Nat), nm, bs⟩) ⟨4, nd, p, nm, bs⟩ = 0 ∧ doW (doW (passW ⟨(k : Int), fl⟩ W) ⟨4, nd, (W.net.length : Nat), nm, bs⟩) ⟨4, nd, p, nm, bs⟩ = doW W ⟨4, nd, p, nm, bs⟩ := by
  have hmo := h.ms _ (List.mem_of_getElem? hm)
  have hp := (List.getElem?_eq_some_iff.1 hm).1
  have hD := pass_ok h hmo hn
  have hkn := (List.getElem?_eq_some_iff.1 hl).1
  obtain ⟨ck, hck⟩ : ∃ ck, W.clock[k]? = some ck := ⟨_, List.getElem?_eq_getElem (by rw [h.cl]; exact hkn)⟩
  obtain ⟨e1, e2⟩ := arr_is (p := W.net.length) (k := k) (fl := fl) hD (by simp [passW]) hl nd nm bs
  have e3 := e2 hb
  have hx : dropW W.net.length (keepW k (bothL l fl) (passW ⟨(k : Int), fl⟩ W)) = keepW k (bothL l fl) W := by
    simp [dropW, keepW, passW, List.eraseIdx_append_of_length_le]
  rw [hx] at e3
  have hK := keep_ok (k := k) h (bothL_err hb)
  obtain ⟨b1, b2⟩ := both_again hb
  obtain ⟨f1, f2⟩ := arr_is (W := keepW k (bothL l fl) W) (p := p) (l := bothL l fl) hK (by simpa [keepW] using hm) (by simp [keepW, hkn]) nd nm bs
  obtain ⟨g1, g2⟩ := arr_is h hm hl nd nm bs
  refine ⟨e1.trans hb, by rw [e3, f1, b1], ?_⟩
  rw [e3, f2 b1, g2 hb, b2]
  have hc2 : k < W.clock.length := by rw [h.cl]; exact hkn
  simp only [dropW, keepW, List.set_set]
  congr 1
  simp [List.getD, hc2, rsd_again]
end Go.Proofs.YtmgmganbamjnmaaGreatDoor

/-
  Worlds, of lists alone: two messages, in either order.
-/
namespace Go.Proofs.YtmgmganbamjnmaaGreatDoor
open Go.RowKit
set_option linter.unusedVariables false
set_option linter.unusedSimpArgs false

theorem erase_two {α : Type} (l : List α) {i k : Nat} (h : i < k) : (l.eraseIdx i).eraseIdx (k - 1) = (l.eraseIdx k).eraseIdx i := by
  apply List.ext_getElem?
  intro j
  simp only [List.getElem?_eraseIdx]
  by_cases h1 : j < i
  · rw [if_pos (by omega), if_pos h1, if_pos h1, if_pos (by omega)]
  · by_cases h2 : j < k - 1
    · rw [if_pos h2, if_neg h1, if_neg h1, if_pos (by omega)]
    · rw [if_neg h2, if_neg (by omega), if_neg h1, if_neg (by omega)]
theorem nwr_stamp {f g : Fl} (h : nwr f g ≤ 0) : f.stamp ≤ g.stamp := by
  by_cases hlt : g.stamp < f.stamp
  · have e : cmpI f.stamp g.stamp = 1 := by unfold cmpI; rw [if_neg (by omega), if_pos hlt]
    have e2 : nwr f g = 1 := by unfold nwr; rw [e]; unfold nz; rw [if_pos (by decide)]
    omega
  · omega
theorem pick_newer (x y : Fl) : nwr x (pickF x y) ≤ 0 ∧ nwr y (pickF x y) ≤ 0 := by
  unfold pickF
  have h := nwr_ord.anti x y
  split
  · rename_i h1
    exact ⟨by omega, by rw [nwr_self]; exact Int.le_refl _⟩
  · rename_i h1
    exact ⟨by rw [nwr_self]; exact Int.le_refl _, by omega⟩
/-- nobody's file is lost but for a newer one -/
theorem tog_newer {a b : List Fl} (ha : NRise a) (hb : NRise b) {f : Fl} (hf : f ∈ a ∨ f ∈ b) : ∃ g, lookF f.name (tog a b) = some g ∧ nwr f g ≤ 0 := by
  rw [look_tog a b ha hb]
  rcases hf with hf | hf
  · rw [look_mem ha hf]
    cases hl : lookF f.name b with
    | none => exact ⟨f, by rw [joinO_none], by rw [nwr_self]; exact Int.le_refl _⟩
    | some y => exact ⟨pickF f y, rfl, (pick_newer f y).1⟩
  · rw [look_mem hb hf]
    cases hl : lookF f.name a with
    | none => exact ⟨f, rfl, by rw [nwr_self]; exact Int.le_refl _⟩
    | some y => exact ⟨pickF y f, rfl, (pick_newer y f).2⟩
theorem rsd_sub {a b : List Fl} (h : ∀ f ∈ a, ∃ g ∈ b, f.stamp ≤ g.stamp) (c : Int) : rsd (rsd c a) b = rsd c b := by
  have h1 : rsd c a ≤ rsd c b := rsd_lub a c _ (rsd_le b c) (fun f hf => by
    obtain ⟨g, hg, hs⟩ := h f hf
    have := rsd_all b c g hg
    omega)
  have h2 := rsd_lub b (rsd c a) (rsd c b) h1 (rsd_all b c)
  have h3 := rsd_lub b c (rsd (rsd c a) b) (Int.le_trans (rsd_le a c) (rsd_le b _)) (rsd_all b _)
  omega
theorem tog_stamps {a b : List Fl} (ha : NRise a) (hb : NRise b) : ∀ f ∈ a, ∃ g ∈ tog a b, f.stamp ≤ g.stamp := by
  intro f hf
  obtain ⟨g, h1, h2⟩ := tog_newer ha hb (.inl hf)
  exact ⟨g, (look_some h1).2, nwr_stamp h2⟩
/-- three lists, in either order -/
theorem both_swap {l f g : List Fl} (h1 : bothE l f = 0) (h2 : bothE l g = 0) : bothE (bothL l f) g = bothE (bothL l g) f ∧ bothL (bothL l f) g = bothL (bothL l g) f ∧ (bothE (bothL l f) g = 0 → ∀ c, rsd (rsd c (bothL l f)) (bothL (bothL l f) g) = rsd (rsd c (bothL l g)) (bothL (bothL l g) f)) := by
  obtain ⟨el, ef, _⟩ := bothE_zero.1 h1
  obtain ⟨_, eg, _⟩ := bothE_zero.1 h2
  have rl := (errM_zero.1 el).2.2
  have rf := (errM_zero.1 ef).2.2
  have rg := (errM_zero.1 eg).2.2
  have hA := bothL_err h1
  have hB := bothL_err h2
  have ht : tog (bothL l f) g = tog (bothL l g) f := by
    rw [bothL_ok h1, bothL_ok h2, tog_assoc rl rf rg, tog_comm rf rg, ← tog_assoc rl rg rf]
  have he : bothE (bothL l f) g = bothE (bothL l g) f := by
    unfold bothE errE
    simp only [hA, hB, ef, eg, ht]
  have hL : bothL (bothL l f) g = bothL (bothL l g) f := by
    unfold bothL at ht ⊢
    unfold bothL at he
    rw [he, ht]
  refine ⟨he, hL, fun h0 c => ?_⟩
  rw [← hL]
  have s1 := tog_stamps (errM_zero.1 hA).2.2 rg
  have s2 := tog_stamps (errM_zero.1 hB).2.2 rf
  rw [← bothL_ok h0] at s1
  rw [← bothL_ok (he ▸ h0), ← hL] at s2
  rw [rsd_sub s1, rsd_sub s2]
theorem order_is {W : Wd} {i k : Nat} (h : WdOk W) (hik : i < k) (hk : k < W.net.length) (nd : Int) (nm bs : List UInt8) (h1 : doE W ⟨4, nd, i, nm, bs⟩ = 0) (h2 : doE W ⟨4, nd, k, nm, bs⟩ = 0) :
    doE (doW W ⟨4, nd, i, nm, bs⟩) ⟨4, nd, ((k - 1 : Nat) : Int), nm, bs⟩ = doE (doW W ⟨4, nd, k, nm, bs⟩) ⟨4, nd, i, nm, bs⟩ ∧ doW (doW W ⟨4, nd, i, nm, bs⟩) ⟨4, nd, ((k - 1 : Nat) : Int), nm, bs⟩ = doW (doW W ⟨4, nd, k, nm, bs⟩) ⟨4, nd, i, nm, bs⟩ := by
  obtain ⟨m1, hm1⟩ : ∃ m, W.net[i]? = some m := ⟨_, List.getElem?_eq_getElem (by omega)⟩
  obtain ⟨m2, hm2⟩ : ∃ m, W.net[k]? = some m := ⟨_, List.getElem?_eq_getElem hk⟩
  have o1 := h.ms _ (List.mem_of_getElem? hm1)
  have o2 := h.ms _ (List.mem_of_getElem? hm2)
  obtain ⟨d1, f1⟩ := m1
  obtain ⟨d2, f2⟩ := m2
  obtain ⟨k1, e1⟩ : ∃ k1 : Nat, d1 = (k1 : Int) := ⟨d1.toNat, by have := o1.lo; simp only at this; omega⟩
  obtain ⟨k2, e2⟩ : ∃ k2 : Nat, d2 = (k2 : Int) := ⟨d2.toNat, by have := o2.lo; simp only at this; omega⟩
  subst e1 e2
  have hk1 : k1 < W.nodes.length := by have := o1.hi; simp only at this; omega
  have hk2 : k2 < W.nodes.length := by have := o2.hi; simp only at this; omega
  obtain ⟨l1, c1, hl1, hc1, n1⟩ := h.node hk1
  obtain ⟨l2, c2, hl2, hc2, n2⟩ := h.node hk2
  obtain ⟨A1, A2⟩ := arr_is h hm1 hl1 nd nm bs
  obtain ⟨B1, B2⟩ := arr_is h hm2 hl2 nd nm bs
  rw [A1] at h1
  rw [B1] at h2
  have A3 := A2 h1
  have B3 := B2 h2
  have okA : WdOk (doW W ⟨4, nd, i, nm, bs⟩) := do_ok (A1.trans h1)
  have okB : WdOk (doW W ⟨4, nd, k, nm, bs⟩) := do_ok (B1.trans h2)
  have hmA : (doW W ⟨4, nd, i, nm, bs⟩).net[k - 1]? = some ⟨(k2 : Int), f2⟩ := by
    rw [A3]
    simp only [dropW, keepW, List.getElem?_eraseIdx]
    rw [if_neg (by omega), show k - 1 + 1 = k by omega]
    exact hm2
  have hmB : (doW W ⟨4, nd, k, nm, bs⟩).net[i]? = some ⟨(k1 : Int), f1⟩ := by
    rw [B3]
    simp only [dropW, keepW, List.getElem?_eraseIdx]
    rw [if_pos hik]
    exact hm1
  have hcl1 : k1 < W.clock.length := by rw [h.cl]; exact hk1
  have hcl2 : k2 < W.clock.length := by rw [h.cl]; exact hk2
  by_cases he : k1 = k2
  · subst he
    rw [hl1] at hl2
    cases hl2
    rw [hc1] at hc2
    cases hc2
    have hlA : (doW W ⟨4, nd, i, nm, bs⟩).nodes[k1]? = some (bothL l1 f1) := by rw [A3]; simp [dropW, keepW, hk1]
    have hlB : (doW W ⟨4, nd, k, nm, bs⟩).nodes[k1]? = some (bothL l1 f2) := by rw [B3]; simp [dropW, keepW, hk1]
    obtain ⟨C1, C2⟩ := arr_is okA hmA hlA nd nm bs
    obtain ⟨D1, D2⟩ := arr_is okB hmB hlB nd nm bs
    obtain ⟨s1, s2, s3⟩ := both_swap h1 h2
    refine ⟨by rw [C1, D1, s1], ?_⟩
    by_cases h0 : bothE (bothL l1 f1) f2 = 0
    · rw [C2 h0, D2 (s1 ▸ h0), A3, B3]
      have hcA : W.clock.getD k1 0 = c1 := by simp [List.getD, hc1]
      simp only [dropW, keepW, List.set_set, s2]
      rw [erase_two _ hik]
      congr 1
      simp only [List.getD, List.getElem?_set_self hcl1, Option.getD_some, hc1]
      rw [← s2]
      rw [s3 h0 c1, s2]
    · have x1 : ¬ doE (doW W ⟨4, nd, i, nm, bs⟩) ⟨4, nd, ((k - 1 : Nat) : Int), nm, bs⟩ = 0 := by rw [C1]; exact h0
      have x2 : ¬ doE (doW W ⟨4, nd, k, nm, bs⟩) ⟨4, nd, i, nm, bs⟩ = 0 := by rw [D1, ← s1]; exact h0
      unfold doW at x1 x2 ⊢
      rw [if_neg x1, if_neg x2]
  · have hlA : (doW W ⟨4, nd, i, nm, bs⟩).nodes[k2]? = some l2 := by rw [A3]; simp only [dropW, keepW]; rw [List.getElem?_set_ne he]; exact hl2
    have hlB : (doW W ⟨4, nd, k, nm, bs⟩).nodes[k1]? = some l1 := by rw [B3]; simp only [dropW, keepW]; rw [List.getElem?_set_ne (fun e => he e.symm)]; exact hl1
    obtain ⟨C1, C2⟩ := arr_is okA hmA hlA nd nm bs
    obtain ⟨D1, D2⟩ := arr_is okB hmB hlB nd nm bs
    refine ⟨by rw [C1, D1, h1, h2], ?_⟩
    rw [C2 h2, D2 h1, A3, B3]
    simp only [dropW, keepW]
    rw [erase_two _ hik, List.set_comm _ _ he, List.set_comm _ _ he]
    simp only [List.getD, List.getElem?_set_ne he, List.getElem?_set_ne (fun e : k2 = k1 => he e.symm)]
end Go.Proofs.YtmgmganbamjnmaaGreatDoor

/-
  Worlds, of lists alone: what grows.
-/
namespace Go.Proofs.YtmgmganbamjnmaaGreatDoor
open Go.RowKit
set_option linter.unusedVariables false
set_option linter.unusedSimpArgs false

/-- no file is lost but for a newer one -/
def Newer1 (l l' : List Fl) : Prop := ∀ f ∈ l, ∃ g ∈ l', g.name = f.name ∧ nwr f g ≤ 0
theorem newer_refl (l : List Fl) : Newer1 l l := fun f hf => ⟨f, hf, rfl, by rw [nwr_self]; exact Int.le_refl _⟩
theorem newer_both {a b : List Fl} (h : bothE a b = 0) : Newer1 a (bothL a b) ∧ Newer1 b (bothL a b) := by
  obtain ⟨h1, h2, _⟩ := bothE_zero.1 h
  rw [bothL_ok h]
  have r1 := (errM_zero.1 h1).2.2
  have r2 := (errM_zero.1 h2).2.2
  refine ⟨fun f hf => ?_, fun f hf => ?_⟩
  · obtain ⟨g, h3, h4⟩ := tog_newer r1 r2 (.inl hf)
    exact ⟨g, (look_some h3).2, (look_some h3).1, h4⟩
  · obtain ⟨g, h3, h4⟩ := tog_newer r1 r2 (.inr hf)
    exact ⟨g, (look_some h3).2, (look_some h3).1, h4⟩
/-- what is done to the nodes: one at most has other files, newer ones; no clock goes back -/
structure Gw (W V : Wd) (kd : Int) : Prop where
  len : V.nodes.length = W.nodes.length
  cl : V.clock.length = W.clock.length
  one : ∃ k : Nat, ∀ j : Nat, j ≠ k → V.nodes[j]? = W.nodes[j]?
  new : ∀ (j : Nat) (l l' : List Fl), W.nodes[j]? = some l → V.nodes[j]? = some l' → Newer1 l l'
  ck : ∀ (j : Nat) (c c' : Int), W.clock[j]? = some c → V.clock[j]? = some c' → c ≤ c'
  knd : V.nodes = W.nodes ∨ kd = 1 ∨ kd = 2 ∨ kd = 4
theorem keep_gw {W : Wd} {k : Nat} {l : List Fl} {kd : Int} (hl : Newer1 (W.nodes.getD k []) l) (hk : kd = 1 ∨ kd = 2 ∨ kd = 4) : Gw W (keepW k l W) kd := by
  refine ⟨by simp [keepW], by simp [keepW], ⟨k, fun j hj => by simp only [keepW]; rw [List.getElem?_set_ne (fun e => hj e.symm)]⟩, ?_, ?_, .inr hk⟩
  · intro j a b h1 h2
    simp only [keepW] at h2
    by_cases hj : k = j
    · subst hj
      rw [List.getElem?_set_self (List.getElem?_eq_some_iff.1 h1).1] at h2
      cases h2
      have e : W.nodes.getD k [] = a := by simp [List.getD, h1]
      rw [e] at hl
      exact hl
    · rw [List.getElem?_set_ne hj, h1] at h2
      cases h2
      exact newer_refl a
  · intro j c c' h1 h2
    simp only [keepW] at h2
    by_cases hj : k = j
    · subst hj
      rw [List.getElem?_set_self (List.getElem?_eq_some_iff.1 h1).1] at h2
      cases h2
      have e : W.clock.getD k 0 = c := by simp [List.getD, h1]
      rw [e]
      exact rsd_le l c
    · rw [List.getElem?_set_ne hj, h1] at h2
      cases h2
      exact Int.le_refl _
theorem same_gw {W V : Wd} {kd : Int} (h1 : V.nodes = W.nodes) (h2 : V.clock = W.clock) : Gw W V kd :=
  ⟨by rw [h1], by rw [h2], ⟨0, fun j _ => by rw [h1]⟩, fun j l l' a b => by rw [h1, a] at b; cases b; exact newer_refl l, fun j c c' a b => by rw [h2, a] at b; cases b; exact Int.le_refl _, .inl h1⟩
theorem drop_gw {W V : Wd} {kd : Int} {p : Nat} (h : Gw W V kd) : Gw W (dropW p V) kd := ⟨h.len, h.cl, h.one, h.new, h.ck, h.knd⟩
theorem fileE_zero {W : Wd} {x : Hp} (hE : fileE W x = 0) : isP x.node W.nodes.length = true ∧ W.clock.getD x.node.toNat 0 ≠ 1000000 ∧ bothE (W.nodes.getD x.node.toNat []) [putF x (W.clock.getD x.node.toNat 0)] = 0 := by
  unfold fileE at hE
  split at hE
  · cases hE
  · rename_i h1
    split at hE
    · rename_i q; exact absurd hE q
    · split at hE
      · cases hE
      · rename_i h3
        split at hE
        · cases hE
        · exact ⟨by simpa using h1, h3, hE⟩
theorem do_gw {W : Wd} {x : Hp} (h : doE W x = 0) : Gw W (doW W x) x.kind := by
  obtain ⟨hok, hE, hV⟩ := doE_zero h
  rw [hV]
  unfold cgE at hE
  unfold cgC
  by_cases k1 : x.kind = 1 ∨ x.kind = 2
  · rw [if_pos k1] at hE ⊢
    obtain ⟨_, _, hb⟩ := fileE_zero hE
    exact keep_gw (newer_both hb).1 (by rcases k1 with k | k <;> simp [k])
  · rw [if_neg k1] at hE ⊢
    by_cases k2 : x.kind = 3
    · rw [if_pos k2]; exact same_gw rfl rfl
    · rw [if_neg k2] at hE ⊢
      by_cases k3 : x.kind = 4 ∨ x.kind = 5 ∨ x.kind = 6
      · rw [if_pos k3] at hE
        unfold netE at hE
        unfold netC
        cases hp : isP x.dst W.net.length with
        | false => rw [if_pos hp] at hE; cases hE
        | true =>
          rw [if_neg (by rw [hp]; decide)] at hE
          by_cases k5 : x.kind = 5
          · rw [if_pos k5]; exact same_gw rfl rfl
          · rw [if_neg k5] at hE ⊢
            by_cases k6 : x.kind = 6
            · rw [if_pos k6]; exact same_gw rfl rfl
            · rw [if_neg k6] at hE ⊢
              exact drop_gw (keep_gw (newer_both hE).1 (by rcases k3 with k | k | k; simp [k]; exact absurd k k5; exact absurd k k6))
      · rw [if_neg k3] at hE; cases hE
/-- how many of the first so many nodes have other files -/
def chg (W V : Wd) : Nat → Nat
  | 0 => 0
  | k + 1 => chg W V k + if W.nodes[k]? = V.nodes[k]? then 0 else 1
theorem chg_one {W V : Wd} {kd : Int} (h : Gw W V kd) (n : Nat) : chg W V n ≤ 1 := by
  obtain ⟨k, hk⟩ := h.one
  have : ∀ n, chg W V n ≤ if k < n then 1 else 0 := by
    intro n
    induction n with
    | zero => simp [chg]
    | succ n ih =>
      unfold chg
      by_cases e : n = k
      · subst e
        rw [if_neg (Nat.lt_irrefl n)] at ih
        have q : n < n + 1 := Nat.lt_succ_self n
        simp only [q, if_true]
        split <;> omega
      · rw [if_pos (hk n e).symm]
        split at ih
        · rw [if_pos (by omega)]; omega
        · split <;> omega
  have := this n
  split at this <;> omega
theorem chg_zero {W V : Wd} (h : V.nodes = W.nodes) (n : Nat) : chg W V n = 0 := by
  induction n with
  | zero => rfl
  | succ n ih => unfold chg; rw [ih, h]; simp
end Go.Proofs.YtmgmganbamjnmaaGreatDoor
