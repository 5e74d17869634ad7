/-
  The document's reader: lengths that are told without an error, of bits alone.
-/
import Derived.Test.YtfoaaamcpknjnahUnpS
namespace Go.Proofs.Ytfoaaamcpknjnah
set_option linter.unusedVariables false
set_option maxRecDepth 100000

/-- lengths that are told without an error -/
structure Told (row : List Bool) (u : US) (m0 n0 c0 : Nat) (u1 u2 u3 us : US) (S L A C : List Int) (v : US) : Prop where
  g1 : uget row 5 u = (m0, u1)
  g2 : uget row 5 u1 = (n0, u2)
  g3 : uget row 4 u2 = (c0, u3)
  e3 : u3.e = 0
  hm : m0 + 257 ≤ 286
  hn : n0 + 1 ≤ 30
  sm : usmall row (ord19.take (c0 + 4)) (List.replicate 19 0) u3 = (S, us)
  es : us.e = 0
  cs : errL S = 0
  ln : ulens row S (m0 + 257 + (n0 + 1)) (m0 + 257 + (n0 + 1)) [] us = (L, v)
  ev : v.e = 0
  l256 : L.getD 256 0 ≠ 0
  ca : errL (L.take (m0 + 257)) = 0
  cc : errL (L.drop (m0 + 257)) = 0
  ea : A = L.take (m0 + 257)
  ec : C = L.drop (m0 + 257)
  len : L.length = m0 + 257 + (n0 + 1)
theorem utold_good {row : List Bool} {u v : US} {A C : List Int} (h : utold row u = ((A, C), v)) (hv : v.e = 0) : ∃ m0 n0 c0 u1 u2 u3 us S L, Told row u m0 n0 c0 u1 u2 u3 us S L A C v := by
  obtain ⟨m0, u1, e1⟩ : ∃ m0 u1, uget row 5 u = (m0, u1) := ⟨_, _, rfl⟩
  obtain ⟨n0, u2, e2⟩ : ∃ n0 u2, uget row 5 u1 = (n0, u2) := ⟨_, _, rfl⟩
  obtain ⟨c0, u3, e3⟩ : ∃ c0 u3, uget row 4 u2 = (c0, u3) := ⟨_, _, rfl⟩
  have h1 : utoldL row (m0 + 257) (n0 + 1) (utoldS row (m0 + 257) (n0 + 1) (c0 + 4) u3) = ((A, C), v) := by
    unfold utold at h
    simp only [e1, e2, e3] at h
    exact h
  obtain ⟨S, us, hs⟩ : ∃ S us, utoldS row (m0 + 257) (n0 + 1) (c0 + 4) u3 = (S, us) := ⟨_, _, rfl⟩
  rw [hs] at h1
  unfold utoldL at h1
  by_cases hc : (uchk (S, us)).e ≠ 0
  · rw [if_pos hc] at h1
    have : uchk (S, us) = v := (Prod.mk.inj h1).2
    rw [this] at hc
    exact absurd hv hc
  · rw [if_neg hc] at h1
    have hc0 : (uchk (S, us)).e = 0 := by omega
    have hes : us.e = 0 ∧ errL S = 0 := by
      unfold uchk at hc0
      simp only at hc0
      by_cases hx : us.e = 0 ∧ errL S ≠ 0
      · rw [if_pos hx] at hc0
        exact absurd hc0 (uwrong_e (by decide))
      · rw [if_neg hx] at hc0
        refine ⟨hc0, ?_⟩
        by_cases h5 : errL S = 0
        · exact h5
        · exact absurd ⟨hc0, h5⟩ hx
    have hck : uchk (S, us) = us := by
      unfold uchk
      rw [if_neg]
      rintro ⟨_, h6⟩
      exact h6 hes.2
    rw [hck] at h1
    simp only at h1
    obtain ⟨L, ul, hl⟩ : ∃ L ul, ulens row S (m0 + 257 + (n0 + 1)) (m0 + 257 + (n0 + 1)) [] us = (L, ul) := ⟨_, _, rfl⟩
    rw [hl] at h1
    unfold utoldE at h1
    simp only at h1
    by_cases hu : ul.e ≠ 0
    · rw [if_pos hu] at h1
      have : ul = v := (Prod.mk.inj h1).2
      rw [this] at hu
      exact absurd hv hu
    · rw [if_neg hu] at h1
      have hu0 : ul.e = 0 := by omega
      by_cases hb : L.getD 256 0 = 0 ∨ errL (L.take (m0 + 257)) ≠ 0 ∨ errL (L.drop (m0 + 257)) ≠ 0
      · rw [if_pos hb] at h1
        have : uwrong 8 ul = v := (Prod.mk.inj h1).2
        rw [← this] at hv
        exact absurd hv (uwrong_e (by decide))
      · rw [if_neg hb] at h1
        have ha := (Prod.mk.inj h1).1
        have hev : ul = v := (Prod.mk.inj h1).2
        subst hev
        have hmn : ¬ (286 < m0 + 257 ∨ 30 < n0 + 1) := by
          intro hx
          have he := hs
          unfold utoldS at he
          rw [if_pos hx] at he
          have := congrArg (fun z => z.2.e) he
          simp only at this
          rw [hes.1] at this
          exact uwrong_e (by decide) (usmall_e this)
        have hsm : usmall row (ord19.take (c0 + 4)) (List.replicate 19 0) u3 = (S, us) := by
          unfold utoldS at hs
          rw [if_neg hmn] at hs
          exact hs
        have he3 : u3.e = 0 := by
          have := congrArg (fun z => z.2.e) hsm
          simp only at this
          rw [hes.1] at this
          exact usmall_e this
        have hlen : L.length = m0 + 257 + (n0 + 1) := by
          have := ulens_len (row := row) (small := S) (tot := m0 + 257 + (n0 + 1)) (m0 + 257 + (n0 + 1)) [] us (by simp) (by simp) hes.1 (by rw [hl]; exact hu0) (fun l u _ => (ukind_pos row l _ _).1)
          rw [hl] at this
          exact this
        refine ⟨m0, n0, c0, u1, u2, u3, us, S, L, ⟨e1, e2, e3, he3, by omega, by omega, hsm, hes.1, hes.2, hl, hu0, ?_, ?_, ?_, (Prod.mk.inj ha).1.symm, (Prod.mk.inj ha).2.symm, hlen⟩⟩
        · intro h9; exact hb (.inl h9)
        · by_cases h9 : errL (L.take (m0 + 257)) = 0
          · exact h9
          · exact absurd (.inr (.inl h9)) hb
        · by_cases h9 : errL (L.drop (m0 + 257)) = 0
          · exact h9
          · exact absurd (.inr (.inr h9)) hb
end Go.Proofs.Ytfoaaamcpknjnah
