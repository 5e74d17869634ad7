/-
  Package inflate, of bits alone: what is read of a row that was cut.
-/
import Derived.Test.YtfoaaamcpknjnahIun0
namespace Go.Proofs.Ytfoaaamcpknjnah
set_option linter.unusedVariables false
set_option maxRecDepth 100000

/-- v: what is read of the whole row, without an error; v': of its first m bits -/
def PreU (m : Nat) (v v' : US) : Prop := (v.p ≤ m ∧ v' = v) ∨ (m < v.p ∧ v'.e = 7)
def PreP {α : Type} (m : Nat) (v v' : α × US) : Prop := (v.2.p ≤ m ∧ v' = v) ∨ (m < v.2.p ∧ v'.2.e = 7)

theorem take_same (row : List Bool) (m p n : Nat) (h : p + n ≤ m) : ((row.take m).drop p).take n = (row.drop p).take n := by
  rw [List.drop_take, List.take_take, Nat.min_eq_left (by omega)]
theorem uget_pre (row : List Bool) (m n : Nat) (u : US) (hm : m ≤ row.length) (he : u.e = 0) (h : (uget row n u).2.e = 0) : PreP m (uget row n u) (uget (row.take m) n u) := by
  have hl : (row.take m).length = m := by rw [List.length_take]; omega
  unfold uget at h ⊢
  rw [if_pos he] at h ⊢
  rw [if_pos he, hl]
  by_cases c : row.length < u.p + n
  · rw [if_pos c] at h
    exact absurd (show (7 : Int) = 0 from h) (by decide)
  · rw [if_neg c]
    by_cases d : m < u.p + n
    · rw [if_pos d]
      exact .inr ⟨d, rfl⟩
    · rw [if_neg d, take_same row m _ _ (by omega)]
      exact .inl ⟨by show u.p + n ≤ m; omega, rfl⟩
theorem nextF_pre (l : List Int) (row : List Bool) (m p : Nat) (hm : m ≤ row.length) : ∀ (f n : Nat), (nextF l row p f n).2.2 = 0 → n ≤ (nextF l row p f n).2.1 ∧ ((p + (nextF l row p f n).2.1 ≤ m ∧ nextF l (row.take m) p f n = nextF l row p f n) ∨ (m < p + (nextF l row p f n).2.1 ∧ (nextF l (row.take m) p f n).2.2 = 7))
  | 0, n, h => absurd (show (8 : Int) = 0 from h) (by decide)
  | f + 1, n, h => by
    have hl : (row.take m).length = m := by rw [List.length_take]; omega
    unfold nextF at h ⊢
    by_cases c : row.length < p + n
    · rw [if_pos c] at h
      exact absurd (show (7 : Int) = 0 from h) (by decide)
    · rw [if_neg c] at h ⊢
      rw [hl]
      by_cases d : m < p + n
      · rw [if_pos d]
        cases hf : findC l ((row.drop p).take n) with
        | some q => exact ⟨Nat.le_refl _, .inr ⟨d, by first | rfl | trivial⟩⟩
        | none =>
          rw [hf] at h
          simp only at h ⊢
          obtain ⟨i1, _⟩ := nextF_pre l row m p hm f (n + 1) h
          exact ⟨by omega, .inr ⟨by omega, by first | rfl | trivial⟩⟩
      · rw [if_neg d, take_same row m _ _ (by omega)]
        cases hf : findC l ((row.drop p).take n) with
        | some q => exact ⟨Nat.le_refl _, .inl ⟨by show p + n ≤ m; omega, rfl⟩⟩
        | none =>
          rw [hf] at h
          simp only at h ⊢
          obtain ⟨i1, i2⟩ := nextF_pre l row m p hm f (n + 1) h
          exact ⟨by omega, i2⟩
theorem uplace_pre (l : List Int) (row : List Bool) (m : Nat) (u : US) (hm : m ≤ row.length) (he : u.e = 0) (h : (uplace l row u).2.e = 0) : PreP m (uplace l row u) (uplace l (row.take m) u) := by
  unfold uplace at h ⊢
  rw [if_pos he] at h ⊢
  rw [if_pos he]
  obtain ⟨_, i | i⟩ := nextF_pre l row m u.p hm 15 1 h
  · left
    refine ⟨i.1, ?_⟩
    unfold nextR
    rw [i.2]
  · exact .inr ⟨i.1, i.2⟩
theorem ihow_pre (row : List Bool) (lb : List Int) (m : Nat) (u : US) (hm : m ≤ row.length) (he : u.e = 0) (h : (ihow row lb u).2.e = 0) : PreP m (ihow row lb u) (ihow (row.take m) lb u) := by
  have hp := uplace_pre lb row m u hm he
  unfold ihow at h ⊢
  generalize uplace lb row u = r at *
  generalize uplace lb (row.take m) u = r' at *
  by_cases c : r.2.e ≠ 0
  · rw [if_pos c] at h
    exact absurd h c
  · rw [if_neg c] at h ⊢
    have hr : r.2.e = 0 := by omega
    by_cases d : 29 < r.1
    · rw [if_pos d] at h
      exact absurd (show (8 : Int) = 0 from h) (by decide)
    · rw [if_neg d] at h ⊢
      have hge := uget_ge row (leastF r.1).2 r.2
      rcases hp hr with ⟨p1, p2⟩ | ⟨p1, p2⟩
      · rw [p2, if_neg c, if_neg d]
        rcases uget_pre row m (leastF r.1).2 r.2 hm hr h with ⟨q1, q2⟩ | ⟨q1, q2⟩
        · exact .inl ⟨q1, by rw [q2]⟩
        · exact .inr ⟨q1, q2⟩
      · rw [if_pos (by rw [p2]; decide)]
        exact .inr ⟨by show m < (uget row (leastF r.1).2 r.2).2.p; omega, p2⟩
theorem istep_pre (row : List Bool) (lb : List Int) (m k : Nat) (u : US) (hm : m ≤ row.length) (he : u.e = 0) (hpm : u.p ≤ m) (h : (istep row lb k u).e = 0) : PreU m (istep row lb k u) (istep (row.take m) lb k u) := by
  unfold istep at h ⊢
  by_cases c1 : k < 256
  · rw [if_pos c1] at h ⊢
    rw [if_pos c1]
    by_cases c2 : 3000 < u.out.length + 1
    · rw [if_pos c2] at h
      exact absurd (show (2 : Int) = 0 from h) (by decide)
    · rw [if_neg c2]
      exact .inl ⟨hpm, rfl⟩
  · rw [if_neg c1] at h ⊢
    rw [if_neg c1]
    by_cases c2 : 285 < k
    · rw [if_pos c2] at h
      exact absurd (show (8 : Int) = 0 from h) (by decide)
    · rw [if_neg c2] at h ⊢
      rw [if_neg c2]
      have hg := uget_pre row m (leastS k).2 u hm he
      have hgp := iget_p row (leastS k).2 u (by omega)
      generalize uget row (leastS k).2 u = g at *
      generalize uget (row.take m) (leastS k).2 u = g' at *
      by_cases c3 : g.2.e ≠ 0
      · rw [if_pos c3] at h
        exact absurd h c3
      · rw [if_neg c3] at h ⊢
        have hg0 : g.2.e = 0 := by omega
        by_cases c4 : (ihow row lb g.2).2.e ≠ 0
        · rw [if_pos c4] at h
          exact absurd h c4
        · rw [if_neg c4] at h ⊢
          obtain ⟨d1, _, _⟩ := iback_keeps _ _ _ h
          obtain ⟨_, _, b3, b4⟩ := ihow_keeps row lb g.2 hgp
          rcases hg hg0 with ⟨p1, p2⟩ | ⟨p1, p2⟩
          · rw [p2, if_neg c3]
            rcases ihow_pre row lb m g.2 hm hg0 (by omega) with ⟨q1, q2⟩ | ⟨q1, q2⟩
            · rw [q2, if_neg c4]
              exact .inl ⟨by rw [d1]; exact q1, rfl⟩
            · rw [if_pos (by rw [q2]; decide)]
              exact .inr ⟨by rw [d1]; exact q1, q2⟩
          · rw [if_pos (by rw [p2]; decide)]
            exact .inr ⟨by rw [d1]; omega, p2⟩
theorem itoks_pre (row : List Bool) (la lb : List Int) (m : Nat) (hm : m ≤ row.length) : ∀ (f f' : Nat) (u : US), u.e = 0 → u.p ≤ m → u.out.length ≤ 3000 → row.length + 1 ≤ u.p + f → m + 1 ≤ u.p + f' → (itoks row la lb f u).e = 0 → PreU m (itoks row la lb f u) (itoks (row.take m) la lb f' u)
  | 0, f', u, he, hpm, ho, hf, hf', h => by omega
  | f + 1, 0, u, he, hpm, ho, hf, hf', h => by omega
  | f + 1, f' + 1, u, he, hpm, ho, hf, hf', h => by
    have hp := uplace_pre la row m u hm he
    have a1 := uplace_ahd la row u (by omega) ho
    have hup := uplace_up la row u he
    have hmain := itoks_ahd row la lb (f + 1) u (by omega) ho h
    rw [itoks_succ] at h hmain ⊢
    rw [itoks_succ]
    generalize uplace la row u = r at *
    generalize uplace la (row.take m) u = r' at *
    by_cases c : r.2.e ≠ 0
    · rw [if_pos c] at h
      exact absurd h c
    · have hr : r.2.e = 0 := by omega
      have hup := hup hr
      rw [if_neg c] at h hmain ⊢
      by_cases d : r.1 = 256
      · rw [if_pos d]
        rcases hp hr with ⟨p1, p2⟩ | ⟨p1, p2⟩
        · rw [p2, if_neg c, if_pos d]
          exact .inl ⟨p1, rfl⟩
        · rw [if_pos (by rw [p2]; decide)]
          exact .inr ⟨p1, p2⟩
      · rw [if_neg d] at h hmain ⊢
        by_cases g : (istep row lb r.1 r.2).e ≠ 0
        · rw [if_pos g] at h
          exact absurd h g
        · rw [if_neg g] at h hmain ⊢
          have hg : (istep row lb r.1 r.2).e = 0 := by omega
          have a2 := istep_ahd row lb r.1 r.2 a1.le a1.out hg
          have a3 := itoks_ahd row la lb f _ a2.le a2.out h
          have l2 := a2.ge
          have l3 := a3.ge
          rcases hp hr with ⟨p1, p2⟩ | ⟨p1, p2⟩
          · rw [p2, if_neg c, if_neg d]
            rcases istep_pre row lb m r.1 r.2 hm hr p1 hg with ⟨q1, q2⟩ | ⟨q1, q2⟩
            · rw [q2, if_neg g]
              exact itoks_pre row la lb m hm f f' _ hg q1 a2.out (by omega) (by omega) h
            · rw [if_pos (by rw [q2]; decide)]
              exact .inr ⟨by omega, q2⟩
          · rw [if_pos (by rw [p2]; decide)]
            exact .inr ⟨by omega, p2⟩
theorem ustore_pre (row : List Bool) (m : Nat) (hm : m ≤ row.length) : ∀ (k : Nat) (u : US), u.p ≤ m → (ustore row k u).e = 0 → PreU m (ustore row k u) (ustore (row.take m) k u)
  | 0, u, hpm, h => .inl ⟨hpm, rfl⟩
  | k + 1, u, hpm, h => by
    have he := ustore_e h
    rw [ustore, if_pos he] at h ⊢
    rw [ustore, if_pos he]
    have h0 := ustore_e h
    obtain ⟨h1, h2, h3⟩ := usay_e h0
    have hp := uget_pre row m 8 u hm he h1
    have hgp := iget_p row 8 u (by omega)
    generalize uget row 8 u = g at *
    generalize uget (row.take m) 8 u = g' at *
    rw [h3] at h ⊢
    obtain ⟨s1, s2, s3⟩ := ustore_p h hgp
    rcases hp with ⟨p1, p2⟩ | ⟨p1, p2⟩
    · rw [p2, h3]
      exact ustore_pre row m hm k _ p1 h
    · have e7 : usay g'.1 g'.2 = g'.2 := by unfold usay; rw [if_neg (by rw [p2]; decide)]
      rw [e7, ustore_bad (row.take m) k g'.2 (by rw [p2]; decide)]
      refine .inr ⟨?_, p2⟩
      have s1 : g.2.p ≤ _ := s1
      omega
theorem istored_pre (row : List Bool) (q : Nat) (u : US) (hm : 8 * q ≤ row.length) (he : u.e = 0) (hpm : u.p ≤ 8 * q) (h : (istored row u).e = 0) : PreU (8 * q) (istored row u) (istored (row.take (8 * q)) u) := by
  obtain ⟨p0, hp0⟩ : ∃ p0, (u.p + 7) / 8 * 8 = p0 := ⟨_, rfl⟩
  have hp8 : p0 ≤ 8 * q := by omega
  obtain ⟨r1, v1, h1⟩ : ∃ r1 v1, uget row 16 { u with p := p0 } = (r1, v1) := ⟨_, _, rfl⟩
  obtain ⟨r2, v2, h2⟩ : ∃ r2 v2, uget row 16 v1 = (r2, v2) := ⟨_, _, rfl⟩
  obtain ⟨s1, x1, g1⟩ : ∃ s1 x1, uget (row.take (8 * q)) 16 { u with p := p0 } = (s1, x1) := ⟨_, _, rfl⟩
  obtain ⟨s2, x2, g2⟩ : ∃ s2 x2, uget (row.take (8 * q)) 16 x1 = (s2, x2) := ⟨_, _, rfl⟩
  rw [istored_is row u v1 v2 p0 r1 r2 hp0 h1 h2] at h ⊢
  rw [istored_is (row.take (8 * q)) u x1 x2 p0 s1 s2 hp0 g1 g2]
  by_cases c : v2.e ≠ 0
  · rw [if_pos c] at h
    exact absurd h c
  rw [if_neg c] at h ⊢
  have e2 : v2.e = 0 := by omega
  by_cases c2 : r1 + r2 ≠ 65535
  · rw [if_pos c2] at h
    exact absurd (show (4 : Int) = 0 from h) (by decide)
  rw [if_neg c2] at h ⊢
  by_cases c3 : 3000 < v2.out.length + r1
  · rw [if_pos c3] at h
    exact absurd (show (2 : Int) = 0 from h) (by decide)
  rw [if_neg c3] at h ⊢
  have e1 : v1.e = 0 := uget_e (by rw [h2]; exact e2)
  have b1 := uget_p2 h1 e1
  have b2 := uget_p2 h2 e2
  obtain ⟨t1, t2, _⟩ := ustore_p h b2.2.1
  have P1 := uget_pre row (8 * q) 16 { u with p := p0 } hm he (by rw [h1]; exact e1)
  rw [h1, g1] at P1
  rcases P1 with ⟨p1, p2⟩ | ⟨p1, p2⟩
  · obtain ⟨rfl, rfl⟩ := Prod.mk.inj p2
    have P2 := uget_pre row (8 * q) 16 x1 hm e1 (by rw [h2]; exact e2)
    rw [h2, g2] at P2
    rcases P2 with ⟨q1, q2⟩ | ⟨q1, q2⟩
    · obtain ⟨rfl, rfl⟩ := Prod.mk.inj q2
      rw [if_neg c, if_neg c2, if_neg c3]
      exact ustore_pre row (8 * q) hm _ _ q1 h
    · have q1 : 8 * q < v2.p := q1
      have q2 : x2.e = 7 := q2
      rw [if_pos (by rw [q2]; decide)]
      exact .inr ⟨by omega, q2⟩
  · have p1 : 8 * q < v1.p := p1
    have p2 : x1.e = 7 := p2
    have : x2 = x1 := by have := iget_bad (row.take (8 * q)) 16 x1 (by rw [p2]; decide); rw [g2] at this; exact this
    rw [this, if_pos (by rw [p2]; decide)]
    exact .inr ⟨by omega, p2⟩
end Go.Proofs.Ytfoaaamcpknjnah
