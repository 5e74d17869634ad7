/-
  Package inflate, of bits alone: what is read of a row that was cut.
-/
import Derived.Test.YtfoaaamcpknjnadGreatQ15
namespace Go.Proofs.YtfoaaamcpknjnadGreat
set_option linter.unusedVariables false
set_option maxRecDepth 100000

/-- v: what is read of the whole row, without an error; v': of its first m bits -/
def PreU (m : Nat) (v v' : US) : Prop := (v.p ≤ m ∧ v' = v) ∨ (m < v.p ∧ v'.e = 7)
def PreP {α : Type} (m : Nat) (v v' : α × US) : Prop := (v.2.p ≤ m ∧ v' = v) ∨ (m < v.2.p ∧ v'.2.e = 7)

theorem take_same (row : List Bool) (m p n : Nat) (h : p + n ≤ m) : ((row.take m).drop p).take n = (row.drop p).take n := by
  rw [List.drop_take, List.take_take, Nat.min_eq_left (by omega)]
theorem uget_pre (row : List Bool) (m n : Nat) (u : US) (hm : m ≤ row.length) (he : u.e = 0) (h : (uget row n u).2.e = 0) : PreP m (uget row n u) (uget (row.take m) n u) := by
  have hl : (row.take m).length = m := by rw [List.length_take]; omega
  unfold uget at h ⊢
  rw [if_pos he] at h ⊢
  rw [if_pos he, hl]
  by_cases c : row.length < u.p + n
  · rw [if_pos c] at h
    exact absurd (show (7 : Int) = 0 from h) (by decide)
  · rw [if_neg c]
    by_cases d : m < u.p + n
    · rw [if_pos d]
      exact .inr ⟨d, rfl⟩
    · rw [if_neg d, take_same row m _ _ (by omega)]
      exact .inl ⟨by show u.p + n ≤ m; omega, rfl⟩
theorem nextF_pre (l : List Int) (row : List Bool) (m p : Nat) (hm : m ≤ row.length) : ∀ (f n : Nat), (nextF l row p f n).2.2 = 0 → n ≤ (nextF l row p f n).2.1 ∧ ((p + (nextF l row p f n).2.1 ≤ m ∧ nextF l (row.take m) p f n = nextF l row p f n) ∨ (m < p + (nextF l row p f n).2.1 ∧ (nextF l (row.take m) p f n).2.2 = 7))
  | 0, n, h => absurd (show (8 : Int) = 0 from h) (by decide)
  | f + 1, n, h => by
    have hl : (row.take m).length = m := by rw [List.length_take]; omega
    unfold nextF at h ⊢
    by_cases c : row.length < p + n
    · rw [if_pos c] at h
      exact absurd (show (7 : Int) = 0 from h) (by decide)
    · rw [if_neg c] at h ⊢
      rw [hl]
      by_cases d : m < p + n
      · rw [if_pos d]
        cases hf : findC l ((row.drop p).take n) with
        | some q => exact ⟨Nat.le_refl _, .inr ⟨d, by first | rfl | trivial⟩⟩
        | none =>
          rw [hf] at h
          simp only at h ⊢
          obtain ⟨i1, _⟩ := nextF_pre l row m p hm f (n + 1) h
          exact ⟨by omega, .inr ⟨by omega, by first | rfl | trivial⟩⟩
      · rw [if_neg d, take_same row m _ _ (by omega)]
        cases hf : findC l ((row.drop p).take n) with
        | some q => exact ⟨Nat.le_refl _, .inl ⟨by show p + n ≤ m; omega, rfl⟩⟩
        | none =>
          rw [hf] at h
          simp only at h ⊢
          obtain ⟨i1, i2⟩ := nextF_pre l row m p hm f (n + 1) h
          exact ⟨by omega, i2⟩
theorem uplace_pre (l : List Int) (row : List Bool) (m : Nat) (u : US) (hm : m ≤ row.length) (he : u.e = 0) (h : (uplace l row u).2.e = 0) : PreP m (uplace l row u) (uplace l (row.take m) u) := by
  unfold uplace at h ⊢
  rw [if_pos he] at h ⊢
  rw [if_pos he]
  obtain ⟨_, i | i⟩ := nextF_pre l row m u.p hm 15 1 h
  · left
    refine ⟨i.1, ?_⟩
    unfold nextR
    rw [i.2]
  · exact .inr ⟨i.1, i.2⟩
theorem ihow_pre (row : List Bool) (lb : List Int) (m : Nat) (u : US) (hm : m ≤ row.length) (he : u.e = 0) (h : (ihow row lb u).2.e = 0) : PreP m (ihow row lb u) (ihow (row.take m) lb u) := by
  have hp := uplace_pre lb row m u hm he
  unfold ihow at h ⊢
  generalize uplace lb row u = r at *
  generalize uplace lb (row.take m) u = r' at *
  by_cases c : r.2.e ≠ 0
  · rw [if_pos c] at h
    exact absurd h c
  · rw [if_neg c] at h ⊢
    have hr : r.2.e = 0 := by omega
    by_cases d : 29 < r.1
    · rw [if_pos d] at h
      exact absurd (show (8 : Int) = 0 from h) (by decide)
    · rw [if_neg d] at h ⊢
      have hge := uget_ge row (leastF r.1).2 r.2
      rcases hp hr with ⟨p1, p2⟩ | ⟨p1, p2⟩
      · rw [p2, if_neg c, if_neg d]
        rcases uget_pre row m (leastF r.1).2 r.2 hm hr h with ⟨q1, q2⟩ | ⟨q1, q2⟩
        · exact .inl ⟨q1, by rw [q2]⟩
        · exact .inr ⟨q1, q2⟩
      · rw [if_pos (by rw [p2]; decide)]
        exact .inr ⟨by show m < (uget row (leastF r.1).2 r.2).2.p; omega, p2⟩
theorem istep_pre (row : List Bool) (lb : List Int) (m k : Nat) (u : US) (hm : m ≤ row.length) (he : u.e = 0) (hpm : u.p ≤ m) (h : (istep row lb k u).e = 0) : PreU m (istep row lb k u) (istep (row.take m) lb k u) := by
  unfold istep at h ⊢
  by_cases c1 : k < 256
  · rw [if_pos c1] at h ⊢
    rw [if_pos c1]
    by_cases c2 : 3000 < u.out.length + 1
    · rw [if_pos c2] at h
      exact absurd (show (2 : Int) = 0 from h) (by decide)
    · rw [if_neg c2]
      exact .inl ⟨hpm, rfl⟩
  · rw [if_neg c1] at h ⊢
    rw [if_neg c1]
    by_cases c2 : 285 < k
    · rw [if_pos c2] at h
      exact absurd (show (8 : Int) = 0 from h) (by decide)
    · rw [if_neg c2] at h ⊢
      rw [if_neg c2]
      have hg := uget_pre row m (leastS k).2 u hm he
      have hgp := iget_p row (leastS k).2 u (by omega)
      generalize uget row (leastS k).2 u = g at *
      generalize uget (row.take m) (leastS k).2 u = g' at *
      by_cases c3 : g.2.e ≠ 0
      · rw [if_pos c3] at h
        exact absurd h c3
      · rw [if_neg c3] at h ⊢
        have hg0 : g.2.e = 0 := by omega
        by_cases c4 : (ihow row lb g.2).2.e ≠ 0
        · rw [if_pos c4] at h
          exact absurd h c4
        · rw [if_neg c4] at h ⊢
          obtain ⟨d1, _, _⟩ := iback_keeps _ _ _ h
          obtain ⟨_, _, b3, b4⟩ := ihow_keeps row lb g.2 hgp
          rcases hg hg0 with ⟨p1, p2⟩ | ⟨p1, p2⟩
          · rw [p2, if_neg c3]
            rcases ihow_pre row lb m g.2 hm hg0 (by omega) with ⟨q1, q2⟩ | ⟨q1, q2⟩
            · rw [q2, if_neg c4]
              exact .inl ⟨by rw [d1]; exact q1, rfl⟩
            · rw [if_pos (by rw [q2]; decide)]
              exact .inr ⟨by rw [d1]; exact q1, q2⟩
          · rw [if_pos (by rw [p2]; decide)]
            exact .inr ⟨by rw [d1]; omega, p2⟩
theorem itoks_pre (row : List Bool) (la lb : List Int) (m : Nat) (hm : m ≤ row.length) : ∀ (f f' : Nat) (u : US), u.e = 0 → u.p ≤ m → u.out.length ≤ 3000 → row.length + 1 ≤ u.p + f → m + 1 ≤ u.p + f' → (itoks row la lb f u).e = 0 → PreU m (itoks row la lb f u) (itoks (row.take m) la lb f' u)
  | 0, f', u, he, hpm, ho, hf, hf', h => by omega
  | f + 1, 0, u, he, hpm, ho, hf, hf', h => by omega
  | f + 1, f' + 1, u, he, hpm, ho, hf, hf', h => by
    have hp := uplace_pre la row m u hm he
    have a1 := uplace_ahd la row u (by omega) ho
    have hup := uplace_up la row u he
    have hmain := itoks_ahd row la lb (f + 1) u (by omega) ho h
    rw [itoks_succ] at h hmain ⊢
    rw [itoks_succ]
    generalize uplace la row u = r at *
    generalize uplace la (row.take m) u = r' at *
    by_cases c : r.2.e ≠ 0
    · rw [if_pos c] at h
      exact absurd h c
    · have hr : r.2.e = 0 := by omega
      have hup := hup hr
      rw [if_neg c] at h hmain ⊢
      by_cases d : r.1 = 256
      · rw [if_pos d]
        rcases hp hr with ⟨p1, p2⟩ | ⟨p1, p2⟩
        · rw [p2, if_neg c, if_pos d]
          exact .inl ⟨p1, rfl⟩
        · rw [if_pos (by rw [p2]; decide)]
          exact .inr ⟨p1, p2⟩
      · rw [if_neg d] at h hmain ⊢
        by_cases g : (istep row lb r.1 r.2).e ≠ 0
        · rw [if_pos g] at h
          exact absurd h g
        · rw [if_neg g] at h hmain ⊢
          have hg : (istep row lb r.1 r.2).e = 0 := by omega
          have a2 := istep_ahd row lb r.1 r.2 a1.le a1.out hg
          have a3 := itoks_ahd row la lb f _ a2.le a2.out h
          have l2 := a2.ge
          have l3 := a3.ge
          rcases hp hr with ⟨p1, p2⟩ | ⟨p1, p2⟩
          · rw [p2, if_neg c, if_neg d]
            rcases istep_pre row lb m r.1 r.2 hm hr p1 hg with ⟨q1, q2⟩ | ⟨q1, q2⟩
            · rw [q2, if_neg g]
              exact itoks_pre row la lb m hm f f' _ hg q1 a2.out (by omega) (by omega) h
            · rw [if_pos (by rw [q2]; decide)]
              exact .inr ⟨by omega, q2⟩
          · rw [if_pos (by rw [p2]; decide)]
            exact .inr ⟨by omega, p2⟩
theorem ustore_pre (row : List Bool) (m : Nat) (hm : m ≤ row.length) : ∀ (k : Nat) (u : US), u.p ≤ m → (ustore row k u).e = 0 → PreU m (ustore row k u) (ustore (row.take m) k u)
  | 0, u, hpm, h => .inl ⟨hpm, rfl⟩
  | k + 1, u, hpm, h => by
    have he := ustore_e h
    rw [ustore, if_pos he] at h ⊢
    rw [ustore, if_pos he]
    have h0 := ustore_e h
    obtain ⟨h1, h2, h3⟩ := usay_e h0
    have hp := uget_pre row m 8 u hm he h1
    have hgp := iget_p row 8 u (by omega)
    generalize uget row 8 u = g at *
    generalize uget (row.take m) 8 u = g' at *
    rw [h3] at h ⊢
    obtain ⟨s1, s2, s3⟩ := ustore_p h hgp
    rcases hp with ⟨p1, p2⟩ | ⟨p1, p2⟩
    · rw [p2, h3]
      exact ustore_pre row m hm k _ p1 h
    · have e7 : usay g'.1 g'.2 = g'.2 := by unfold usay; rw [if_neg (by rw [p2]; decide)]
      rw [e7, ustore_bad (row.take m) k g'.2 (by rw [p2]; decide)]
      refine .inr ⟨?_, p2⟩
      have s1 : g.2.p ≤ _ := s1
      omega
theorem istored_pre (row : List Bool) (q : Nat) (u : US) (hm : 8 * q ≤ row.length) (he : u.e = 0) (hpm : u.p ≤ 8 * q) (h : (istored row u).e = 0) : PreU (8 * q) (istored row u) (istored (row.take (8 * q)) u) := by
  obtain ⟨p0, hp0⟩ : ∃ p0, (u.p + 7) / 8 * 8 = p0 := ⟨_, rfl⟩
  have hp8 : p0 ≤ 8 * q := by omega
  obtain ⟨r1, v1, h1⟩ : ∃ r1 v1, uget row 16 { u with p := p0 } = (r1, v1) := ⟨_, _, rfl⟩
  obtain ⟨r2, v2, h2⟩ : ∃ r2 v2, uget row 16 v1 = (r2, v2) := ⟨_, _, rfl⟩
  obtain ⟨s1, x1, g1⟩ : ∃ s1 x1, uget (row.take (8 * q)) 16 { u with p := p0 } = (s1, x1) := ⟨_, _, rfl⟩
  obtain ⟨s2, x2, g2⟩ : ∃ s2 x2, uget (row.take (8 * q)) 16 x1 = (s2, x2) := ⟨_, _, rfl⟩
  rw [istored_is row u v1 v2 p0 r1 r2 hp0 h1 h2] at h ⊢
  rw [istored_is (row.take (8 * q)) u x1 x2 p0 s1 s2 hp0 g1 g2]
  by_cases c : v2.e ≠ 0
  · rw [if_pos c] at h
    exact absurd h c
  rw [if_neg c] at h ⊢
  have e2 : v2.e = 0 := by omega
  by_cases c2 : r1 + r2 ≠ 65535
  · rw [if_pos c2] at h
    exact absurd (show (4 : Int) = 0 from h) (by decide)
  rw [if_neg c2] at h ⊢
  by_cases c3 : 3000 < v2.out.length + r1
  · rw [if_pos c3] at h
    exact absurd (show (2 : Int) = 0 from h) (by decide)
  rw [if_neg c3] at h ⊢
  have e1 : v1.e = 0 := uget_e (by rw [h2]; exact e2)
  have b1 := uget_p2 h1 e1
  have b2 := uget_p2 h2 e2
  obtain ⟨t1, t2, _⟩ := ustore_p h b2.2.1
  have P1 := uget_pre row (8 * q) 16 { u with p := p0 } hm he (by rw [h1]; exact e1)
  rw [h1, g1] at P1
  rcases P1 with ⟨p1, p2⟩ | ⟨p1, p2⟩
  · obtain ⟨rfl, rfl⟩ := Prod.mk.inj p2
    have P2 := uget_pre row (8 * q) 16 x1 hm e1 (by rw [h2]; exact e2)
    rw [h2, g2] at P2
    rcases P2 with ⟨q1, q2⟩ | ⟨q1, q2⟩
    · obtain ⟨rfl, rfl⟩ := Prod.mk.inj q2
      rw [if_neg c, if_neg c2, if_neg c3]
      exact ustore_pre row (8 * q) hm _ _ q1 h
    · have q1 : 8 * q < v2.p := q1
      have q2 : x2.e = 7 := q2
      rw [if_pos (by rw [q2]; decide)]
      exact .inr ⟨by omega, q2⟩
  · have p1 : 8 * q < v1.p := p1
    have p2 : x1.e = 7 := p2
    have : x2 = x1 := by have := iget_bad (row.take (8 * q)) 16 x1 (by rw [p2]; decide); rw [g2] at this; exact this
    rw [this, if_pos (by rw [p2]; decide)]
    exact .inr ⟨by omega, p2⟩
end Go.Proofs.YtfoaaamcpknjnadGreat

/-
  Package inflate, of bits alone: what is read of a row that was cut: lengths that are told, blocks.
-/
namespace Go.Proofs.YtfoaaamcpknjnadGreat
set_option linter.unusedVariables false
set_option maxRecDepth 100000

theorem usmall_bad (row : List Bool) : ∀ (ks : List Nat) (s : List Int) (u : US), u.e ≠ 0 → (usmall row ks s u).2 = u
  | [], s, u, h => rfl
  | k :: r, s, u, h => by
    rw [usmall, iget_bad row 3 u h]
    exact usmall_bad row r _ u h
theorem uwrong_bad (x : Int) (u : US) (h : u.e ≠ 0) : uwrong x u = u := by unfold uwrong; rw [if_neg h]
theorem ukind_bad (row : List Bool) (l : List Int) (k : Nat) (u : US) (h : u.e ≠ 0) : (ukind row l k u).2.2 = u := by
  unfold ukind
  split
  · split
    · exact uwrong_bad 8 u h
    · exact iget_bad row 2 u h
  · split
    · exact iget_bad row 3 u h
    · split
      · exact iget_bad row 7 u h
      · rfl
theorem usmall_pre (row : List Bool) (m : Nat) (hm : m ≤ row.length) : ∀ (ks : List Nat) (s : List Int) (u : US), u.p ≤ m → (usmall row ks s u).2.e = 0 → PreP m (usmall row ks s u) (usmall (row.take m) ks s u)
  | [], s, u, hpm, h => .inl ⟨hpm, rfl⟩
  | k :: r, s, u, hpm, h => by
    rw [usmall] at h ⊢
    rw [usmall]
    have h1 := usmall_e h
    have he := uget_e h1
    have hP := uget_pre row m 3 u hm he h1
    have hgp := iget_p row 3 u (by omega)
    generalize uget row 3 u = g at *
    generalize uget (row.take m) 3 u = g' at *
    rcases hP with ⟨p1, p2⟩ | ⟨p1, p2⟩
    · rw [p2]
      exact usmall_pre row m hm r _ _ p1 h
    · refine .inr ⟨?_, ?_⟩
      · have := (usmall_p h hgp).1
        omega
      · rw [usmall_bad _ _ _ _ (by rw [p2]; decide)]
        exact p2
theorem ukind_pre (row : List Bool) (m : Nat) (hm : m ≤ row.length) (l : List Int) (k : Nat) (u : US) (he : u.e = 0) (hpm : u.p ≤ m) (h : (ukind row l k u).2.2.e = 0) : ((ukind row l k u).2.2.p ≤ m ∧ ukind (row.take m) l k u = ukind row l k u) ∨ (m < (ukind row l k u).2.2.p ∧ (ukind (row.take m) l k u).2.2.e = 7) := by
  unfold ukind at h ⊢
  by_cases c : k = 16
  · rw [if_pos c] at h ⊢
    rw [if_pos c]
    by_cases d : l.length = 0
    · rw [if_pos d] at h
      exact absurd h (uwrong_e (by decide))
    · rw [if_neg d] at h ⊢
      rw [if_neg d]
      rcases uget_pre row m 2 u hm he h with ⟨p1, p2⟩ | ⟨p1, p2⟩
      · exact .inl ⟨p1, by rw [p2]⟩
      · exact .inr ⟨p1, p2⟩
  · rw [if_neg c] at h ⊢
    rw [if_neg c]
    by_cases c1 : k = 17
    · rw [if_pos c1] at h ⊢
      rw [if_pos c1]
      rcases uget_pre row m 3 u hm he h with ⟨p1, p2⟩ | ⟨p1, p2⟩
      · exact .inl ⟨p1, by rw [p2]⟩
      · exact .inr ⟨p1, p2⟩
    · rw [if_neg c1] at h ⊢
      rw [if_neg c1]
      by_cases c2 : k = 18
      · rw [if_pos c2] at h ⊢
        rw [if_pos c2]
        rcases uget_pre row m 7 u hm he h with ⟨p1, p2⟩ | ⟨p1, p2⟩
        · exact .inl ⟨p1, by rw [p2]⟩
        · exact .inr ⟨p1, p2⟩
      · rw [if_neg c2]
        rw [if_neg c2]
        exact .inl ⟨hpm, rfl⟩
theorem umore_bad (tot : Nat) (l : List Int) (r : Int × Nat × US) (h : r.2.2.e ≠ 0) : (umore tot l r).2 = r.2.2 := by
  unfold umore
  simp only
  rw [if_neg (fun c => h c.1)]
theorem ulens_pre (row : List Bool) (S : List Int) (tot m : Nat) (hm : m ≤ row.length) : ∀ (F : Nat) (l : List Int) (u : US), u.p ≤ m → (ulens row S tot F l u).2.e = 0 → PreP m (ulens row S tot F l u) (ulens (row.take m) S tot F l u)
  | 0, l, u, hpm, h => .inl ⟨hpm, rfl⟩
  | F + 1, l, u, hpm, h => by
    by_cases hc : l.length < tot ∧ u.e = 0
    · obtain ⟨r, e⟩ := ulens_round hc.1 hc.2 h
      have hx : ∀ R, ulens R S tot (F + 1) l u = ulens R S tot F (ustep R S tot l u).1 (ustep R S tot l u).2 := fun R => by rw [ulens, if_pos hc]
      rw [hx (row.take m)]
      rw [hx row] at h ⊢
      have rst := r.st
      have rke := r.ke
      have rpe := r.pe
      have hP := uplace_pre S row m u hm hc.2 rpe
      have hpp := uplace_p2 (k := (uplace S row u).1) (v := (uplace S row u).2) rfl rpe
      unfold ustep at rst h ⊢
      generalize uplace S row u = g at *
      generalize uplace S (row.take m) u = g' at *
      have b1 := ukind_p rke hpp.2.1
      have b0 : (umore tot l (ukind row l g.1 g.2)).2.p = (ukind row l g.1 g.2).2.2.p := by rw [rst]
      have b2 := (ulens_p h (by rw [b0]; exact b1.2.1)).1
      have stop7 : ∀ y : Int × Nat × US, y.2.2.e = 7 → (ulens (row.take m) S tot F (umore tot l y).1 (umore tot l y).2).2.e = 7 := fun y hy => by
        have h7 : y.2.2.e ≠ 0 := by rw [hy]; decide
        rw [ulens_stop (by rw [umore_bad tot l y h7]; exact h7)]
        show (umore tot l y).2.e = 7
        rw [umore_bad tot l y h7]
        exact hy
      rcases hP with ⟨p1, p2⟩ | ⟨p1, p2⟩
      · rw [p2]
        rcases ukind_pre row m hm l g.1 g.2 rpe p1 rke with ⟨q1, q2⟩ | ⟨q1, q2⟩
        · rw [q2]
          exact ulens_pre row S tot m hm F _ _ (by rw [b0]; exact q1) h
        · exact .inr ⟨by omega, stop7 _ q2⟩
      · refine .inr ⟨by omega, stop7 _ ?_⟩
        rw [ukind_bad _ _ _ _ (by rw [p2]; decide)]
        exact p2
    · rw [ulens, if_neg hc, ulens, if_neg hc]
      exact .inl ⟨hpm, rfl⟩
/-- lengths that are told, once those of the code of lengths are read -/
theorem utold_of (row : List Bool) (u u1 u2 u3 us : US) (m0 n0 c0 : Nat) (S : List Int) (g1 : uget row 5 u = (m0, u1)) (g2 : uget row 5 u1 = (n0, u2)) (g3 : uget row 4 u2 = (c0, u3)) (hm : m0 + 257 ≤ 286) (hn : n0 + 1 ≤ 30) (sm : usmall row (ord19.take (c0 + 4)) (List.replicate 19 0) u3 = (S, us)) (es : us.e = 0) (cs : errL S = 0) : utold row u = utoldE (m0 + 257) (ulens row S (m0 + 257 + (n0 + 1)) (m0 + 257 + (n0 + 1)) [] us) := by
  have hs : utoldS row (m0 + 257) (n0 + 1) (c0 + 4) u3 = (S, us) := by
    unfold utoldS
    rw [if_neg (by omega)]
    exact sm
  have hu : uchk (S, us) = us := by
    unfold uchk
    rw [if_neg (fun c => c.2 cs)]
  unfold utold
  simp only [g1, g2, g3]
  rw [hs]
  unfold utoldL
  rw [hu, if_neg (fun c => c es)]
theorem utold_bad3 (row : List Bool) (u u1 u2 u3 : US) (m0 n0 c0 : Nat) (g1 : uget row 5 u = (m0, u1)) (g2 : uget row 5 u1 = (n0, u2)) (g3 : uget row 4 u2 = (c0, u3)) (x : US) (hx : x.e ≠ 0) (sm : (usmall row (ord19.take (c0 + 4)) (List.replicate 19 0) (if 286 < m0 + 257 ∨ 30 < n0 + 1 then uwrong 8 u3 else u3)).2 = x) : (utold row u).2 = x := by
  obtain ⟨s, hs⟩ : ∃ s, utoldS row (m0 + 257) (n0 + 1) (c0 + 4) u3 = s := ⟨_, rfl⟩
  have h2 : s.2 = x := by rw [← hs]; exact sm
  have hu : uchk s = x := by
    unfold uchk
    rw [if_neg (fun c => hx (by rw [← h2]; exact c.1))]
    exact h2
  unfold utold
  simp only [g1, g2, g3]
  rw [hs]
  unfold utoldL
  rw [hu, if_pos hx]
theorem utold_pre (row : List Bool) (m : Nat) (hm : m ≤ row.length) (u : US) (hpm : u.p ≤ m) (h : (utold row u).2.e = 0) : PreP m (utold row u) (utold (row.take m) u) := by
  obtain ⟨A, C, v, hv⟩ : ∃ A C v, utold row u = ((A, C), v) := ⟨_, _, _, rfl⟩
  rw [hv] at h
  obtain ⟨m0, n0, c0, u1, u2, u3, us, S, L, hT⟩ := utold_good hv h
  have e3 := hT.e3
  have e2 : u2.e = 0 := uget_e (by rw [hT.g3]; exact e3)
  have e1 : u1.e = 0 := uget_e (by rw [hT.g2]; exact e2)
  have e0 : u.e = 0 := uget_e (by rw [hT.g1]; exact e1)
  have p1 := uget_p2 hT.g1 e1
  have p2 := uget_p2 hT.g2 e2
  have p3 := uget_p2 hT.g3 e3
  have ps := usmall_p (ks := ord19.take (c0 + 4)) (s := List.replicate 19 0) (row := row) (u := u3) (by rw [hT.sm]; exact hT.es) p3.2.1
  rw [hT.sm] at ps
  have pl := ulens_p (row := row) (small := S) (tot := m0 + 257 + (n0 + 1)) (F := m0 + 257 + (n0 + 1)) (l := []) (u := us) (by rw [hT.ln]; exact hT.ev) ps.2.1
  rw [hT.ln] at pl
  have ps1 : u3.p ≤ us.p := ps.1
  have pl1 : us.p ≤ v.p := pl.1
  have hbig : (utold row u).2.p = v.p := by rw [hv]
  have hall := utold_of row u u1 u2 u3 us m0 n0 c0 S hT.g1 hT.g2 hT.g3 hT.hm hT.hn hT.sm hT.es hT.cs
  have bad : ∀ (k1 k2 k3 : Nat) (x1 x2 x3 : US), uget (row.take m) 5 u = (k1, x1) → uget (row.take m) 5 x1 = (k2, x2) → uget (row.take m) 4 x2 = (k3, x3) → x3.e = 7 → (utold (row.take m) u).2.e = 7 := fun k1 k2 k3 x1 x2 x3 i1 i2 i3 i4 => by
    have h7 : x3.e ≠ 0 := by rw [i4]; decide
    rw [utold_bad3 (row.take m) u x1 x2 x3 k1 k2 k3 i1 i2 i3 x3 h7 (by
      split
      · rw [uwrong_bad 8 x3 h7]; exact usmall_bad _ _ _ _ h7
      · exact usmall_bad _ _ _ _ h7)]
    exact i4
  obtain ⟨k1, x1, i1⟩ : ∃ k1 x1, uget (row.take m) 5 u = (k1, x1) := ⟨_, _, rfl⟩
  obtain ⟨k2, x2, i2⟩ : ∃ k2 x2, uget (row.take m) 5 x1 = (k2, x2) := ⟨_, _, rfl⟩
  obtain ⟨k3, x3, i3⟩ : ∃ k3 x3, uget (row.take m) 4 x2 = (k3, x3) := ⟨_, _, rfl⟩
  have same : ∀ (n : Nat) (a b : US) (k : Nat), uget (row.take m) n a = (k, b) → a.e ≠ 0 → b = a := fun n a b k hk ha => by
    have := iget_bad (row.take m) n a ha
    rw [hk] at this
    exact this
  have P1 := uget_pre row m 5 u hm e0 (by rw [hT.g1]; exact e1)
  rw [hT.g1, i1] at P1
  rcases P1 with ⟨a1, a2⟩ | ⟨a1, a2⟩
  rotate_left
  · have a2 : x1.e = 7 := a2
    have a1 : m < u1.p := a1
    have q2 := same 5 x1 x2 k2 i2 (by rw [a2]; decide)
    have q3 := same 4 x2 x3 k3 i3 (by rw [q2, a2]; decide)
    exact .inr ⟨by rw [hbig]; omega, bad k1 k2 k3 x1 x2 x3 i1 i2 i3 (by rw [q3, q2]; exact a2)⟩
  obtain ⟨rfl, rfl⟩ := Prod.mk.inj a2
  have P2 := uget_pre row m 5 x1 hm e1 (by rw [hT.g2]; exact e2)
  rw [hT.g2, i2] at P2
  rcases P2 with ⟨a3, a4⟩ | ⟨a3, a4⟩
  rotate_left
  · have a4 : x2.e = 7 := a4
    have a3 : m < u2.p := a3
    have q3 := same 4 x2 x3 k3 i3 (by rw [a4]; decide)
    exact .inr ⟨by rw [hbig]; omega, bad k1 k2 k3 x1 x2 x3 i1 i2 i3 (by rw [q3]; exact a4)⟩
  obtain ⟨rfl, rfl⟩ := Prod.mk.inj a4
  have P3 := uget_pre row m 4 x2 hm e2 (by rw [hT.g3]; exact e3)
  rw [hT.g3, i3] at P3
  rcases P3 with ⟨a5, a6⟩ | ⟨a5, a6⟩
  rotate_left
  · have a5 : m < u3.p := a5
    exact .inr ⟨by rw [hbig]; omega, bad k1 k2 k3 x1 x2 x3 i1 i2 i3 a6⟩
  obtain ⟨rfl, rfl⟩ := Prod.mk.inj a6
  have a5 : x3.p ≤ m := a5
  have PS := usmall_pre row m hm (ord19.take (k3 + 4)) (List.replicate 19 0) x3 a5 (by rw [hT.sm]; exact hT.es)
  rw [hT.sm] at PS
  rcases PS with ⟨a7, a8⟩ | ⟨a7, a8⟩
  rotate_left
  · have a7 : m < us.p := a7
    refine .inr ⟨by rw [hbig]; omega, ?_⟩
    rw [utold_bad3 (row.take m) u x1 x2 x3 k1 k2 k3 i1 i2 i3 _ (by rw [a8]; decide) (by
      have c1 := hT.hm
      have c2 := hT.hn
      rw [if_neg (by omega)])]
    exact a8
  have PL := ulens_pre row S (k1 + 257 + (k2 + 1)) m hm (k1 + 257 + (k2 + 1)) [] us a7 (by rw [hT.ln]; exact hT.ev)
  have hall' := utold_of (row.take m) u x1 x2 x3 us k1 k2 k3 S i1 i2 i3 hT.hm hT.hn a8 hT.es hT.cs
  rw [hall]
  rw [hall']
  have hp2 : (utoldE (k1 + 257) (ulens row S (k1 + 257 + (k2 + 1)) (k1 + 257 + (k2 + 1)) [] us)).2.p = v.p := by rw [← hall]; exact hbig
  rw [hT.ln] at PL
  rcases PL with ⟨a9, a10⟩ | ⟨a9, a10⟩
  · rw [a10, ← hT.ln]
    refine .inl ⟨?_, rfl⟩
    rw [hp2]
    exact a9
  · refine .inr ⟨?_, ?_⟩
    · rw [hp2]
      exact a9
    · unfold utoldE
      rw [if_pos (by rw [a10]; decide)]
      exact a10
theorem ikeep_pre (m j : Nat) (x y : US) (hx : (ikeep j x).e = 0) (h : x.e = 0 → PreU m x y) : PreU m (ikeep j x) (ikeep j y) := by
  have hx0 : x.e = 0 := by
    unfold ikeep at hx
    by_cases c : x.e = 0
    · exact c
    · rw [if_neg c] at hx; exact absurd hx c
  have hk : ikeep j x = ukept j x := by unfold ikeep; rw [if_pos hx0]
  rcases h hx0 with ⟨p1, p2⟩ | ⟨p1, p2⟩
  · rw [p2]
    exact .inl ⟨by rw [hk]; exact p1, rfl⟩
  · refine .inr ⟨by rw [hk]; exact p1, ?_⟩
    unfold ikeep
    rw [if_neg (by rw [p2]; decide)]
    exact p2
theorem ikind_pre (row : List Bool) (N q : Nat) (hN : row.length = 8 * N) (hm : 8 * q ≤ row.length) (k : Nat) (u : US) (he : u.e = 0) (hpm : u.p ≤ 8 * q) (ho : u.out.length ≤ 3000) (h : (ikind row k u).e = 0) : PreU (8 * q) (ikind row k u) (ikind (row.take (8 * q)) k u) := by
  have hl : (row.take (8 * q)).length = 8 * q := by rw [List.length_take]; omega
  have hend := (ikind_ahd row N hN k u (by omega) ho h).2.2
  unfold ikind at h hend ⊢
  rw [hl]
  by_cases c : k = 0
  · rw [if_pos c] at h hend ⊢
    rw [if_pos c]
    exact ikeep_pre _ _ _ _ h (fun h0 => istored_pre row q u hm he hpm h0)
  · rw [if_neg c] at h hend ⊢
    rw [if_neg c]
    by_cases c1 : k = 1
    · rw [if_pos c1] at h hend ⊢
      rw [if_pos c1]
      exact ikeep_pre _ _ _ _ h (fun h0 => itoks_pre row fixA fixB (8 * q) hm _ _ u he hpm ho (by omega) (by omega) h0)
    · rw [if_neg c1] at h hend ⊢
      rw [if_neg c1]
      by_cases c2 : k = 2
      · rw [if_pos c2] at h hend ⊢
        rw [if_pos c2]
        by_cases c3 : (utold row u).2.e ≠ 0
        · rw [if_pos c3] at h
          exact absurd h c3
        · rw [if_neg c3] at h hend ⊢
          have a0 := utold_ahd row u (by omega) ho (by omega)
          rcases utold_pre row (8 * q) hm u hpm (by omega) with ⟨p1, p2⟩ | ⟨p1, p2⟩
          · rw [p2, if_neg c3]
            exact ikeep_pre _ _ _ _ h (fun h0 => itoks_pre row _ _ (8 * q) hm _ _ _ (by omega) p1 a0.out (by omega) (by omega) h0)
          · rw [if_pos (by rw [p2]; decide)]
            refine .inr ⟨?_, p2⟩
            have hk0 : (itoks row (utold row u).1.1 (utold row u).1.2 (row.length + 1) (utold row u).2).e = 0 := by
              unfold ikeep at h
              by_cases c4 : (itoks row (utold row u).1.1 (utold row u).1.2 (row.length + 1) (utold row u).2).e = 0
              · exact c4
              · rw [if_neg c4] at h; exact absurd h c4
            have a1 := (itoks_ahd row (utold row u).1.1 (utold row u).1.2 (row.length + 1) (utold row u).2 a0.le a0.out hk0).ge
            have hkk : (ikeep 2 (itoks row (utold row u).1.1 (utold row u).1.2 (row.length + 1) (utold row u).2)).p = (itoks row (utold row u).1.1 (utold row u).1.2 (row.length + 1) (utold row u).2).p := by
              unfold ikeep
              rw [if_pos hk0]
              rfl
            rw [hkk]
            omega
      · rw [if_neg c2] at h
        exact absurd (show (4 : Int) = 0 from h) (by decide)
theorem iblock_pre (row : List Bool) (N q : Nat) (hN : row.length = 8 * N) (hm : 8 * q ≤ row.length) (u : US) (he : u.e = 0) (hpm : u.p ≤ 8 * q) (ho : u.out.length ≤ 3000) (h : (iblock row u).2.e = 0) : PreP (8 * q) (iblock row u) (iblock (row.take (8 * q)) u) := by
  unfold iblock at h ⊢
  by_cases c : (uget row 1 u).2.e ≠ 0
  · rw [if_pos c] at h
    exact absurd h c
  · rw [if_neg c] at h ⊢
    have a1 := uget_ahd row 1 u (by omega) ho
    have P1 := uget_pre row (8 * q) 1 u hm he (by omega)
    generalize uget row 1 u = g at *
    generalize uget (row.take (8 * q)) 1 u = g' at *
    have g0 : g.2.e = 0 := by omega
    by_cases c2 : (uget row 2 g.2).2.e ≠ 0
    · rw [if_pos c2] at h
      exact absurd h c2
    · rw [if_neg c2] at h ⊢
      have a2 := uget_ahd row 2 g.2 a1.le a1.out
      have P2 := uget_pre row (8 * q) 2 g.2 hm g0 (by omega)
      generalize uget row 2 g.2 = r at *
      have r0 : r.2.e = 0 := by omega
      have hend := (ikind_ahd row N hN r.1 r.2 a2.le a2.out h).2.2.1
      have l2 := a2.ge
      rcases P1 with ⟨p1, p2⟩ | ⟨p1, p2⟩
      · rw [p2, if_neg c]
        rcases P2 with ⟨p3, p4⟩ | ⟨p3, p4⟩
        · rw [p4, if_neg c2]
          rcases ikind_pre row N q hN hm r.1 r.2 r0 p3 a2.out h with ⟨p5, p6⟩ | ⟨p5, p6⟩
          · exact .inl ⟨p5, by rw [p6]⟩
          · exact .inr ⟨p5, p6⟩
        · rw [if_pos (by rw [p4]; decide)]
          exact .inr ⟨by show 8 * q < (ikind row r.1 r.2).p; omega, p4⟩
      · rw [if_pos (by rw [p2]; decide)]
        exact .inr ⟨by show 8 * q < (ikind row r.1 r.2).p; omega, p2⟩
theorem iblocks_ahd (row : List Bool) (N : Nat) (hN : row.length = 8 * N) : ∀ (F : Nat) (u : US), u.e = 0 → u.p ≤ row.length → u.out.length ≤ 3000 → row.length + 1 ≤ u.p + F → (iblocks row F u).e = 0 → u.p + 3 ≤ (iblocks row F u).p ∧ (iblocks row F u).p ≤ row.length ∧ (iblocks row F u).out.length ≤ 3000 ∧ u.ks.length + 1 ≤ (iblocks row F u).ks.length ∧ (iblocks row F u).ks.length + u.p ≤ u.ks.length + (iblocks row F u).p
  | 0, u, he, hp, ho, hF, h => by omega
  | F + 1, u, he, hp, ho, hF, h => by
    rw [iblocks] at h ⊢
    by_cases c : (iblock row u).1 = 0 ∧ (iblock row u).2.e = 0
    · rw [if_pos c] at h ⊢
      obtain ⟨a1, a2, a3, a4⟩ := iblock_ahd row N hN u he hp ho c.2
      obtain ⟨i1, i2, i3, i4, i5⟩ := iblocks_ahd row N hN F _ c.2 a3 a4 (by omega) h
      exact ⟨by omega, i2, i3, by omega, by omega⟩
    · rw [if_neg c] at h ⊢
      obtain ⟨a1, a2, a3, a4⟩ := iblock_ahd row N hN u he hp ho h
      exact ⟨by omega, a3, a4, by omega, by omega⟩
theorem iblocks_pre (row : List Bool) (N q : Nat) (hN : row.length = 8 * N) (hm : 8 * q ≤ row.length) : ∀ (F F' : Nat) (u : US), u.e = 0 → u.p ≤ 8 * q → u.out.length ≤ 3000 → row.length + 1 ≤ u.p + F → 8 * q + 1 ≤ u.p + F' → (iblocks row F u).e = 0 → PreU (8 * q) (iblocks row F u) (iblocks (row.take (8 * q)) F' u)
  | 0, F', u, he, hpm, ho, hF, hF', h => by omega
  | F + 1, 0, u, he, hpm, ho, hF, hF', h => by omega
  | F + 1, F' + 1, u, he, hpm, ho, hF, hF', h => by
    rw [iblocks] at h ⊢
    rw [iblocks]
    by_cases c : (iblock row u).1 = 0 ∧ (iblock row u).2.e = 0
    · rw [if_pos c] at h ⊢
      obtain ⟨a1, a2, a3, a4⟩ := iblock_ahd row N hN u he (by omega) ho c.2
      rcases iblock_pre row N q hN hm u he hpm ho c.2 with ⟨p1, p2⟩ | ⟨p1, p2⟩
      · rw [p2, if_pos c]
        exact iblocks_pre row N q hN hm F F' _ c.2 p1 a4 (by omega) (by omega) h
      · rw [if_neg (fun d => by rw [p2] at d; exact absurd d.2 (by decide))]
        have i1 := (iblocks_ahd row N hN F _ c.2 a3 a4 (by omega) h).1
        exact .inr ⟨by omega, p2⟩
    · rw [if_neg c] at h ⊢
      rcases iblock_pre row N q hN hm u he hpm ho h with ⟨p1, p2⟩ | ⟨p1, p2⟩
      · rw [p2, if_neg c]
        exact .inl ⟨p1, rfl⟩
      · rw [if_neg (fun d => by rw [p2] at d; exact absurd d.2 (by decide))]
        exact .inr ⟨p1, p2⟩
theorem iunpk_ahd (row : List Bool) (N : Nat) (hN : row.length = 8 * N) (h : (iunpk row).e = 0) : 3 ≤ (iunpk row).p ∧ (iunpk row).p ≤ row.length ∧ (iunpk row).out.length ≤ 3000 ∧ 1 ≤ (iunpk row).ks.length ∧ (iunpk row).ks.length ≤ row.length := by
  have := iblocks_ahd row N hN (row.length + 1) US0 rfl (Nat.zero_le _) (Nat.zero_le _) (by show _ ≤ 0 + _; omega) h
  obtain ⟨i1, i2, i3, i4, i5⟩ := this
  have z1 : US0.p = 0 := rfl
  have z2 : US0.ks.length = 0 := rfl
  unfold iunpk
  exact ⟨by omega, i2, i3, by omega, by omega⟩
/-- what is read of a row that was cut -/
theorem iunpk_pre (row : List Bool) (N q : Nat) (hN : row.length = 8 * N) (hm : q ≤ N) (h : (iunpk row).e = 0) : PreU (8 * q) (iunpk row) (iunpk (row.take (8 * q))) := by
  have hl : (row.take (8 * q)).length = 8 * q := by rw [List.length_take]; omega
  have := iblocks_pre row N q hN (by omega) (row.length + 1) ((row.take (8 * q)).length + 1) US0 rfl (Nat.zero_le _) (Nat.zero_le _) (by show _ ≤ 0 + _; omega) (by show _ ≤ 0 + _; omega) h
  exact this
end Go.Proofs.YtfoaaamcpknjnadGreat

/-
  Lengths that a block tells, of bits alone: they are lengths.
-/
namespace Go.Proofs.YtfoaaamcpknjnadGreat
set_option linter.unusedVariables false
set_option maxRecDepth 100000

theorem errL_08 (l : List Int) (hl : l.length ≤ 288) (h : ∀ x ∈ l, 0 ≤ x ∧ x ≤ 15) : errL l = 0 ∨ errL l = 8 := by
  unfold errL
  rw [if_neg (by omega), if_neg]
  · split
    · exact .inr rfl
    · exact .inl rfl
  · rintro ⟨j, hj, hb⟩
    have hm := h (l.getD j 0) (by rw [List.getD, List.getElem?_eq_getElem hj]; exact List.getElem_mem hj)
    have := okLen_false hb
    omega
theorem ukind_val (row : List Bool) (l : List Int) (k : Nat) (u : US) (hk : k < 19) (hl : ∀ x ∈ l, 0 ≤ x ∧ x ≤ 15) (he : (ukind row l k u).2.2.e = 0) : 0 ≤ (ukind row l k u).1 ∧ (ukind row l k u).1 ≤ 15 := by
  unfold ukind at he ⊢
  by_cases c : k = 16
  · rw [if_pos c] at he ⊢
    by_cases d : l.length = 0
    · rw [if_pos d] at he
      exact absurd he (uwrong_e (by decide))
    · rw [if_neg d]
      have hj : l.length - 1 < l.length := by omega
      exact hl _ (by rw [List.getD, List.getElem?_eq_getElem hj]; exact List.getElem_mem hj)
  · rw [if_neg c]
    split
    · exact ⟨by simp, by simp⟩
    · split
      · exact ⟨by simp, by simp⟩
      · simp only
        omega
theorem ulens_vals {row : List Bool} {S : List Int} {tot : Nat} (hS : S.length = 19) : ∀ (F : Nat) (l : List Int) (u : US), (∀ x ∈ l, 0 ≤ x ∧ x ≤ 15) → (ulens row S tot F l u).2.e = 0 → ∀ x ∈ (ulens row S tot F l u).1, 0 ≤ x ∧ x ≤ 15
  | 0, l, u, hl, h => hl
  | F + 1, l, u, hl, h => by
    by_cases hc : l.length < tot ∧ u.e = 0
    · obtain ⟨r, e⟩ := ulens_round hc.1 hc.2 h
      rw [e] at h ⊢
      refine ulens_vals hS F _ _ ?_ h
      rw [r.st]
      have hk := (uplace_p2 (k := (uplace S row u).1) (v := (uplace S row u).2) rfl r.pe).2.2.2.2.2
      have hv := ukind_val row l (uplace S row u).1 (uplace S row u).2 (by omega) hl r.ke
      intro x hx
      rcases List.mem_append.1 hx with h1 | h1
      · exact hl x h1
      · rw [List.eq_of_mem_replicate h1]
        exact hv
    · rw [ulens, if_neg hc]
      exact hl
theorem usmall_vals {row : List Bool} : ∀ (ks : List Nat) (s : List Int) (u : US), (∀ x ∈ s, 0 ≤ x ∧ x ≤ 7) → ∀ x ∈ (usmall row ks s u).1, 0 ≤ x ∧ x ≤ 7
  | [], s, u, h => h
  | k :: r, s, u, h => by
    rw [usmall]
    refine usmall_vals r _ _ ?_
    intro x hx
    have hl := ulow row 3 u
    rcases List.mem_or_eq_of_mem_set hx with h1 | h1
    · exact h x h1
    · subst h1
      omega
end Go.Proofs.YtfoaaamcpknjnadGreat
