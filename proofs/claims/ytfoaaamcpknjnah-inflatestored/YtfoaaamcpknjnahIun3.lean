/-
  Package inflate, of bits alone: what is read of a row that was cut: lengths that are told, blocks.
-/
import Derived.Test.YtfoaaamcpknjnahIun2
namespace Go.Proofs.Ytfoaaamcpknjnah
set_option linter.unusedVariables false
set_option maxRecDepth 100000

theorem usmall_bad (row : List Bool) : ∀ (ks : List Nat) (s : List Int) (u : US), u.e ≠ 0 → (usmall row ks s u).2 = u
  | [], s, u, h => rfl
  | k :: r, s, u, h => by
    rw [usmall, iget_bad row 3 u h]
    exact usmall_bad row r _ u h
theorem uwrong_bad (x : Int) (u : US) (h : u.e ≠ 0) : uwrong x u = u := by unfold uwrong; rw [if_neg h]
theorem ukind_bad (row : List Bool) (l : List Int) (k : Nat) (u : US) (h : u.e ≠ 0) : (ukind row l k u).2.2 = u := by
  unfold ukind
  split
  · split
    · exact uwrong_bad 8 u h
    · exact iget_bad row 2 u h
  · split
    · exact iget_bad row 3 u h
    · split
      · exact iget_bad row 7 u h
      · rfl
theorem usmall_pre (row : List Bool) (m : Nat) (hm : m ≤ row.length) : ∀ (ks : List Nat) (s : List Int) (u : US), u.p ≤ m → (usmall row ks s u).2.e = 0 → PreP m (usmall row ks s u) (usmall (row.take m) ks s u)
  | [], s, u, hpm, h => .inl ⟨hpm, rfl⟩
  | k :: r, s, u, hpm, h => by
    rw [usmall] at h ⊢
    rw [usmall]
    have h1 := usmall_e h
    have he := uget_e h1
    have hP := uget_pre row m 3 u hm he h1
    have hgp := iget_p row 3 u (by omega)
    generalize uget row 3 u = g at *
    generalize uget (row.take m) 3 u = g' at *
    rcases hP with ⟨p1, p2⟩ | ⟨p1, p2⟩
    · rw [p2]
      exact usmall_pre row m hm r _ _ p1 h
    · refine .inr ⟨?_, ?_⟩
      · have := (usmall_p h hgp).1
        omega
      · rw [usmall_bad _ _ _ _ (by rw [p2]; decide)]
        exact p2
theorem ukind_pre (row : List Bool) (m : Nat) (hm : m ≤ row.length) (l : List Int) (k : Nat) (u : US) (he : u.e = 0) (hpm : u.p ≤ m) (h : (ukind row l k u).2.2.e = 0) : ((ukind row l k u).2.2.p ≤ m ∧ ukind (row.take m) l k u = ukind row l k u) ∨ (m < (ukind row l k u).2.2.p ∧ (ukind (row.take m) l k u).2.2.e = 7) := by
  unfold ukind at h ⊢
  by_cases c : k = 16
  · rw [if_pos c] at h ⊢
    rw [if_pos c]
    by_cases d : l.length = 0
    · rw [if_pos d] at h
      exact absurd h (uwrong_e (by decide))
    · rw [if_neg d] at h ⊢
      rw [if_neg d]
      rcases uget_pre row m 2 u hm he h with ⟨p1, p2⟩ | ⟨p1, p2⟩
      · exact .inl ⟨p1, by rw [p2]⟩
      · exact .inr ⟨p1, p2⟩
  · rw [if_neg c] at h ⊢
    rw [if_neg c]
    by_cases c1 : k = 17
    · rw [if_pos c1] at h ⊢
      rw [if_pos c1]
      rcases uget_pre row m 3 u hm he h with ⟨p1, p2⟩ | ⟨p1, p2⟩
      · exact .inl ⟨p1, by rw [p2]⟩
      · exact .inr ⟨p1, p2⟩
    · rw [if_neg c1] at h ⊢
      rw [if_neg c1]
      by_cases c2 : k = 18
      · rw [if_pos c2] at h ⊢
        rw [if_pos c2]
        rcases uget_pre row m 7 u hm he h with ⟨p1, p2⟩ | ⟨p1, p2⟩
        · exact .inl ⟨p1, by rw [p2]⟩
        · exact .inr ⟨p1, p2⟩
      · rw [if_neg c2]
        rw [if_neg c2]
        exact .inl ⟨hpm, rfl⟩
theorem umore_bad (tot : Nat) (l : List Int) (r : Int × Nat × US) (h : r.2.2.e ≠ 0) : (umore tot l r).2 = r.2.2 := by
  unfold umore
  simp only
  rw [if_neg (fun c => h c.1)]
theorem ulens_pre (row : List Bool) (S : List Int) (tot m : Nat) (hm : m ≤ row.length) : ∀ (F : Nat) (l : List Int) (u : US), u.p ≤ m → (ulens row S tot F l u).2.e = 0 → PreP m (ulens row S tot F l u) (ulens (row.take m) S tot F l u)
  | 0, l, u, hpm, h => .inl ⟨hpm, rfl⟩
  | F + 1, l, u, hpm, h => by
    by_cases hc : l.length < tot ∧ u.e = 0
    · obtain ⟨r, e⟩ := ulens_round hc.1 hc.2 h
      have hx : ∀ R, ulens R S tot (F + 1) l u = ulens R S tot F (ustep R S tot l u).1 (ustep R S tot l u).2 := fun R => by rw [ulens, if_pos hc]
      rw [hx (row.take m)]
      rw [hx row] at h ⊢
      have rst := r.st
      have rke := r.ke
      have rpe := r.pe
      have hP := uplace_pre S row m u hm hc.2 rpe
      have hpp := uplace_p2 (k := (uplace S row u).1) (v := (uplace S row u).2) rfl rpe
      unfold ustep at rst h ⊢
      generalize uplace S row u = g at *
      generalize uplace S (row.take m) u = g' at *
      have b1 := ukind_p rke hpp.2.1
      have b0 : (umore tot l (ukind row l g.1 g.2)).2.p = (ukind row l g.1 g.2).2.2.p := by rw [rst]
      have b2 := (ulens_p h (by rw [b0]; exact b1.2.1)).1
      have stop7 : ∀ y : Int × Nat × US, y.2.2.e = 7 → (ulens (row.take m) S tot F (umore tot l y).1 (umore tot l y).2).2.e = 7 := fun y hy => by
        have h7 : y.2.2.e ≠ 0 := by rw [hy]; decide
        rw [ulens_stop (by rw [umore_bad tot l y h7]; exact h7)]
        show (umore tot l y).2.e = 7
        rw [umore_bad tot l y h7]
        exact hy
      rcases hP with ⟨p1, p2⟩ | ⟨p1, p2⟩
      · rw [p2]
        rcases ukind_pre row m hm l g.1 g.2 rpe p1 rke with ⟨q1, q2⟩ | ⟨q1, q2⟩
        · rw [q2]
          exact ulens_pre row S tot m hm F _ _ (by rw [b0]; exact q1) h
        · exact .inr ⟨by omega, stop7 _ q2⟩
      · refine .inr ⟨by omega, stop7 _ ?_⟩
        rw [ukind_bad _ _ _ _ (by rw [p2]; decide)]
        exact p2
    · rw [ulens, if_neg hc, ulens, if_neg hc]
      exact .inl ⟨hpm, rfl⟩
/-- lengths that are told, once those of the code of lengths are read -/
theorem utold_of (row : List Bool) (u u1 u2 u3 us : US) (m0 n0 c0 : Nat) (S : List Int) (g1 : uget row 5 u = (m0, u1)) (g2 : uget row 5 u1 = (n0, u2)) (g3 : uget row 4 u2 = (c0, u3)) (hm : m0 + 257 ≤ 286) (hn : n0 + 1 ≤ 30) (sm : usmall row (ord19.take (c0 + 4)) (List.replicate 19 0) u3 = (S, us)) (es : us.e = 0) (cs : errL S = 0) : utold row u = utoldE (m0 + 257) (ulens row S (m0 + 257 + (n0 + 1)) (m0 + 257 + (n0 + 1)) [] us) := by
  have hs : utoldS row (m0 + 257) (n0 + 1) (c0 + 4) u3 = (S, us) := by
    unfold utoldS
    rw [if_neg (by omega)]
    exact sm
  have hu : uchk (S, us) = us := by
    unfold uchk
    rw [if_neg (fun c => c.2 cs)]
  unfold utold
  simp only [g1, g2, g3]
  rw [hs]
  unfold utoldL
  rw [hu, if_neg (fun c => c es)]
theorem utold_bad3 (row : List Bool) (u u1 u2 u3 : US) (m0 n0 c0 : Nat) (g1 : uget row 5 u = (m0, u1)) (g2 : uget row 5 u1 = (n0, u2)) (g3 : uget row 4 u2 = (c0, u3)) (x : US) (hx : x.e ≠ 0) (sm : (usmall row (ord19.take (c0 + 4)) (List.replicate 19 0) (if 286 < m0 + 257 ∨ 30 < n0 + 1 then uwrong 8 u3 else u3)).2 = x) : (utold row u).2 = x := by
  obtain ⟨s, hs⟩ : ∃ s, utoldS row (m0 + 257) (n0 + 1) (c0 + 4) u3 = s := ⟨_, rfl⟩
  have h2 : s.2 = x := by rw [← hs]; exact sm
  have hu : uchk s = x := by
    unfold uchk
    rw [if_neg (fun c => hx (by rw [← h2]; exact c.1))]
    exact h2
  unfold utold
  simp only [g1, g2, g3]
  rw [hs]
  unfold utoldL
  rw [hu, if_pos hx]
theorem utold_pre (row : List Bool) (m : Nat) (hm : m ≤ row.length) (u : US) (hpm : u.p ≤ m) (h : (utold row u).2.e = 0) : PreP m (utold row u) (utold (row.take m) u) := by
  obtain ⟨A, C, v, hv⟩ : ∃ A C v, utold row u = ((A, C), v) := ⟨_, _, _, rfl⟩
  rw [hv] at h
  obtain ⟨m0, n0, c0, u1, u2, u3, us, S, L, hT⟩ := utold_good hv h
  have e3 := hT.e3
  have e2 : u2.e = 0 := uget_e (by rw [hT.g3]; exact e3)
  have e1 : u1.e = 0 := uget_e (by rw [hT.g2]; exact e2)
  have e0 : u.e = 0 := uget_e (by rw [hT.g1]; exact e1)
  have p1 := uget_p2 hT.g1 e1
  have p2 := uget_p2 hT.g2 e2
  have p3 := uget_p2 hT.g3 e3
  have ps := usmall_p (ks := ord19.take (c0 + 4)) (s := List.replicate 19 0) (row := row) (u := u3) (by rw [hT.sm]; exact hT.es) p3.2.1
  rw [hT.sm] at ps
  have pl := ulens_p (row := row) (small := S) (tot := m0 + 257 + (n0 + 1)) (F := m0 + 257 + (n0 + 1)) (l := []) (u := us) (by rw [hT.ln]; exact hT.ev) ps.2.1
  rw [hT.ln] at pl
  have ps1 : u3.p ≤ us.p := ps.1
  have pl1 : us.p ≤ v.p := pl.1
  have hbig : (utold row u).2.p = v.p := by rw [hv]
  have hall := utold_of row u u1 u2 u3 us m0 n0 c0 S hT.g1 hT.g2 hT.g3 hT.hm hT.hn hT.sm hT.es hT.cs
  have bad : ∀ (k1 k2 k3 : Nat) (x1 x2 x3 : US), uget (row.take m) 5 u = (k1, x1) → uget (row.take m) 5 x1 = (k2, x2) → uget (row.take m) 4 x2 = (k3, x3) → x3.e = 7 → (utold (row.take m) u).2.e = 7 := fun k1 k2 k3 x1 x2 x3 i1 i2 i3 i4 => by
    have h7 : x3.e ≠ 0 := by rw [i4]; decide
    rw [utold_bad3 (row.take m) u x1 x2 x3 k1 k2 k3 i1 i2 i3 x3 h7 (by
      split
      · rw [uwrong_bad 8 x3 h7]; exact usmall_bad _ _ _ _ h7
      · exact usmall_bad _ _ _ _ h7)]
    exact i4
  obtain ⟨k1, x1, i1⟩ : ∃ k1 x1, uget (row.take m) 5 u = (k1, x1) := ⟨_, _, rfl⟩
  obtain ⟨k2, x2, i2⟩ : ∃ k2 x2, uget (row.take m) 5 x1 = (k2, x2) := ⟨_, _, rfl⟩
  obtain ⟨k3, x3, i3⟩ : ∃ k3 x3, uget (row.take m) 4 x2 = (k3, x3) := ⟨_, _, rfl⟩
  have same : ∀ (n : Nat) (a b : US) (k : Nat), uget (row.take m) n a = (k, b) → a.e ≠ 0 → b = a := fun n a b k hk ha => by
    have := iget_bad (row.take m) n a ha
    rw [hk] at this
    exact this
  have P1 := uget_pre row m 5 u hm e0 (by rw [hT.g1]; exact e1)
  rw [hT.g1, i1] at P1
  rcases P1 with ⟨a1, a2⟩ | ⟨a1, a2⟩
  rotate_left
  · have a2 : x1.e = 7 := a2
    have a1 : m < u1.p := a1
    have q2 := same 5 x1 x2 k2 i2 (by rw [a2]; decide)
    have q3 := same 4 x2 x3 k3 i3 (by rw [q2, a2]; decide)
    exact .inr ⟨by rw [hbig]; omega, bad k1 k2 k3 x1 x2 x3 i1 i2 i3 (by rw [q3, q2]; exact a2)⟩
  obtain ⟨rfl, rfl⟩ := Prod.mk.inj a2
  have P2 := uget_pre row m 5 x1 hm e1 (by rw [hT.g2]; exact e2)
  rw [hT.g2, i2] at P2
  rcases P2 with ⟨a3, a4⟩ | ⟨a3, a4⟩
  rotate_left
  · have a4 : x2.e = 7 := a4
    have a3 : m < u2.p := a3
    have q3 := same 4 x2 x3 k3 i3 (by rw [a4]; decide)
    exact .inr ⟨by rw [hbig]; omega, bad k1 k2 k3 x1 x2 x3 i1 i2 i3 (by rw [q3]; exact a4)⟩
  obtain ⟨rfl, rfl⟩ := Prod.mk.inj a4
  have P3 := uget_pre row m 4 x2 hm e2 (by rw [hT.g3]; exact e3)
  rw [hT.g3, i3] at P3
  rcases P3 with ⟨a5, a6⟩ | ⟨a5, a6⟩
  rotate_left
  · have a5 : m < u3.p := a5
    exact .inr ⟨by rw [hbig]; omega, bad k1 k2 k3 x1 x2 x3 i1 i2 i3 a6⟩
  obtain ⟨rfl, rfl⟩ := Prod.mk.inj a6
  have a5 : x3.p ≤ m := a5
  have PS := usmall_pre row m hm (ord19.take (k3 + 4)) (List.replicate 19 0) x3 a5 (by rw [hT.sm]; exact hT.es)
  rw [hT.sm] at PS
  rcases PS with ⟨a7, a8⟩ | ⟨a7, a8⟩
  rotate_left
  · have a7 : m < us.p := a7
    refine .inr ⟨by rw [hbig]; omega, ?_⟩
    rw [utold_bad3 (row.take m) u x1 x2 x3 k1 k2 k3 i1 i2 i3 _ (by rw [a8]; decide) (by
      have c1 := hT.hm
      have c2 := hT.hn
      rw [if_neg (by omega)])]
    exact a8
  have PL := ulens_pre row S (k1 + 257 + (k2 + 1)) m hm (k1 + 257 + (k2 + 1)) [] us a7 (by rw [hT.ln]; exact hT.ev)
  have hall' := utold_of (row.take m) u x1 x2 x3 us k1 k2 k3 S i1 i2 i3 hT.hm hT.hn a8 hT.es hT.cs
  rw [hall]
  rw [hall']
  have hp2 : (utoldE (k1 + 257) (ulens row S (k1 + 257 + (k2 + 1)) (k1 + 257 + (k2 + 1)) [] us)).2.p = v.p := by rw [← hall]; exact hbig
  rw [hT.ln] at PL
  rcases PL with ⟨a9, a10⟩ | ⟨a9, a10⟩
  · rw [a10, ← hT.ln]
    refine .inl ⟨?_, rfl⟩
    rw [hp2]
    exact a9
  · refine .inr ⟨?_, ?_⟩
    · rw [hp2]
      exact a9
    · unfold utoldE
      rw [if_pos (by rw [a10]; decide)]
      exact a10
theorem ikeep_pre (m j : Nat) (x y : US) (hx : (ikeep j x).e = 0) (h : x.e = 0 → PreU m x y) : PreU m (ikeep j x) (ikeep j y) := by
  have hx0 : x.e = 0 := by
    unfold ikeep at hx
    by_cases c : x.e = 0
    · exact c
    · rw [if_neg c] at hx; exact absurd hx c
  have hk : ikeep j x = ukept j x := by unfold ikeep; rw [if_pos hx0]
  rcases h hx0 with ⟨p1, p2⟩ | ⟨p1, p2⟩
  · rw [p2]
    exact .inl ⟨by rw [hk]; exact p1, rfl⟩
  · refine .inr ⟨by rw [hk]; exact p1, ?_⟩
    unfold ikeep
    rw [if_neg (by rw [p2]; decide)]
    exact p2
theorem ikind_pre (row : List Bool) (N q : Nat) (hN : row.length = 8 * N) (hm : 8 * q ≤ row.length) (k : Nat) (u : US) (he : u.e = 0) (hpm : u.p ≤ 8 * q) (ho : u.out.length ≤ 3000) (h : (ikind row k u).e = 0) : PreU (8 * q) (ikind row k u) (ikind (row.take (8 * q)) k u) := by
  have hl : (row.take (8 * q)).length = 8 * q := by rw [List.length_take]; omega
  have hend := (ikind_ahd row N hN k u (by omega) ho h).2.2
  unfold ikind at h hend ⊢
  rw [hl]
  by_cases c : k = 0
  · rw [if_pos c] at h hend ⊢
    rw [if_pos c]
    exact ikeep_pre _ _ _ _ h (fun h0 => istored_pre row q u hm he hpm h0)
  · rw [if_neg c] at h hend ⊢
    rw [if_neg c]
    by_cases c1 : k = 1
    · rw [if_pos c1] at h hend ⊢
      rw [if_pos c1]
      exact ikeep_pre _ _ _ _ h (fun h0 => itoks_pre row fixA fixB (8 * q) hm _ _ u he hpm ho (by omega) (by omega) h0)
    · rw [if_neg c1] at h hend ⊢
      rw [if_neg c1]
      by_cases c2 : k = 2
      · rw [if_pos c2] at h hend ⊢
        rw [if_pos c2]
        by_cases c3 : (utold row u).2.e ≠ 0
        · rw [if_pos c3] at h
          exact absurd h c3
        · rw [if_neg c3] at h hend ⊢
          have a0 := utold_ahd row u (by omega) ho (by omega)
          rcases utold_pre row (8 * q) hm u hpm (by omega) with ⟨p1, p2⟩ | ⟨p1, p2⟩
          · rw [p2, if_neg c3]
            exact ikeep_pre _ _ _ _ h (fun h0 => itoks_pre row _ _ (8 * q) hm _ _ _ (by omega) p1 a0.out (by omega) (by omega) h0)
          · rw [if_pos (by rw [p2]; decide)]
            refine .inr ⟨?_, p2⟩
            have hk0 : (itoks row (utold row u).1.1 (utold row u).1.2 (row.length + 1) (utold row u).2).e = 0 := by
              unfold ikeep at h
              by_cases c4 : (itoks row (utold row u).1.1 (utold row u).1.2 (row.length + 1) (utold row u).2).e = 0
              · exact c4
              · rw [if_neg c4] at h; exact absurd h c4
            have a1 := (itoks_ahd row (utold row u).1.1 (utold row u).1.2 (row.length + 1) (utold row u).2 a0.le a0.out hk0).ge
            have hkk : (ikeep 2 (itoks row (utold row u).1.1 (utold row u).1.2 (row.length + 1) (utold row u).2)).p = (itoks row (utold row u).1.1 (utold row u).1.2 (row.length + 1) (utold row u).2).p := by
              unfold ikeep
              rw [if_pos hk0]
              rfl
            rw [hkk]
            omega
      · rw [if_neg c2] at h
        exact absurd (show (4 : Int) = 0 from h) (by decide)
theorem iblock_pre (row : List Bool) (N q : Nat) (hN : row.length = 8 * N) (hm : 8 * q ≤ row.length) (u : US) (he : u.e = 0) (hpm : u.p ≤ 8 * q) (ho : u.out.length ≤ 3000) (h : (iblock row u).2.e = 0) : PreP (8 * q) (iblock row u) (iblock (row.take (8 * q)) u) := by
  unfold iblock at h ⊢
  by_cases c : (uget row 1 u).2.e ≠ 0
  · rw [if_pos c] at h
    exact absurd h c
  · rw [if_neg c] at h ⊢
    have a1 := uget_ahd row 1 u (by omega) ho
    have P1 := uget_pre row (8 * q) 1 u hm he (by omega)
    generalize uget row 1 u = g at *
    generalize uget (row.take (8 * q)) 1 u = g' at *
    have g0 : g.2.e = 0 := by omega
    by_cases c2 : (uget row 2 g.2).2.e ≠ 0
    · rw [if_pos c2] at h
      exact absurd h c2
    · rw [if_neg c2] at h ⊢
      have a2 := uget_ahd row 2 g.2 a1.le a1.out
      have P2 := uget_pre row (8 * q) 2 g.2 hm g0 (by omega)
      generalize uget row 2 g.2 = r at *
      have r0 : r.2.e = 0 := by omega
      have hend := (ikind_ahd row N hN r.1 r.2 a2.le a2.out h).2.2.1
      have l2 := a2.ge
      rcases P1 with ⟨p1, p2⟩ | ⟨p1, p2⟩
      · rw [p2, if_neg c]
        rcases P2 with ⟨p3, p4⟩ | ⟨p3, p4⟩
        · rw [p4, if_neg c2]
          rcases ikind_pre row N q hN hm r.1 r.2 r0 p3 a2.out h with ⟨p5, p6⟩ | ⟨p5, p6⟩
          · exact .inl ⟨p5, by rw [p6]⟩
          · exact .inr ⟨p5, p6⟩
        · rw [if_pos (by rw [p4]; decide)]
          exact .inr ⟨by show 8 * q < (ikind row r.1 r.2).p; omega, p4⟩
      · rw [if_pos (by rw [p2]; decide)]
        exact .inr ⟨by show 8 * q < (ikind row r.1 r.2).p; omega, p2⟩
theorem iblocks_ahd (row : List Bool) (N : Nat) (hN : row.length = 8 * N) : ∀ (F : Nat) (u : US), u.e = 0 → u.p ≤ row.length → u.out.length ≤ 3000 → row.length + 1 ≤ u.p + F → (iblocks row F u).e = 0 → u.p + 3 ≤ (iblocks row F u).p ∧ (iblocks row F u).p ≤ row.length ∧ (iblocks row F u).out.length ≤ 3000 ∧ u.ks.length + 1 ≤ (iblocks row F u).ks.length ∧ (iblocks row F u).ks.length + u.p ≤ u.ks.length + (iblocks row F u).p
  | 0, u, he, hp, ho, hF, h => by omega
  | F + 1, u, he, hp, ho, hF, h => by
    rw [iblocks] at h ⊢
    by_cases c : (iblock row u).1 = 0 ∧ (iblock row u).2.e = 0
    · rw [if_pos c] at h ⊢
      obtain ⟨a1, a2, a3, a4⟩ := iblock_ahd row N hN u he hp ho c.2
      obtain ⟨i1, i2, i3, i4, i5⟩ := iblocks_ahd row N hN F _ c.2 a3 a4 (by omega) h
      exact ⟨by omega, i2, i3, by omega, by omega⟩
    · rw [if_neg c] at h ⊢
      obtain ⟨a1, a2, a3, a4⟩ := iblock_ahd row N hN u he hp ho h
      exact ⟨by omega, a3, a4, by omega, by omega⟩
theorem iblocks_pre (row : List Bool) (N q : Nat) (hN : row.length = 8 * N) (hm : 8 * q ≤ row.length) : ∀ (F F' : Nat) (u : US), u.e = 0 → u.p ≤ 8 * q → u.out.length ≤ 3000 → row.length + 1 ≤ u.p + F → 8 * q + 1 ≤ u.p + F' → (iblocks row F u).e = 0 → PreU (8 * q) (iblocks row F u) (iblocks (row.take (8 * q)) F' u)
  | 0, F', u, he, hpm, ho, hF, hF', h => by omega
  | F + 1, 0, u, he, hpm, ho, hF, hF', h => by omega
  | F + 1, F' + 1, u, he, hpm, ho, hF, hF', h => by
    rw [iblocks] at h ⊢
    rw [iblocks]
    by_cases c : (iblock row u).1 = 0 ∧ (iblock row u).2.e = 0
    · rw [if_pos c] at h ⊢
      obtain ⟨a1, a2, a3, a4⟩ := iblock_ahd row N hN u he (by omega) ho c.2
      rcases iblock_pre row N q hN hm u he hpm ho c.2 with ⟨p1, p2⟩ | ⟨p1, p2⟩
      · rw [p2, if_pos c]
        exact iblocks_pre row N q hN hm F F' _ c.2 p1 a4 (by omega) (by omega) h
      · rw [if_neg (fun d => by rw [p2] at d; exact absurd d.2 (by decide))]
        have i1 := (iblocks_ahd row N hN F _ c.2 a3 a4 (by omega) h).1
        exact .inr ⟨by omega, p2⟩
    · rw [if_neg c] at h ⊢
      rcases iblock_pre row N q hN hm u he hpm ho h with ⟨p1, p2⟩ | ⟨p1, p2⟩
      · rw [p2, if_neg c]
        exact .inl ⟨p1, rfl⟩
      · rw [if_neg (fun d => by rw [p2] at d; exact absurd d.2 (by decide))]
        exact .inr ⟨p1, p2⟩
theorem iunpk_ahd (row : List Bool) (N : Nat) (hN : row.length = 8 * N) (h : (iunpk row).e = 0) : 3 ≤ (iunpk row).p ∧ (iunpk row).p ≤ row.length ∧ (iunpk row).out.length ≤ 3000 ∧ 1 ≤ (iunpk row).ks.length ∧ (iunpk row).ks.length ≤ row.length := by
  have := iblocks_ahd row N hN (row.length + 1) US0 rfl (Nat.zero_le _) (Nat.zero_le _) (by show _ ≤ 0 + _; omega) h
  obtain ⟨i1, i2, i3, i4, i5⟩ := this
  have z1 : US0.p = 0 := rfl
  have z2 : US0.ks.length = 0 := rfl
  unfold iunpk
  exact ⟨by omega, i2, i3, by omega, by omega⟩
/-- what is read of a row that was cut -/
theorem iunpk_pre (row : List Bool) (N q : Nat) (hN : row.length = 8 * N) (hm : q ≤ N) (h : (iunpk row).e = 0) : PreU (8 * q) (iunpk row) (iunpk (row.take (8 * q))) := by
  have hl : (row.take (8 * q)).length = 8 * q := by rw [List.length_take]; omega
  have := iblocks_pre row N q hN (by omega) (row.length + 1) ((row.take (8 * q)).length + 1) US0 rfl (Nat.zero_le _) (Nat.zero_le _) (by show _ ≤ 0 + _; omega) (by show _ ≤ 0 + _; omega) h
  exact this
end Go.Proofs.Ytfoaaamcpknjnah
