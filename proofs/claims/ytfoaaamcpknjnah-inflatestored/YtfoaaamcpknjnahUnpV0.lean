/-
  The document's reader, where nothing goes wrong: what stays, how far it comes. Of bits alone.
-/
import Derived.Test.YtfoaaamcpknjnahUnpB0
import Derived.Test.YtfoaaamcpknjnahUnpT0
namespace Go.Proofs.Ytfoaaamcpknjnah
set_option linter.unusedVariables false
set_option maxRecDepth 100000

theorem fixA_ok : Good fixA := errL_good (by decide +kernel)
theorem fixB_ok : Good fixB := errL_good (by decide +kernel)
theorem usmall_p {row : List Bool} : ∀ {ks : List Nat} {s : List Int} {u : US}, (usmall row ks s u).2.e = 0 → u.p ≤ row.length → u.p ≤ (usmall row ks s u).2.p ∧ (usmall row ks s u).2.p ≤ row.length ∧ (usmall row ks s u).2.out = u.out ∧ (usmall row ks s u).2.ks = u.ks
  | [], s, u, h, hp => ⟨Nat.le_refl _, hp, rfl, rfl⟩
  | k :: r, s, u, h, hp => by
    rw [usmall] at h ⊢
    have h1 := usmall_e h
    obtain ⟨q1, q2, q3, q4, _⟩ := uget_p2 (r := (uget row 3 u).1) (v := (uget row 3 u).2) rfl h1
    obtain ⟨i1, i2, i3, i4⟩ := usmall_p h q2
    exact ⟨by omega, i2, i3.trans q3, i4.trans q4⟩
theorem ukind_p {row : List Bool} {l : List Int} {k : Nat} {u : US} (h : (ukind row l k u).2.2.e = 0) (hp : u.p ≤ row.length) : u.p ≤ (ukind row l k u).2.2.p ∧ (ukind row l k u).2.2.p ≤ row.length ∧ (ukind row l k u).2.2.out = u.out ∧ (ukind row l k u).2.2.ks = u.ks := by
  have key : ∀ n, (uget row n u).2.e = 0 → u.p ≤ (uget row n u).2.p ∧ (uget row n u).2.p ≤ row.length ∧ (uget row n u).2.out = u.out ∧ (uget row n u).2.ks = u.ks := fun n hn => by
    obtain ⟨q1, q2, q3, q4, _⟩ := uget_p2 (r := (uget row n u).1) (v := (uget row n u).2) rfl hn
    exact ⟨by omega, q2, q3, q4⟩
  unfold ukind at h ⊢
  split
  · rename_i h16
    rw [if_pos h16] at h
    split
    · rename_i h0
      rw [if_pos h0] at h
      exact absurd h (uwrong_e (by decide))
    · rename_i h0
      rw [if_neg h0] at h
      exact key 2 h
  · rename_i h16
    rw [if_neg h16] at h
    split
    · rename_i h17
      rw [if_pos h17] at h
      exact key 3 h
    · rename_i h17
      rw [if_neg h17] at h
      split
      · rename_i h18
        rw [if_pos h18] at h
        exact key 7 h
      · exact ⟨Nat.le_refl _, hp, rfl, rfl⟩
theorem ulens_p {row : List Bool} {small : List Int} {tot : Nat} : ∀ {F : Nat} {l : List Int} {u : US}, (ulens row small tot F l u).2.e = 0 → u.p ≤ row.length → u.p ≤ (ulens row small tot F l u).2.p ∧ (ulens row small tot F l u).2.p ≤ row.length ∧ (ulens row small tot F l u).2.out = u.out ∧ (ulens row small tot F l u).2.ks = u.ks
  | 0, l, u, h, hp => ⟨Nat.le_refl _, hp, rfl, rfl⟩
  | F + 1, l, u, h, hp => by
    by_cases hc : l.length < tot ∧ u.e = 0
    · obtain ⟨r, e⟩ := ulens_round hc.1 hc.2 h
      rw [e, r.st] at h ⊢
      simp only at h ⊢
      obtain ⟨a1, a2, a3, a4, _, _⟩ := uplace_p2 (k := (uplace small row u).1) (v := (uplace small row u).2) rfl r.pe
      obtain ⟨b1, b2, b3, b4⟩ := ukind_p r.ke a2
      obtain ⟨i1, i2, i3, i4⟩ := ulens_p h b2
      exact ⟨by omega, i2, i3.trans (b3.trans a3), i4.trans (b4.trans a4)⟩
    · rw [ulens, if_neg hc]
      exact ⟨Nat.le_refl _, hp, rfl, rfl⟩
theorem utold_p {row : List Bool} {u v u1 u2 u3 us : US} {m0 n0 c0 : Nat} {S L A C : List Int} (h : Told row u m0 n0 c0 u1 u2 u3 us S L A C v) (hp : u.p ≤ row.length) : u.p + 1 ≤ v.p ∧ v.p ≤ row.length ∧ v.out = u.out ∧ v.ks = u.ks := by
  obtain ⟨a1, a2, a3, a4, ae⟩ := uget_p2 h.g3 h.e3
  obtain ⟨b1, b2, b3, b4, be⟩ := uget_p2 h.g2 ae
  obtain ⟨c1, c2, c3, c4, _⟩ := uget_p2 h.g1 be
  have s := usmall_p (row := row) (ks := ord19.take (c0 + 4)) (s := List.replicate 19 0) (u := u3) (by rw [h.sm]; exact h.es) a2
  rw [h.sm] at s
  obtain ⟨s1, s2, s3, s4⟩ := s
  have t := ulens_p (row := row) (small := S) (tot := m0 + 257 + (n0 + 1)) (F := m0 + 257 + (n0 + 1)) (l := []) (u := us) (by rw [h.ln]; exact h.ev) s2
  rw [h.ln] at t
  obtain ⟨t1, t2, t3, t4⟩ := t
  simp only at s1 s2 s3 s4 t1 t2 t3 t4
  exact ⟨by omega, t2, by rw [t3, s3, a3, b3, c3], by rw [t4, s4, a4, b4, c4]⟩
theorem sames_small : ∀ q, q < 29 → (samesL.getD q (0, 0)).2 ≤ 5 ∧ (samesL.getD q (0, 0)).1 ≤ 258 := by decide
theorem fars_small : ∀ f, f < 30 → (farsL.getD f (0, 0)).2 ≤ 13 ∧ (farsL.getD f (0, 0)).1 ≤ 24577 ∧ 1 ≤ (farsL.getD f (0, 0)).1 := by decide
theorem ustore_e {row : List Bool} : ∀ {k : Nat} {u : US}, (ustore row k u).e = 0 → u.e = 0
  | 0, u, h => h
  | k + 1, u, h => by
    rw [ustore] at h
    by_cases e : u.e = 0
    · exact e
    · rw [if_neg e] at h; exact h
theorem ustore_ks {row : List Bool} : ∀ {k : Nat} {u : US}, (ustore row k u).e = 0 → (ustore row k u).ks = u.ks
  | 0, u, h => rfl
  | k + 1, u, h => by
    have he := ustore_e h
    rw [ustore, if_pos he] at h ⊢
    obtain ⟨r, y, hg⟩ : ∃ r y, uget row 8 u = (r, y) := ⟨_, _, rfl⟩
    rw [hg] at h ⊢
    obtain ⟨h1, _, h3⟩ := usay_e (ustore_e h)
    rw [ustore_ks h, h3]
    exact (uget_p2 hg h1).2.2.2.1
/-- a Stored block without an error -/
structure Sto (row : List Bool) (u : US) (r1 r2 : Nat) (y1 y2 V : US) : Prop where
  g1 : uget row 16 { u with p := (u.p + 7) / 8 * 8 } = (r1, y1)
  g2 : uget row 16 y1 = (r2, y2)
  e2 : y2.e = 0
  sum : r1 + r2 = 65535
  st : ustore row r1 y2 = V
  ev : V.e = 0
theorem ustored_good {row : List Bool} {u : US} (h : (ustored row u).e = 0) : ∃ r1 r2 y1 y2, Sto row u r1 r2 y1 y2 (ustored row u) := by
  obtain ⟨r1, y1, e1⟩ : ∃ r1 y1, uget row 16 { u with p := (u.p + 7) / 8 * 8 } = (r1, y1) := ⟨_, _, rfl⟩
  obtain ⟨r2, y2, e2⟩ : ∃ r2 y2, uget row 16 y1 = (r2, y2) := ⟨_, _, rfl⟩
  refine ⟨r1, r2, y1, y2, ?_⟩
  unfold ustored at h ⊢
  simp only [e1, e2] at h ⊢
  have hx := ustore_e h
  by_cases c : y2.e = 0 ∧ r1 + r2 ≠ 65535
  · rw [if_pos c] at hx
    exact absurd hx (uwrong_e (by decide))
  · rw [if_neg c] at h hx ⊢
    exact ⟨e1, e2, hx, by omega, rfl, h⟩
theorem ustore_p {row : List Bool} : ∀ {k : Nat} {u : US}, (ustore row k u).e = 0 → u.p ≤ row.length → u.p ≤ (ustore row k u).p ∧ (ustore row k u).p ≤ row.length ∧ (u.out.length ≤ 3000 → (ustore row k u).out.length ≤ 3000)
  | 0, u, h, hp => ⟨Nat.le_refl _, hp, fun h => h⟩
  | k + 1, u, h, hp => by
    have he := ustore_e h
    rw [ustore, if_pos he] at h ⊢
    obtain ⟨r, y, hg⟩ : ∃ r y, uget row 8 u = (r, y) := ⟨_, _, rfl⟩
    rw [hg] at h ⊢
    obtain ⟨h1, h2, h3⟩ := usay_e (ustore_e h)
    obtain ⟨q1, q2, q3, _, _⟩ := uget_p2 hg h1
    have ih := ustore_p h (by rw [h3]; exact q2)
    rw [h3] at ih ⊢
    refine ⟨?_, ih.2.1, fun ho => ih.2.2 ?_⟩
    · have := ih.1
      simp only at this ⊢
      omega
    · simp only [List.length_append, List.length_cons, List.length_nil]
      rw [q3] at h2 ⊢
      omega
theorem utok_p {row : List Bool} {a b : List Int} : ∀ {F : Nat} {u : US}, (utok row a b F u).e = 0 → u.p ≤ row.length → u.p ≤ (utok row a b F u).p ∧ (utok row a b F u).p ≤ row.length ∧ (utok row a b F u).ks = u.ks ∧ (u.out.length ≤ 3000 → (utok row a b F u).out.length ≤ 3000)
  | 0, u, h, hp => ⟨Nat.le_refl _, hp, rfl, fun h => h⟩
  | F + 1, u, h, hp => by
    obtain ⟨t, x, hT, e⟩ := utok_round h
    obtain ⟨a1, a2, a3, a4, a5⟩ := hT.ahead
    rw [e] at h ⊢
    by_cases ht : t = true
    · rw [if_pos ht] at h ⊢
      obtain ⟨i1, i2, i3, i4⟩ := utok_p h a2
      exact ⟨by omega, i2, i3.trans a4, fun ho => i4 (a5 ho)⟩
    · rw [if_neg ht]
      exact ⟨by omega, a2, a4, a5⟩
theorem Blk1R.ahead {row : List Bool} {u v : US} {t : Bool} (h : Blk1R row u t v) : u.p + 1 ≤ v.p ∧ v.p ≤ row.length ∧ v.e = 0 ∧ v.ks.length = u.ks.length + 1 ∧ (u.out.length ≤ 3000 → v.out.length ≤ 3000) := by
  cases h with
  | stored l x1 x2 h1 h2 h3 h4 =>
    obtain ⟨q2, q2l, q2o, q2k, q2e⟩ := uget_p2 h2 h3
    obtain ⟨q1, q1l, q1o, q1k, _⟩ := uget_p2 h1 q2e
    obtain ⟨r1, r2, y1, y2, hS⟩ := ustored_good h4
    have hy1e : y1.e = 0 := uget_e (by rw [hS.g2]; exact hS.e2)
    obtain ⟨p1, p1l, p1o, p1k, _⟩ := uget_p2 hS.g1 hy1e
    obtain ⟨p2, p2l, p2o, p2k, _⟩ := uget_p2 hS.g2 hS.e2
    have s := ustore_p (row := row) (k := r1) (u := y2) (by rw [hS.st]; exact h4) p2l
    have sk := ustore_ks (row := row) (k := r1) (u := y2) (by rw [hS.st]; exact h4)
    rw [hS.st] at s sk
    simp only at p1 p1o p1k
    refine ⟨?_, s.2.1, h4, ?_, fun ho => s.2.2 ?_⟩
    · show u.p + 1 ≤ (ustored row x2).p
      have := s.1
      omega
    · show ((ustored row x2).ks ++ [0]).length = _
      rw [List.length_append, sk, p2k, p1k, q2k, q1k]
      rfl
    · rw [p2o, p1o, q2o, q1o]; exact ho
  | coded l k x1 x2 x3 a b h1 h2 h3 h4 h5 h6 h7 =>
    obtain ⟨q2, q2l, q2o, q2k, q2e⟩ := uget_p2 h2 h3
    obtain ⟨q1, q1l, q1o, q1k, _⟩ := uget_p2 h1 q2e
    have hx : x2.p ≤ x3.p ∧ x3.p ≤ row.length ∧ x3.out = x2.out ∧ x3.ks = x2.ks := by
      rcases h4 with h4 | h4
      · subst h4
        unfold uopen at h5
        rw [if_pos rfl] at h5
        have := (Prod.mk.inj h5).2
        subst this
        exact ⟨Nat.le_refl _, q2l, rfl, rfl⟩
      · subst h4
        unfold uopen at h5
        rw [if_neg (by decide), if_pos rfl] at h5
        obtain ⟨m0, n0, c0, v1, v2, v3, us, S0, L0, hTD⟩ := utold_good h5 h6
        obtain ⟨t1, t2, t3, t4⟩ := utold_p hTD q2l
        exact ⟨by omega, t2, t3, t4⟩
    obtain ⟨s1, s2, s3, s4⟩ := hx
    obtain ⟨t1, t2, t3, t4⟩ := utok_p h7 s2
    refine ⟨?_, t2, h7, ?_, fun ho => t4 ?_⟩
    · show u.p + 1 ≤ (utok row a b row.length x3).p
      omega
    · show ((utok row a b row.length x3).ks ++ [k]).length = _
      rw [List.length_append, t3, s4, q2k, q1k]
      rfl
    · rw [s3, q2o, q1o]; exact ho
theorem ublocks_e {row : List Bool} : ∀ {F : Nat} {u : US}, (ublocks row (F + 1) u).e = 0 → (ublock row u).2.e = 0 := by
  intro F u h
  rw [ublocks] at h
  by_cases c : (ublock row u).1 = false ∧ (ublock row u).2.e = 0
  · exact c.2
  · rw [if_neg c] at h; exact h
/-- one round of blocks, where all goes well -/
theorem ublocks_round {row : List Bool} {F : Nat} {u : US} (h : (ublocks row (F + 1) u).e = 0) : ∃ t x, Blk1R row u t x ∧ ublocks row (F + 1) u = if t = false then ublocks row F x else x := by
  have he := ublocks_e h
  refine ⟨(ublock row u).1, (ublock row u).2, ublock_good he, ?_⟩
  rw [ublocks]
  by_cases c : (ublock row u).1 = false
  · rw [if_pos ⟨c, he⟩, if_pos c]
  · rw [if_neg (fun h => c h.1), if_neg c]
theorem ublocks_ks {row : List Bool} : ∀ {F : Nat} {u : US}, (ublocks row F u).e = 0 → u.ks.length ≤ (ublocks row F u).ks.length
  | 0, u, h => Nat.le_refl _
  | F + 1, u, h => by
    obtain ⟨t, x, hB, e⟩ := ublocks_round h
    obtain ⟨a1, a2, a3, a4, a5⟩ := hB.ahead
    rw [e] at h ⊢
    by_cases ht : t = false
    · rw [if_pos ht] at h ⊢
      have := ublocks_ks h
      omega
    · rw [if_neg ht]
      omega
end Go.Proofs.Ytfoaaamcpknjnah
