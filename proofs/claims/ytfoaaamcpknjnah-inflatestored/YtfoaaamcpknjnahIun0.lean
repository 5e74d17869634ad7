/-
  Package inflate, of bits alone: blocks as the program reads them; what stays, how far it comes.
-/
import Derived.Test.YtfoaaamcpknjnahDec5
import Derived.Test.YtfoaaamcpknjnahInf8
import Derived.Test.YtfoaaamcpknjnahUnpV0
namespace Go.Proofs.Ytfoaaamcpknjnah
set_option linter.unusedVariables false
set_option maxRecDepth 100000

def ikeep (k : Nat) (u : US) : US := if u.e = 0 then ukept k u else u
/-- what a block of this kind says -/
def ikind (row : List Bool) (k : Nat) (u : US) : US :=
  if k = 0 then ikeep 0 (istored row u)
  else if k = 1 then ikeep 1 (itoks row fixA fixB (row.length + 1) u)
  else if k = 2 then (if (utold row u).2.e ≠ 0 then (utold row u).2 else ikeep 2 (itoks row (utold row u).1.1 (utold row u).1.2 (row.length + 1) (utold row u).2))
  else { u with e := 4 }
/-- a block: whether it is the last one -/
def iblock (row : List Bool) (u : US) : Nat × US :=
  if (uget row 1 u).2.e ≠ 0 then (1, (uget row 1 u).2)
  else if (uget row 2 (uget row 1 u).2).2.e ≠ 0 then (1, (uget row 2 (uget row 1 u).2).2)
  else ((uget row 1 u).1, ikind row (uget row 2 (uget row 1 u).2).1 (uget row 2 (uget row 1 u).2).2)
def iblocks (row : List Bool) : Nat → US → US
  | 0, u => u
  | f + 1, u => if (iblock row u).1 = 0 ∧ (iblock row u).2.e = 0 then iblocks row f (iblock row u).2 else (iblock row u).2
def iunpk (row : List Bool) : US := iblocks row (row.length + 1) US0

/-- how far a reading comes, without an error -/
structure Ahd (row : List Bool) (u v : US) : Prop where
  ks : v.ks = u.ks
  ge : u.p ≤ v.p
  le : v.p ≤ row.length
  out : v.out.length ≤ 3000
theorem Ahd.trans {row : List Bool} {u v x : US} (h : Ahd row u v) (k : Ahd row v x) : Ahd row u x := ⟨k.ks.trans h.ks, Nat.le_trans h.ge k.ge, k.le, k.out⟩
theorem uget_ahd (row : List Bool) (n : Nat) (u : US) (hp : u.p ≤ row.length) (ho : u.out.length ≤ 3000) : Ahd row u (uget row n u).2 := ⟨iget_ks _ _ _, uget_ge _ _ _, iget_p _ _ _ hp, by rw [iget_out]; exact ho⟩
theorem uplace_ahd (l : List Int) (row : List Bool) (u : US) (hp : u.p ≤ row.length) (ho : u.out.length ≤ 3000) : Ahd row u (uplace l row u).2 := by
  obtain ⟨h1, h2, h3⟩ := uplace_keeps l row u
  exact ⟨h2, h3, uplace_le l row u hp, by rw [h1]; exact ho⟩
theorem istep_ahd (row : List Bool) (lb : List Int) (k : Nat) (u : US) (hp : u.p ≤ row.length) (ho : u.out.length ≤ 3000) (h : (istep row lb k u).e = 0) : Ahd row u (istep row lb k u) := by
  unfold istep at h ⊢
  split
  · rename_i c1
    rw [if_pos c1] at h
    split
    · rename_i c2
      rw [if_pos c2] at h
      exact absurd (show (2 : Int) = 0 from h) (by decide)
    · refine ⟨rfl, Nat.le_refl _, hp, ?_⟩
      simp only [List.length_append, List.length_cons, List.length_nil]
      omega
  · rename_i c1
    rw [if_neg c1] at h
    split
    · rename_i c2
      rw [if_pos c2] at h
      exact absurd (show (8 : Int) = 0 from h) (by decide)
    · rename_i c2
      rw [if_neg c2] at h
      split
      · rename_i c3
        rw [if_pos c3] at h
        exact absurd h c3
      · rename_i c3
        rw [if_neg c3] at h
        have a1 := uget_ahd row (leastS k).2 u hp ho
        generalize uget row (leastS k).2 u = g at *
        split
        · rename_i c4
          rw [if_pos c4] at h
          exact absurd h c4
        · rename_i c4
          rw [if_neg c4] at h
          obtain ⟨b1, b2, b3, b4⟩ := ihow_keeps row lb g.2 a1.le
          have a2 : Ahd row g.2 (ihow row lb g.2).2 := ⟨b2, b3, b4, by rw [b1]; exact a1.out⟩
          generalize ihow row lb g.2 = q at *
          obtain ⟨d1, d2, d3⟩ := iback_keeps _ _ _ h
          exact (a1.trans a2).trans ⟨d2, by omega, by rw [d1]; exact a2.le, d3 a2.out⟩
theorem itoks_succ (row : List Bool) (la lb : List Int) (f : Nat) (u : US) : itoks row la lb (f + 1) u = if (uplace la row u).2.e ≠ 0 then (uplace la row u).2 else if (uplace la row u).1 = 256 then (uplace la row u).2 else if (istep row lb (uplace la row u).1 (uplace la row u).2).e ≠ 0 then istep row lb (uplace la row u).1 (uplace la row u).2 else itoks row la lb f (istep row lb (uplace la row u).1 (uplace la row u).2) := by
  unfold itoks
  rw [itok]
theorem itoks_ahd (row : List Bool) (la lb : List Int) : ∀ (f : Nat) (u : US), u.p ≤ row.length → u.out.length ≤ 3000 → (itoks row la lb f u).e = 0 → Ahd row u (itoks row la lb f u)
  | 0, u, hp, ho, h => by
    have a1 := uplace_ahd la row u hp ho
    unfold itoks
    split
    · exact a1
    · exact a1
  | f + 1, u, hp, ho, h => by
    have a1 := uplace_ahd la row u hp ho
    rw [itoks_succ] at h ⊢
    generalize uplace la row u = r at *
    split
    · exact a1
    · rename_i c1
      rw [if_neg c1] at h
      split
      · exact a1
      · rename_i c2
        rw [if_neg c2] at h
        split
        · rename_i c3
          rw [if_pos c3] at h
          exact absurd h c3
        · rename_i c3
          rw [if_neg c3] at h
          have a2 := istep_ahd row lb r.1 r.2 a1.le a1.out (by omega)
          exact (a1.trans a2).trans (itoks_ahd row la lb f _ a2.le a2.out h)
theorem istored_ahd (row : List Bool) (u : US) (hp : (u.p + 7) / 8 * 8 ≤ row.length) (ho : u.out.length ≤ 3000) (h : (istored row u).e = 0) : Ahd row u (istored row u) := by
  obtain ⟨r1, v1, h1⟩ : ∃ r1 v1, uget row 16 { u with p := (u.p + 7) / 8 * 8 } = (r1, v1) := ⟨_, _, rfl⟩
  obtain ⟨r2, v2, h2⟩ : ∃ r2 v2, uget row 16 v1 = (r2, v2) := ⟨_, _, rfl⟩
  have a1 := uget_ahd row 16 { u with p := (u.p + 7) / 8 * 8 } hp ho
  rw [h1] at a1
  have a2 := uget_ahd row 16 v1 a1.le a1.out
  rw [h2] at a2
  rw [istored_is row u v1 v2 _ r1 r2 rfl h1 h2] at h ⊢
  split
  · rename_i c
    rw [if_pos c] at h
    exact absurd h c
  · rename_i c
    rw [if_neg c] at h
    split
    · rename_i c2
      rw [if_pos c2] at h
      exact absurd (show (4 : Int) = 0 from h) (by decide)
    · rename_i c2
      rw [if_neg c2] at h
      split
      · rename_i c3
        rw [if_pos c3] at h
        exact absurd (show (2 : Int) = 0 from h) (by decide)
      · rename_i c3
        rw [if_neg c3] at h
        obtain ⟨s1, s2, s3⟩ := ustore_p h a2.le
        have hge := a1.ge
        have hge2 := a2.ge
        simp only at hge hge2
        exact ⟨(ustore_ks h).trans (a2.ks.trans a1.ks), by omega, s2, s3 a2.out⟩
theorem uwrong_keeps (x : Int) (u : US) : (uwrong x u).p = u.p ∧ (uwrong x u).out = u.out ∧ (uwrong x u).ks = u.ks := by
  unfold uwrong
  split <;> exact ⟨rfl, rfl, rfl⟩
theorem utold_ahd (row : List Bool) (u : US) (hp : u.p ≤ row.length) (ho : u.out.length ≤ 3000) (h : (utold row u).2.e = 0) : Ahd row u (utold row u).2 := by
  obtain ⟨A, C, v, hv⟩ : ∃ A C v, utold row u = ((A, C), v) := ⟨_, _, _, rfl⟩
  rw [hv] at h ⊢
  obtain ⟨m0, n0, c0, u1, u2, u3, us, S, L, hT⟩ := utold_good hv h
  obtain ⟨t1, t2, t3, t4⟩ := utold_p hT hp
  exact ⟨t4, by show u.p ≤ v.p; omega, t2, by show v.out.length ≤ 3000; rw [t3]; exact ho⟩
/-- what a kind says, without an error -/
theorem ikind_ahd (row : List Bool) (q : Nat) (hq : row.length = 8 * q) (k : Nat) (u : US) (hp : u.p ≤ row.length) (ho : u.out.length ≤ 3000) (h : (ikind row k u).e = 0) : k ≤ 2 ∧ (ikind row k u).ks = u.ks ++ [k] ∧ u.p ≤ (ikind row k u).p ∧ (ikind row k u).p ≤ row.length ∧ (ikind row k u).out.length ≤ 3000 := by
  have key : ∀ (j : Nat) (x : US), (ikeep j x).e = 0 → x.e = 0 ∧ ikeep j x = ukept j x := fun j x hx => by
    unfold ikeep at hx ⊢
    by_cases c : x.e = 0
    · exact ⟨c, by rw [if_pos c]⟩
    · rw [if_neg c] at hx; exact absurd hx c
  unfold ikind at h ⊢
  split
  · rename_i c
    subst c
    rw [if_pos rfl] at h
    obtain ⟨k1, k2⟩ := key _ _ h
    have a := istored_ahd row u (by omega) ho k1
    rw [k2]
    exact ⟨by decide, by show _ ++ [0] = _; rw [a.ks], a.ge, a.le, a.out⟩
  · rename_i c
    rw [if_neg c] at h
    split
    · rename_i c1
      subst c1
      rw [if_pos rfl] at h
      obtain ⟨k1, k2⟩ := key _ _ h
      have a := itoks_ahd row fixA fixB _ u hp ho k1
      rw [k2]
      exact ⟨by decide, by show _ ++ [1] = _; rw [a.ks], a.ge, a.le, a.out⟩
    · rename_i c1
      rw [if_neg c1] at h
      split
      · rename_i c2
        subst c2
        rw [if_pos rfl] at h
        split
        · rename_i c3
          rw [if_pos c3] at h
          exact absurd h c3
        · rename_i c3
          rw [if_neg c3] at h
          obtain ⟨k1, k2⟩ := key _ _ h
          have a0 := utold_ahd row u hp ho (by omega)
          have a := a0.trans (itoks_ahd row _ _ _ _ a0.le a0.out k1)
          rw [k2]
          exact ⟨by decide, by show _ ++ [2] = _; rw [a.ks], a.ge, a.le, a.out⟩
      · rename_i c2
        rw [if_neg c2] at h
        exact absurd (show (4 : Int) = 0 from h) (by decide)
/-- a block without an error -/
theorem iblock_ahd (row : List Bool) (q : Nat) (hq : row.length = 8 * q) (u : US) (he : u.e = 0) (hp : u.p ≤ row.length) (ho : u.out.length ≤ 3000) (h : (iblock row u).2.e = 0) : (iblock row u).2.ks.length = u.ks.length + 1 ∧ u.p + 3 ≤ (iblock row u).2.p ∧ (iblock row u).2.p ≤ row.length ∧ (iblock row u).2.out.length ≤ 3000 := by
  unfold iblock at h ⊢
  split
  · rename_i c
    rw [if_pos c] at h
    exact absurd h c
  · rename_i c
    rw [if_neg c] at h
    split
    · rename_i c2
      rw [if_pos c2] at h
      exact absurd h c2
    · rename_i c2
      rw [if_neg c2] at h
      obtain ⟨r1, v1, h1⟩ : ∃ r1 v1, uget row 1 u = (r1, v1) := ⟨_, _, rfl⟩
      rw [h1] at c c2 h ⊢
      obtain ⟨r2, v2, h2⟩ : ∃ r2 v2, uget row 2 v1 = (r2, v2) := ⟨_, _, rfl⟩
      simp only at c c2 h ⊢
      rw [h2] at c2 h ⊢
      simp only at c2 h ⊢
      obtain ⟨q1, q2, q3, q4, _⟩ := uget_p2 h1 (by omega)
      obtain ⟨s1, s2, s3, s4, _⟩ := uget_p2 h2 (by omega)
      obtain ⟨t1, t2, t3, t4, t5⟩ := ikind_ahd row q hq r2 v2 s2 (by rw [s3, q3]; exact ho) h
      exact ⟨by rw [t2, s4, q4, List.length_append]; rfl, by omega, t4, t5⟩
end Go.Proofs.Ytfoaaamcpknjnah
