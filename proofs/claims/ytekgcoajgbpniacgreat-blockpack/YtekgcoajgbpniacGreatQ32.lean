/-
  What was packed is read by the document's own reader: tokens. Of bits alone.
-/
import Derived.Test.YtekgcoajgbpniacGreatQ16
import Derived.Test.YtekgcoajgbpniacGreatQ31
namespace Go.Proofs.YtekgcoajgbpniacGreat
set_option linter.unusedVariables false
set_option maxRecDepth 100000

theorem drop_more {row X R : List Bool} {p : Nat} (h : row.drop p = X ++ R) : row.drop (p + X.length) = R := by
  rw [← List.drop_drop, h, List.drop_left]
theorem drop_len {row X R : List Bool} {p : Nat} (h : row.drop p = X ++ R) (hX : 0 < X.length) : p + X.length ≤ row.length := by
  have := congrArg List.length h
  rw [List.length_drop, List.length_append] at this
  omega
/-- a number that stands there is read -/
theorem uget_at (row : List Bool) (n x : Nat) (u : US) (R : List Bool) (he : u.e = 0) (hp : u.p ≤ row.length) (hx : x < 2 ^ n) (h : row.drop u.p = numBits x n ++ R) : uget row n u = (x, { u with p := u.p + n }) := by
  have hl := numBits_length x n
  have hlen := congrArg List.length h
  rw [List.length_drop, List.length_append, hl] at hlen
  refine uget_ok row n x u he (by omega) hx ?_
  rw [h, List.take_append_of_le_length (by omega), List.take_of_length_le (by omega)]
theorem uplace_at (l : List Int) (hG : Good l) (row : List Bool) (q : Nat) (u : US) (R : List Bool) (he : u.e = 0) (hq : q < l.length) (hpos : 0 < l.getD q 0) (h : row.drop u.p = codeT l q ++ R) : uplace l row u = (q, { u with p := u.p + (codeT l q).length }) := by
  have hl := code_len l hG q
  have hne : codeT l q ≠ [] := fun e => by rw [e, List.length_nil] at hl; omega
  refine uplace_ok l hG row q u he hq hne (drop_len h (List.length_pos_iff.2 hne)) ?_
  rw [h, List.take_append_of_le_length (Nat.le_refl _), List.take_length]

/-! how many, how far -/
theorem ucopy_ok (d : Nat) : ∀ (n : Nat) (u : US), u.e = 0 → u.out.length + n ≤ 3000 → ucopy d n u = { u with out := copyN u.out d n }
  | 0, u, he, h => by rw [ucopy, copyN]
  | n + 1, u, he, h => by
    rw [ucopy, if_pos he, copyN]
    have e : usay (u.out.getD (u.out.length - d) 0) u = { u with out := u.out ++ [u.out.getD (u.out.length - d) 0] } := by
      unfold usay; rw [if_pos he, if_neg (by omega)]
    rw [e, ucopy_ok d n { u with out := u.out ++ [u.out.getD (u.out.length - d) 0] } he (by simp; omega)]
theorem wid_pos {t : Tk} {n : Nat} (h : errOne t n = 0) : 1 ≤ wid t := (wid_le h).1
/-- a token that stands there is read -/
theorem utok1_ok (a b : List Int) (hA : Good a) (hB : Good b) (row : List Bool) (t : Tk) (u : US) (R : List Bool) (he : u.e = 0) (hu : u.p ≤ row.length) (ht : errOne t u.out.length = 0) (h256 : t.1 < 256) (hlen : u.out.length + wid t ≤ 3000) (hh : Has a b (itOf t)) (h : row.drop u.p = putIs a b (itOf t) ++ R) :
    utok1 row a b u = (true, { u with p := u.p + (putIs a b (itOf t)).length, out := putT t u.out }) ∧ u.p + (putIs a b (itOf t)).length ≤ row.length := by
  have hR := congrArg List.length h
  rw [List.length_drop, List.length_append] at hR
  refine ⟨?_, by omega⟩
  obtain ⟨b0, n, d⟩ := t
  rcases errOne_right ht with ⟨h1, h2⟩ | ⟨h1, h2, h3, h4, h5⟩
  · simp only at h1 h2 h256 hlen
    have ei : itOf (b0, n, d) = [.sym b0] := by unfold itOf; rw [if_pos h1]
    rw [ei] at hh h ⊢
    have hp : putIs a b [.sym b0] = codeT a b0 := by simp [putIs, putI]
    rw [hp] at h ⊢
    obtain ⟨k1, k2⟩ := hh.1 b0 (by simp)
    have hw : wid (b0, n, d) = 1 := by unfold wid; rw [if_pos h1]
    rw [hw] at hlen
    have hpt : putT (b0, n, d) u.out = u.out ++ [b0] := by unfold putT; rw [if_pos h1]
    unfold utok1
    rw [uplace_at a hA row b0 u R he k1 k2 h]
    simp only
    rw [if_neg (by simp [he]; omega), if_pos h256, hpt]
    unfold usay
    simp only
    rw [if_pos he, if_neg (by omega)]
  · simp only at h1 h2 h3 h4 h5 hlen
    obtain ⟨n, rfl⟩ := Int.eq_ofNat_of_zero_le (show 0 ≤ n by omega)
    obtain ⟨d, rfl⟩ := Int.eq_ofNat_of_zero_le (show 0 ≤ d by omega)
    have hn0 : ¬ ((n : Nat) : Int) = 0 := by omega
    have ei : itOf (b0, (n : Int), (d : Int)) = [.sym (manyI n).1, .rest (manyI n).2.1 (manyI n).2.2, .far (farI d).1, .rest (farI d).2.1 (farI d).2.2] := by unfold itOf; rw [if_neg hn0]; rfl
    have hw : wid (b0, (n : Int), (d : Int)) = n := by unfold wid; rw [if_neg hn0]; rfl
    rw [hw] at hlen
    have hpt : putT (b0, (n : Int), (d : Int)) u.out = copyN u.out d n := by unfold putT; rw [if_neg hn0]; rfl
    obtain ⟨m1, m2, m3, m4, m5, m6, _⟩ := many_is (n := n) (by omega) (by omega)
    obtain ⟨f1, f2, f3, f4, f5⟩ := far_is (d := d) (by omega) (by omega)
    rw [ei] at hh h hR ⊢
    obtain ⟨k1, k2⟩ := hh.1 (manyI n).1 (by simp)
    obtain ⟨k3, k4⟩ := hh.2 (farI d).1 (by simp)
    generalize hm1 : (manyI n).1 = M at *
    generalize hm2 : (manyI n).2.1 = MR at *
    generalize hm3 : (manyI n).2.2 = MS at *
    generalize hf1 : (farI d).1 = F at *
    generalize hf2 : (farI d).2.1 = FR at *
    generalize hf3 : (farI d).2.2 = FZ at *
    have hp : putIs a b [.sym M, .rest MR MS, .far F, .rest FR FZ] = codeT a M ++ (numBits MR MS ++ (codeT b F ++ numBits FR FZ)) := by simp [putIs, putI]
    rw [hp] at h hR ⊢
    simp only [List.append_assoc] at h
    simp only [List.length_append, numBits_length] at hR
    have c1 := uplace_at a hA row M u _ he k1 k2 h
    have d1 := drop_more h
    have c2 := uget_at row MS MR { u with p := u.p + (codeT a M).length } _ he (by simp only; omega) m5 d1
    have d2 := drop_more d1
    rw [numBits_length] at d2
    have c3 := uplace_at b hB row F { u with p := u.p + (codeT a M).length + MS } _ he k3 k4 d2
    have d3 := drop_more d2
    have c4 := uget_at row FZ FR { u with p := u.p + (codeT a M).length + MS + (codeT b F).length } _ he (by simp only; omega) f4 d3
    unfold utok1
    rw [c1]
    simp only
    rw [if_neg (by rintro (h9 | h9); exact h9 he; omega), if_neg (by omega), if_neg (by omega)]
    unfold usame
    simp only [m3, c2, c3]
    rw [if_neg (show ¬ (u.e = 0 ∧ 29 < F) by omega)]
    rw [if_neg (show ¬ (u.e ≠ 0) from fun h9 => h9 he)]
    unfold ufar
    simp only [f2, c4, f3, m4]
    rw [if_neg (show ¬ (u.e = 0 ∧ u.out.length < d) by omega), ucopy_ok d n { u with p := u.p + (codeT a M).length + MS + (codeT b F).length + FZ } he (by simp only; omega), hpt]
    simp only [List.length_append, numBits_length]
    congr 2
    omega
/-- tokens that stand there are read, up to the end -/
theorem utok_ok (a b : List Int) (hA : Good a) (hB : Good b) (row : List Bool) : ∀ (ts : List Tk) (f : Nat) (u : US) (R : List Bool), ts.length < f → u.e = 0 → u.p ≤ row.length → chkF ts u.out.length = 0 → (∀ t ∈ ts, t.1 < 256) → Has a b (itsOf ts) → row.drop u.p = putIs a b (itsOf ts) ++ R →
    utok row a b f u = { u with p := u.p + (putIs a b (itsOf ts)).length, out := expF ts u.out }
  | [], f + 1, u, R, hf, he, hu, hc, hb, hh, h => by
    have hp : putIs a b (itsOf []) = codeT a 256 := by simp [putIs, putI, itsOf, itsF]
    rw [hp] at h ⊢
    obtain ⟨k1, k2⟩ := hh.1 256 (by simp [itsOf])
    rw [utok, if_pos he]
    have c1 := uplace_at a hA row 256 u R he k1 k2 h
    have e : utok1 row a b u = (false, { u with p := u.p + (codeT a 256).length }) := by
      unfold utok1
      rw [c1]
      simp only
      rw [if_pos (by simp)]
    rw [e, if_neg (by simp), expF]
  | t :: ts, f + 1, u, R, hf, he, hu, hc, hb, hh, h => by
    have ei : itsOf (t :: ts) = itOf t ++ itsOf ts := by simp [itsOf, itsF]
    rw [ei] at hh h ⊢
    rw [putIs_app] at h ⊢
    rw [List.append_assoc] at h
    have ht : errOne t u.out.length = 0 := by
      rw [chkF] at hc
      by_cases e : errOne t u.out.length = 0
      · exact e
      · rw [if_neg e] at hc; exact absurd hc e
    have hc2 : chkF ts (u.out.length + wid t) = 0 := by rw [chkF, if_pos ht] at hc; exact hc
    have hlen := chkF_zero hc2
    obtain ⟨e1, e2⟩ := utok1_ok a b hA hB row t u _ he hu ht (hb t (by simp)) hlen hh.app.1 h
    rw [utok, if_pos he, e1]
    simp only [if_true]
    have d1 := drop_more h
    rw [utok_ok a b hA hB row ts f { u with p := u.p + (putIs a b (itOf t)).length, out := putT t u.out } R (by simp at hf; omega) he e2 (by simp only; rw [putT_length]; exact hc2) (fun t' h' => hb t' (by simp [h'])) hh.app.2 d1, expF]
    simp only [List.length_append]
    congr 1
    omega
  | _, 0, u, R, hf, _, _, _, _, _, _ => by omega
end Go.Proofs.YtekgcoajgbpniacGreat

/-
  What was packed is read by the document's own reader: the lengths of a Dynamic block. Of bits alone.
-/
namespace Go.Proofs.YtekgcoajgbpniacGreat
set_option linter.unusedVariables false
set_option maxRecDepth 100000

/-- what a symbol of the code of lengths says behind l -/
def sayI (l : List Int) (i : Nat × Nat × Nat) : Int × Nat :=
  if i.1 = 16 then (l.getD (l.length - 1) 0, 3 + i.2.1) else if i.1 = 17 then (0, 3 + i.2.1) else if i.1 = 18 then (0, 11 + i.2.1) else ((i.1 : Int), 1)
theorem sayI16 (l : List Int) (r s : Nat) : sayI l (16, r, s) = (l.getD (l.length - 1) 0, 3 + r) := rfl
theorem sayI17 (l : List Int) (r s : Nat) : sayI l (17, r, s) = (0, 3 + r) := rfl
theorem sayI18 (l : List Int) (r s : Nat) : sayI l (18, r, s) = (0, 11 + r) := rfl
theorem ukind16 (row : List Bool) (l : List Int) (u : US) : ukind row l 16 u = if l.length = 0 then (16, 1, uwrong 8 u) else (l.getD (l.length - 1) 0, 3 + (uget row 2 u).1, (uget row 2 u).2) := rfl
theorem ukind17 (row : List Bool) (l : List Int) (u : US) : ukind row l 17 u = (0, 3 + (uget row 3 u).1, (uget row 3 u).2) := rfl
theorem ukind18 (row : List Bool) (l : List Int) (u : US) : ukind row l 18 u = (0, 11 + (uget row 7 u).1, (uget row 7 u).2) := rfl
theorem ukind15 (row : List Bool) (l : List Int) (k : Nat) (u : US) (h : k ≤ 15) : ukind row l k u = ((k : Int), 1, u) := by
  unfold ukind
  rw [if_neg (by omega), if_neg (by omega), if_neg (by omega)]
theorem sayI15 (l : List Int) (k r s : Nat) (h : k ≤ 15) : sayI l (k, r, s) = ((k : Int), 1) := by
  unfold sayI
  simp only
  rw [if_neg (by omega), if_neg (by omega), if_neg (by omega)]
def okI (l : List Int) (i : Nat × Nat × Nat) : Prop :=
  (i.1 = 16 ∧ l.length ≠ 0 ∧ i.2.2 = 2 ∧ i.2.1 < 4) ∨ (i.1 = 17 ∧ i.2.2 = 3 ∧ i.2.1 < 8) ∨ (i.1 = 18 ∧ i.2.2 = 7 ∧ i.2.1 < 128) ∨ (i.1 ≤ 15 ∧ i.2.1 = 0 ∧ i.2.2 = 0)
theorem ustep_ok (own : List Int) (hG : Good own) (row : List Bool) (tot : Nat) (l : List Int) (u : US) (i : Nat × Nat × Nat) (R : List Bool) (he : u.e = 0) (hi : okI l i) (h1 : i.1 < own.length) (h2 : 0 < own.getD i.1 0) (hle : l.length + (sayI l i).2 ≤ tot) (h : row.drop u.p = putR own i ++ R) :
    ustep row own tot l u = (l ++ List.replicate (sayI l i).2 (sayI l i).1, { u with p := u.p + (putR own i).length }) := by
  have hlen := putR_len own hG i
  have hR := congrArg List.length h
  rw [List.length_drop, List.length_append, hlen] at hR
  have hcl := code_len own hG i.1
  unfold putR at h
  rw [List.append_assoc] at h
  have c1 := uplace_at own hG row i.1 u _ he h1 h2 h
  have d1 := drop_more h
  have K : ukind row l i.1 { u with p := u.p + (codeT own i.1).length } = ((sayI l i).1, (sayI l i).2, { u with p := u.p + (putR own i).length }) := by
    rw [hlen]
    obtain ⟨k, r, s⟩ := i
    simp only at h1 h2 hle h hlen hR hcl c1 d1 hi ⊢
    rcases hi with ⟨rfl, h3, rfl, h5⟩ | ⟨rfl, rfl, h5⟩ | ⟨rfl, rfl, h5⟩ | ⟨h3, rfl, rfl⟩
    · have c2 := uget_at row 2 r { u with p := u.p + (codeT own 16).length } R he (by simp only; omega) (by omega) d1
      rw [ukind16, if_neg h3, c2, sayI16]
      simp only [Nat.add_assoc]
    · have c2 := uget_at row 3 r { u with p := u.p + (codeT own 17).length } R he (by simp only; omega) (by omega) d1
      rw [ukind17, c2, sayI17]
      simp only [Nat.add_assoc]
    · have c2 := uget_at row 7 r { u with p := u.p + (codeT own 18).length } R he (by simp only; omega) (by omega) d1
      rw [ukind18, c2, sayI18]
      simp only [Nat.add_assoc]
    · rw [ukind15 _ _ _ _ h3, sayI15 _ _ _ _ h3]
      simp
  unfold ustep
  rw [c1]
  simp only
  rw [K]
  unfold umore
  simp only
  rw [if_neg (by simp [he]; omega)]

/-- so far the reading of lengths went -/
def Went (row : List Bool) (own : List Int) (tot : Nat) (F : Nat) (l : List Int) (u : US) (X : List Bool) (more : List Int) : Prop :=
  ∃ F', tot ≤ (l ++ more).length + F' ∧ ulens row own tot F l u = ulens row own tot F' (l ++ more) { u with p := u.p + X.length }
theorem went_one (own : List Int) (hG : Good own) (row : List Bool) (tot F : Nat) (l : List Int) (u : US) (i : Nat × Nat × Nat) (R : List Bool) (he : u.e = 0) (hi : okI l i) (h1 : i.1 < own.length) (h2 : 0 < own.getD i.1 0) (hle : l.length + (sayI l i).2 ≤ tot) (hpos : 0 < (sayI l i).2) (hF : tot ≤ l.length + F) (h : row.drop u.p = putR own i ++ R) :
    Went row own tot F l u (putR own i) (List.replicate (sayI l i).2 (sayI l i).1) := by
  obtain ⟨F', rfl⟩ : ∃ F', F = F' + 1 := ⟨F - 1, by omega⟩
  refine ⟨F', by simp; omega, ?_⟩
  rw [ulens, if_pos ⟨by omega, he⟩, ustep_ok own hG row tot l u i R he hi h1 h2 hle h]
theorem Went.nil (row : List Bool) (own : List Int) (tot F : Nat) (l : List Int) (u : US) (hF : tot ≤ l.length + F) : Went row own tot F l u [] [] := ⟨F, by simpa using hF, by simp⟩
theorem Went.trans {row : List Bool} {own : List Int} {tot F : Nat} {l : List Int} {u : US} {X Y : List Bool} {m1 m2 : List Int} (h : Went row own tot F l u X m1)
    (k : ∀ F', tot ≤ (l ++ m1).length + F' → Went row own tot F' (l ++ m1) { u with p := u.p + X.length } Y m2) : Went row own tot F l u (X ++ Y) (m1 ++ m2) := by
  obtain ⟨F1, h1, h2⟩ := h
  obtain ⟨F2, k1, k2⟩ := k F1 h1
  refine ⟨F2, by simpa [Nat.add_assoc] using k1, ?_⟩
  rw [h2, k2]
  simp [Nat.add_assoc]

theorem sayI_len (l : List Int) (x : Nat) (h : x ≤ 15) : sayI l (x, 0, 0) = ((x : Int), 1) := by
  unfold sayI; simp only; rw [if_neg (by omega), if_neg (by omega), if_neg (by omega)]
theorem rep_add (a b : Nat) (x : Int) : List.replicate (a + b) x = List.replicate a x ++ List.replicate b x := by rw [List.replicate_append_replicate]
theorem last_rep (l : List Int) (x : Int) (n : Nat) (h : 0 < n) : (l ++ List.replicate n x).getD ((l ++ List.replicate n x).length - 1) 0 = x := by
  have hl : (l ++ List.replicate n x).length = l.length + n := by simp
  rw [hl]
  have : l.length + n - 1 < (l ++ List.replicate n x).length := by omega
  simp only [List.getD, List.getElem?_eq_getElem this, Option.getD_some]
  rw [List.getElem_append_right (by omega)]
  simp
theorem urun_ok (own : List Int) (hG : Good own) (row : List Bool) (tot x : Nat) (hx : x ≤ 15) : ∀ (f m : Nat) (F : Nat) (l : List Int) (u : US) (R : List Bool), m ≤ f → u.e = 0 → (0 < x → l.length ≠ 0 ∧ l.getD (l.length - 1) 0 = (x : Int)) → HasR own (runZ x f m) → l.length + m ≤ tot → tot ≤ l.length + F → row.drop u.p = putRs own (runZ x f m) ++ R →
    Went row own tot F l u (putRs own (runZ x f m)) (List.replicate m (x : Int))
  | 0, m, F, l, u, R, hm, he, hl, hh, hle, hF, h => by
    obtain rfl : m = 0 := by omega
    exact Went.nil row own tot F l u hF
  | f + 1, m, F, l, u, R, hm, he, hl, hh, hle, hF, h => by
    by_cases h0 : m = 0
    · subst h0
      have e : runZ x (f + 1) 0 = [] := by rw [runZ, if_pos rfl]
      rw [e]
      exact Went.nil row own tot F l u hF
    · -- one symbol, and the rest
      have step : ∀ (i : Nat × Nat × Nat) (c : Nat), runZ x (f + 1) m = i :: runZ x f (m - c) → 0 < c → c ≤ m → okI l i → sayI l i = ((x : Int), c) → Went row own tot F l u (putRs own (runZ x (f + 1) m)) (List.replicate m (x : Int)) := by
        intro i c e hc hcm hok hsay
        rw [e] at hh h ⊢
        rw [putRs_cons] at h ⊢
        rw [List.append_assoc] at h
        obtain ⟨k1, k2⟩ := hh i (by simp)
        have w1 := went_one own hG row tot F l u i _ he hok k1 k2 (by rw [hsay]; simp only; omega) (by rw [hsay]; exact hc) hF h
        rw [hsay] at w1
        simp only at w1
        have := w1.trans (Y := putRs own (runZ x f (m - c))) (m2 := List.replicate (m - c) (x : Int)) (fun F' hF' => urun_ok own hG row tot x hx f (m - c) F' _ _ R (by omega) he (fun h0 => ⟨by simp; omega, last_rep l _ c hc⟩) (fun j hj => hh j (by simp [hj])) (by simp; omega) hF' (drop_more h))
        rw [← rep_add, show c + (m - c) = m by omega] at this
        exact this
      by_cases h3 : m < 3
      · exact step (x, 0, 0) 1 (by rw [runZ, if_neg h0, if_pos h3]) (by omega) (by omega) (.inr (.inr (.inr ⟨hx, rfl, rfl⟩))) (sayI_len l x hx)
      · by_cases hx0 : 0 < x
        · exact step (16, min m 6 - 3, 2) (min m 6) (by rw [runZ, if_neg h0, if_neg h3, if_pos hx0]) (by omega) (by omega) (.inl ⟨rfl, (hl hx0).1, rfl, by simp only; omega⟩) (by rw [sayI16, (hl hx0).2]; congr 1; omega)
        · obtain rfl : x = 0 := by omega
          by_cases h11 : m < 11
          · exact step (17, m - 3, 3) m (by rw [runZ, if_neg h0, if_neg h3, if_neg hx0, if_pos h11, Nat.sub_self]) (by omega) (by omega) (.inr (.inl ⟨rfl, rfl, by simp only; omega⟩)) (by rw [sayI17]; congr 1; omega)
          · exact step (18, min m 138 - 11, 7) (min m 138) (by rw [runZ, if_neg h0, if_neg h3, if_neg hx0, if_neg h11]) (by omega) (by omega) (.inr (.inr (.inl ⟨rfl, rfl, by simp only; omega⟩))) (by rw [sayI18]; congr 1; omega)
theorem runI_ok (own : List Int) (hG : Good own) (row : List Bool) (tot x : Nat) (hx : x ≤ 15) (m F : Nat) (l : List Int) (u : US) (R : List Bool) (hm : 1 ≤ m) (he : u.e = 0) (hh : HasR own (runI x m)) (hle : l.length + m ≤ tot) (hF : tot ≤ l.length + F) (h : row.drop u.p = putRs own (runI x m) ++ R) :
    Went row own tot F l u (putRs own (runI x m)) (List.replicate m (x : Int)) := by
  unfold runI at hh h ⊢
  by_cases hx0 : 0 < x
  · rw [if_pos hx0] at hh h ⊢
    rw [putRs_cons] at h ⊢
    rw [List.append_assoc] at h
    obtain ⟨k1, k2⟩ := hh (x, 0, 0) (by simp)
    have hs := sayI_len l x hx
    have w1 := went_one own hG row tot F l u (x, 0, 0) _ he (.inr (.inr (.inr ⟨hx, rfl, rfl⟩))) k1 k2 (by rw [hs]; simp only; omega) (by rw [hs]; exact Nat.one_pos) hF h
    rw [hs] at w1
    simp only at w1
    have := w1.trans (Y := putRs own (runZ x m (m - 1))) (m2 := List.replicate (m - 1) (x : Int)) (fun F' hF' => urun_ok own hG row tot x hx m (m - 1) F' _ _ R (by omega) he (fun h0 => ⟨by simp, last_rep l _ 1 (by omega)⟩) (fun j hj => hh j (by simp [hj])) (by simp; omega) hF' (drop_more h))
    rw [← rep_add, show 1 + (m - 1) = m by omega] at this
    exact this
  · rw [if_neg hx0] at hh h ⊢
    exact urun_ok own hG row tot x hx m m F l u R (Nat.le_refl _) he (fun h0 => absurd h0 hx0) hh hle hF h

theorem lens_read (own : List Int) (hG : Good own) (row : List Bool) (tot : Nat) : ∀ (f : Nat) (l2 : List Int) (F : Nat) (l : List Int) (u : US) (R : List Bool), l2.length ≤ f → u.e = 0 → (∀ x ∈ l2, 0 ≤ x ∧ x ≤ 15) → HasR own (lenI f l2) → l.length + l2.length ≤ tot → tot ≤ l.length + F → row.drop u.p = putRs own (lenI f l2) ++ R →
    Went row own tot F l u (putRs own (lenI f l2)) l2
  | 0, l2, F, l, u, R, hf, he, hx, hh, hle, hF, h => by
    obtain rfl : l2 = [] := List.eq_nil_of_length_eq_zero (by omega)
    exact Went.nil row own tot F l u hF
  | f + 1, [], F, l, u, R, hf, he, hx, hh, hle, hF, h => Went.nil row own tot F l u hF
  | f + 1, x :: r, F, l, u, R, hf, he, hx, hh, hle, hF, h => by
    have e : lenI (f + 1) (x :: r) = runI x.toNat (headN x r + 1) ++ lenI f (r.drop (headN x r)) := rfl
    rw [e] at hh h ⊢
    rw [putRs_app] at h ⊢
    rw [List.append_assoc] at h
    have hn := headN_le x r
    simp only [List.length_cons] at hf hle
    have hx0 := hx x (by simp)
    have hxx : ((x.toNat : Nat) : Int) = x := Int.toNat_of_nonneg hx0.1
    have w1 := runI_ok own hG row tot x.toNat (by omega) (headN x r + 1) F l u _ (by omega) he hh.app.1 (by omega) hF h
    rw [hxx] at w1
    have := w1.trans (Y := putRs own (lenI f (r.drop (headN x r)))) (m2 := r.drop (headN x r)) (fun F' hF' => lens_read own hG row tot f _ F' _ _ R (by simp; omega) he (fun y hy => hx y (by simp [List.mem_of_mem_drop hy])) hh.app.2 (by simp; omega) hF' (drop_more h))
    have e2 : List.replicate (headN x r + 1) x ++ r.drop (headN x r) = x :: r := by
      rw [List.replicate_succ, List.cons_append, ← headN_rep x r]
    rw [e2] at this
    exact this
/-- all lengths are read -/
theorem ulens_ok (own : List Int) (hG : Good own) (row : List Bool) (all : List Int) (u : US) (R : List Bool) (he : u.e = 0) (hx : ∀ x ∈ all, 0 ≤ x ∧ x ≤ 15) (hh : HasR own (lenIs all)) (h : row.drop u.p = putRs own (lenIs all) ++ R) :
    ulens row own all.length all.length [] u = (all, { u with p := u.p + (putRs own (lenIs all)).length }) := by
  obtain ⟨F', h1, h2⟩ := lens_read own hG row all.length all.length all all.length [] u R (Nat.le_refl _) he hx hh (by simp) (by simp) h
  unfold lenIs
  rw [h2]
  simp only [List.nil_append]
  cases F' with
  | zero => rw [ulens]
  | succ F' => rw [ulens, if_neg (by simp)]

/-! the code of lengths -/
theorem usmall_ok (own : List Int) (row : List Bool) (hv : ∀ k, 0 ≤ own.getD k 0 ∧ own.getD k 0 ≤ 7) : ∀ (ks : List Nat) (s : List Int) (u : US) (R : List Bool), u.e = 0 → u.p ≤ row.length → row.drop u.p = ks.flatMap (fun k => numBits (own.getD k 0).toNat 3) ++ R →
    ∃ s', usmall row ks s u = (s', { u with p := u.p + 3 * ks.length }) ∧ s'.length = s.length ∧ ∀ k, k < s.length → s'.getD k 0 = if k ∈ ks then own.getD k 0 else s.getD k 0
  | [], s, u, R, he, hp, h => ⟨s, by rw [usmall]; rfl, rfl, fun k _ => by simp⟩
  | q :: ks, s, u, R, he, hp, h => by
    rw [List.flatMap_cons, List.append_assoc] at h
    have hq := hv q
    have hR := congrArg List.length h
    rw [List.length_drop, List.length_append, numBits_length] at hR
    have c1 := uget_at row 3 (own.getD q 0).toNat u _ he hp (by omega) h
    have d1 := drop_more h
    rw [numBits_length] at d1
    obtain ⟨s', e1, e2, e3⟩ := usmall_ok own row hv ks (s.set q (((own.getD q 0).toNat : Nat) : Int)) { u with p := u.p + 3 } R he (by simp only; omega) d1
    refine ⟨s', ?_, by rw [e2]; simp, ?_⟩
    · rw [usmall, c1]
      simp only
      rw [e1]
      simp only [List.length_cons]
      congr 2
      omega
    · intro k hk
      rw [e3 k (by simpa using hk)]
      by_cases hm : k ∈ ks
      · rw [if_pos hm, if_pos (by simp [hm])]
      · rw [if_neg hm]
        by_cases e : k = q
        · subst e
          rw [if_pos (by simp)]
          simp only [List.getD, List.getElem?_set_self hk, Option.getD_some]
          exact Int.toNat_of_nonneg hq.1
        · rw [if_neg (by simp [e, hm])]
          simp only [List.getD]
          rw [List.getElem?_set_ne (Ne.symm e)]
theorem ownN_zero (own : List Int) : ∀ n j, ownN own n ≤ j → j < n → own.getD (ord19.getD j 0) 0 = 0
  | 0, j, h1, h2 => by omega
  | n + 1, j, h1, h2 => by
    rw [ownN] at h1
    by_cases e : 4 < n + 1 ∧ own.getD (ord19.getD n 0) 0 = 0
    · rw [if_pos e] at h1
      by_cases e2 : j = n
      · subst e2; exact e.2
      · exact ownN_zero own n j h1 (by omega)
    · rw [if_neg e] at h1; omega
theorem ord19_all : (List.range 19).all (fun k => (List.range 19).any (fun j => ord19.getD j 0 == k)) = true := by decide
theorem ord19_at {k : Nat} (h : k < 19) : ∃ j, j < 19 ∧ ord19.getD j 0 = k := by
  have := List.all_eq_true.1 ord19_all k (by simpa using h)
  obtain ⟨j, h1, h2⟩ := List.any_eq_true.1 this
  exact ⟨j, by simpa using h1, by simpa using h2⟩
theorem getD_eq {xs ys : List Int} (hl : xs.length = ys.length) (h : ∀ k, k < xs.length → xs.getD k 0 = ys.getD k 0) : xs = ys := by
  apply List.ext_getElem hl
  intro i h1 h2
  have := h i h1
  simpa [List.getD, h1, h2] using this
theorem utold_ok (a b own : List Int) (row : List Bool) (u : US) (R : List Bool) (he : u.e = 0) (hp : u.p ≤ row.length) (hA : Good a) (hB : Good b) (hO : Good own) (ha : 257 ≤ a.length) (ha2 : a.length ≤ 286) (hb : 1 ≤ b.length) (hb2 : b.length ≤ 30) (ho : own.length = 19) (hv : ∀ k, 0 ≤ own.getD k 0 ∧ own.getD k 0 ≤ 7) (h256 : 0 < a.getD 256 0) (hh : HasR own (lenIs (a ++ b))) (h : row.drop u.p = headB a b own ++ R) :
    utold row u = ((a, b), { u with p := u.p + (headB a b own).length }) := by
  have hc1 := ownN_le own 19
  have hc2 := ownN_ge own 19 (by decide)
  have hz := ownN_zero own 19
  have hlen : (headB a b own).length = 14 + 3 * ownN own 19 + (putRs own (lenIs (a ++ b))).length := by
    unfold headB
    have : ∀ ks : List Nat, (ks.flatMap (fun k => numBits (own.getD k 0).toNat 3)).length = 3 * ks.length := by
      intro ks
      induction ks with
      | nil => rfl
      | cons k ks ih => rw [List.flatMap_cons, List.length_append, numBits_length, ih, List.length_cons]; omega
    simp only [List.length_append, numBits_length, this]
    have e19 : ord19.length = 19 := rfl
    rw [List.length_take, e19]
    omega
  have hR := congrArg List.length h
  rw [List.length_drop, List.length_append, hlen] at hR
  have hdr := h
  unfold headB at h
  generalize hC : ownN own 19 = C at *
  simp only [List.append_assoc] at h
  have c1 := uget_at row 5 (a.length - 257) u _ he hp (by omega) h
  have d1 := drop_more h
  rw [numBits_length] at d1
  have c2 := uget_at row 5 (b.length - 1) { u with p := u.p + 5 } _ he (by simp only; omega) (by omega) d1
  have d2 := drop_more d1
  rw [numBits_length] at d2
  have c3 := uget_at row 4 (C - 4) { u with p := u.p + 5 + 5 } _ he (by simp only; omega) (by omega) d2
  have d3 := drop_more d2
  rw [numBits_length] at d3
  obtain ⟨s', e1, e2, e3⟩ := usmall_ok own row hv (ord19.take C) (List.replicate 19 0) { u with p := u.p + 5 + 5 + 4 } _ he (by simp only; omega) d3
  have hls : (ord19.take C).length = C := by
    have e19 : ord19.length = 19 := rfl
    rw [List.length_take, e19]; omega
  rw [hls] at e1
  have hs : s' = own := by
    apply getD_eq (by rw [e2, ho]; simp)
    intro k hk
    rw [e2] at hk
    rw [e3 k hk]
    by_cases hm : k ∈ ord19.take C
    · rw [if_pos hm]
    · rw [if_neg hm]
      have hk19 : k < 19 := by simpa using hk
      obtain ⟨j, j1, j2⟩ := ord19_at hk19
      have hj : C ≤ j := by
        rcases Nat.lt_or_ge j C with e | e
        · exfalso
          apply hm
          rw [← j2]
          have e19 : ord19.length = 19 := rfl
          have hjl : j < ord19.length := by omega
          rw [List.mem_take_iff_getElem]
          exact ⟨j, by omega, by simp [List.getD, hjl]⟩
        · exact e
      have := hz j hj j1
      rw [j2] at this
      rw [this]
      exact zero_at 19 k
  subst hs
  have d4 := drop_more d3
  have hfl : ((ord19.take C).flatMap (fun k => numBits (s'.getD k 0).toNat 3)).length = 3 * C := by
    have : ∀ ks : List Nat, (ks.flatMap (fun k => numBits (s'.getD k 0).toNat 3)).length = 3 * ks.length := by
      intro ks
      induction ks with
      | nil => rfl
      | cons k ks ih => rw [List.flatMap_cons, List.length_append, numBits_length, ih, List.length_cons]; omega
    rw [this, hls]
  rw [hfl] at d4
  have hall : ∀ x ∈ a ++ b, 0 ≤ x ∧ x ≤ 15 := by
    intro x hx
    have mem : ∀ l : List Int, Good l → x ∈ l → 0 ≤ x ∧ x ≤ 15 := by
      intro l hG hm
      obtain ⟨j, hj, rfl⟩ := List.getElem_of_mem hm
      have := hG.ok j hj
      simpa [List.getD, hj] using this
    rcases List.mem_append.1 hx with h | h
    · exact mem a hA h
    · exact mem b hB h
  have c5 := ulens_ok s' hO row (a ++ b) { u with p := u.p + 5 + 5 + 4 + 3 * C } R he hall hh d4
  rw [List.length_append] at c5
  unfold utold
  simp only
  rw [c1]
  simp only
  rw [c2]
  simp only
  rw [c3]
  simp only
  rw [show a.length - 257 + 257 = a.length by omega, show b.length - 1 + 1 = b.length by omega, show C - 4 + 4 = C by omega]
  unfold utoldS
  rw [if_neg (by omega), e1]
  unfold utoldL uchk
  simp only
  rw [good_errL hO, if_neg (show ¬ (u.e = 0 ∧ (0 : Int) ≠ 0) from fun h9 => h9.2 rfl), if_neg (show ¬ (u.e ≠ 0) from fun h9 => h9 he), c5]
  unfold utoldE
  simp only
  have g256 : (a ++ b).getD 256 0 = a.getD 256 0 := by
    simp only [List.getD]
    rw [List.getElem?_append_left (by omega)]
  have n256 : ¬ (a ++ b).getD 256 0 = 0 := by rw [g256]; omega
  rw [if_neg (show ¬ (u.e ≠ 0) from fun h9 => h9 he), List.take_left, List.drop_left, good_errL hA, good_errL hB, if_neg (by rintro (h9 | h9 | h9); exact n256 h9; exact h9 rfl; exact h9 rfl), hlen]
  congr 2
  omega
end Go.Proofs.YtekgcoajgbpniacGreat
