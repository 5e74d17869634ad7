/-
  The document's reader: a block that is read without an error, of bits alone.
-/
import Derived.Test.YtekgcoajgbpniacGreatQ34
import Derived.Test.YtekgcoajgbpniacGreatQ35
namespace Go.Proofs.YtekgcoajgbpniacGreat
set_option linter.unusedVariables false
set_option maxRecDepth 100000

theorem usay_e {c : Nat} {u : US} (h : (usay c u).e = 0) : u.e = 0 ∧ u.out.length ≠ 3000 ∧ usay c u = { u with out := u.out ++ [c] } := by
  unfold usay at h ⊢
  by_cases e : u.e = 0
  · rw [if_pos e] at h ⊢
    by_cases e2 : u.out.length = 3000
    · rw [if_pos e2] at h
      exact absurd (show (2 : Int) = 0 from h) (by decide)
    · rw [if_neg e2]
      exact ⟨e, e2, rfl⟩
  · rw [if_neg e] at h
    exact absurd h e
theorem uget_p2 {row : List Bool} {n r : Nat} {u v : US} (h : uget row n u = (r, v)) (hv : v.e = 0) : v.p = u.p + n ∧ v.p ≤ row.length ∧ v.out = u.out ∧ v.ks = u.ks ∧ u.e = 0 := by
  have hu : u.e = 0 := uget_e (by rw [h]; exact hv)
  unfold uget at h
  rw [if_pos hu] at h
  by_cases e : row.length < u.p + n
  · rw [if_pos e] at h
    have := (Prod.mk.inj h).2
    rw [← this] at hv
    exact absurd (show (7 : Int) = 0 from hv) (by decide)
  · rw [if_neg e] at h
    have := (Prod.mk.inj h).2
    subst this
    exact ⟨rfl, by show u.p + n ≤ row.length; omega, rfl, rfl, hu⟩
theorem nextF_pos {l : List Int} {row : List Bool} {p : Nat} : ∀ (f n : Nat), 1 ≤ n → (nextF l row p f n).2.2 = 0 → 1 ≤ (nextF l row p f n).2.1 ∧ p + (nextF l row p f n).2.1 ≤ row.length ∧ (nextF l row p f n).1 < l.length
  | 0, n, _, h => by rw [nextF] at h; exact absurd h (by decide)
  | f + 1, n, hn, h => by
    rw [nextF] at h ⊢
    by_cases e : row.length < p + n
    · rw [if_pos e] at h; exact absurd h (by decide)
    · rw [if_neg e] at h ⊢
      cases hf : findC l ((row.drop p).take n) with
      | some q =>
        simp only
        refine ⟨hn, by omega, ?_⟩
        have := List.mem_of_find?_eq_some hf
        simpa using this
      | none =>
        rw [hf] at h
        simp only at h ⊢
        exact nextF_pos f (n + 1) (by omega) h
theorem uplace_p2 {l : List Int} {row : List Bool} {k : Nat} {u v : US} (h : uplace l row u = (k, v)) (hv : v.e = 0) : u.p + 1 ≤ v.p ∧ v.p ≤ row.length ∧ v.out = u.out ∧ v.ks = u.ks ∧ u.e = 0 ∧ k < l.length := by
  have hu : u.e = 0 := uplace_e (by rw [h]; exact hv)
  unfold uplace at h
  rw [if_pos hu] at h
  have h1 := (Prod.mk.inj h).2
  have h2 := (Prod.mk.inj h).1
  subst h1
  have := nextF_pos (l := l) (row := row) (p := u.p) 15 1 (Nat.le_refl _) hv
  refine ⟨?_, ?_, rfl, rfl, hu, ?_⟩
  · show u.p + 1 ≤ u.p + (nextR l row u.p).2.1
    have h3 := this.1
    unfold nextR
    omega
  · show u.p + (nextR l row u.p).2.1 ≤ row.length
    exact this.2.1
  · rw [← h2]; exact this.2.2
theorem ucopy_e {d : Nat} : ∀ {n : Nat} {u : US}, (ucopy d n u).e = 0 → u.e = 0
  | 0, u, h => h
  | n + 1, u, h => by
    rw [ucopy] at h
    by_cases e : u.e = 0
    · exact e
    · rw [if_neg e] at h; exact h
theorem ucopy_p {d : Nat} : ∀ {n : Nat} {u : US}, (ucopy d n u).e = 0 → (ucopy d n u).p = u.p ∧ (ucopy d n u).ks = u.ks ∧ (u.out.length ≤ 3000 → (ucopy d n u).out.length ≤ 3000)
  | 0, u, h => ⟨rfl, rfl, fun h => h⟩
  | n + 1, u, h => by
    have e := ucopy_e h
    rw [ucopy, if_pos e] at h ⊢
    obtain ⟨h1, h2, h3⟩ := usay_e (ucopy_e h)
    have ih := ucopy_p h
    rw [h3] at ih ⊢
    refine ⟨ih.1, ih.2.1, fun ho => ih.2.2 ?_⟩
    simp only [List.length_append, List.length_cons, List.length_nil]
    omega
/-- one token that is read without an error -/
inductive Tok1 (row : List Bool) (a b : List Int) (u : US) : Bool → US → Prop
  | stop (v : US) : uplace a row u = (256, v) → v.e = 0 → Tok1 row a b u false v
  | byte (c : Nat) (x : US) : uplace a row u = (c, x) → x.e = 0 → c < 256 → x.out.length ≠ 3000 → Tok1 row a b u true { x with out := x.out ++ [c] }
  | same (k n0 f d0 : Nat) (x1 x2 x3 x4 v : US) : uplace a row u = (k, x1) → x1.e = 0 → 257 ≤ k → k ≤ 285 → uget row (samesL.getD (k - 257) (0, 0)).2 x1 = (n0, x2) → x2.e = 0 → uplace b row x2 = (f, x3) → x3.e = 0 → f ≤ 29 →
      uget row (farsL.getD f (0, 0)).2 x3 = (d0, x4) → x4.e = 0 → (farsL.getD f (0, 0)).1 + d0 ≤ x4.out.length → ucopy ((farsL.getD f (0, 0)).1 + d0) ((samesL.getD (k - 257) (0, 0)).1 + n0) x4 = v → v.e = 0 → Tok1 row a b u true v
theorem utok1_good {row : List Bool} {a b : List Int} {u : US} (h : (utok1 row a b u).2.e = 0) : Tok1 row a b u (utok1 row a b u).1 (utok1 row a b u).2 := by
  obtain ⟨k, x1, e1⟩ : ∃ k x1, uplace a row u = (k, x1) := ⟨_, _, rfl⟩
  unfold utok1 at h ⊢
  simp only [e1] at h ⊢
  by_cases c1 : x1.e ≠ 0 ∨ k = 256
  · rw [if_pos c1] at h ⊢
    simp only at h ⊢
    rcases c1 with c1 | c1
    · exact absurd h c1
    · subst c1
      exact .stop x1 e1 h
  · rw [if_neg c1] at h ⊢
    have hx1 : x1.e = 0 := by
      by_cases e : x1.e = 0
      · exact e
      · exact absurd (.inl e) c1
    have hk : k ≠ 256 := fun e => c1 (.inr e)
    by_cases c2 : k < 256
    · rw [if_pos c2] at h ⊢
      simp only at h ⊢
      obtain ⟨_, h2, h3⟩ := usay_e h
      rw [h3]
      exact .byte k x1 e1 hx1 c2 h2
    · rw [if_neg c2] at h ⊢
      by_cases c3 : 285 < k
      · rw [if_pos c3] at h
        exact absurd h (uwrong_e (by decide))
      · rw [if_neg c3] at h ⊢
        unfold usame at h ⊢
        obtain ⟨n0, x2, e2⟩ : ∃ n0 x2, uget row (samesL.getD (k - 257) (0, 0)).2 x1 = (n0, x2) := ⟨_, _, rfl⟩
        obtain ⟨f, x3, e3⟩ : ∃ f x3, uplace b row x2 = (f, x3) := ⟨_, _, rfl⟩
        simp only [e2, e3] at h ⊢
        by_cases c4 : x3.e = 0 ∧ 29 < f
        · rw [if_pos c4] at h
          rw [if_pos (uwrong_e (by decide))] at h
          exact absurd h (uwrong_e (by decide))
        · rw [if_neg c4] at h ⊢
          by_cases c5 : x3.e ≠ 0
          · rw [if_pos c5] at h
            exact absurd h c5
          · rw [if_neg c5] at h ⊢
            have hx3 : x3.e = 0 := by omega
            simp only at h ⊢
            unfold ufar at h ⊢
            obtain ⟨d0, x4, e4⟩ : ∃ d0 x4, uget row (farsL.getD f (0, 0)).2 x3 = (d0, x4) := ⟨_, _, rfl⟩
            simp only [e4] at h ⊢
            have hx := ucopy_e h
            by_cases c6 : x4.e = 0 ∧ x4.out.length < (farsL.getD f (0, 0)).1 + d0
            · rw [if_pos c6] at hx
              exact absurd hx (uwrong_e (by decide))
            · rw [if_neg c6] at h hx ⊢
              have hx2 : x2.e = 0 := uplace_e (by rw [e3]; exact hx3)
              exact .same k n0 f d0 x1 x2 x3 x4 _ e1 hx1 (by omega) (by omega) e2 hx2 e3 hx3 (by omega) e4 hx (by omega) rfl h
theorem Tok1.ahead {row : List Bool} {a b : List Int} {u v : US} {t : Bool} (h : Tok1 row a b u t v) : u.p + 1 ≤ v.p ∧ v.p ≤ row.length ∧ v.e = 0 ∧ v.ks = u.ks ∧ (u.out.length ≤ 3000 → v.out.length ≤ 3000) := by
  cases h with
  | stop _ h1 h2 =>
    have := uplace_p2 h1 h2
    exact ⟨this.1, this.2.1, h2, this.2.2.2.1, fun h => by rw [this.2.2.1]; exact h⟩
  | byte c x h1 h2 h3 h4 =>
    have := uplace_p2 h1 h2
    refine ⟨this.1, this.2.1, h2, this.2.2.2.1, fun h => ?_⟩
    rw [this.2.2.1] at h4 ⊢
    simp only [List.length_append, List.length_cons, List.length_nil]
    omega
  | same k n0 f d0 x1 x2 x3 x4 _ h1 h2 h3 h4 h5 h6 h7 h8 h9 h10 h11 h12 h13 h14 =>
    have p1 := uplace_p2 h1 h2
    have p2 := uget_p2 h5 h6
    have p3 := uplace_p2 h7 h8
    have p4 := uget_p2 h10 h11
    have p5 := ucopy_p (by rw [h13]; exact h14 : (ucopy ((farsL.getD f (0, 0)).1 + d0) ((samesL.getD (k - 257) (0, 0)).1 + n0) x4).e = 0)
    rw [h13] at p5
    refine ⟨by omega, by omega, h14, ?_, fun h => p5.2.2 ?_⟩
    · rw [p5.2.1, p4.2.2.2.1, p3.2.2.2.1, p2.2.2.2.1, p1.2.2.2.1]
    · rw [p4.2.2.1, p3.2.2.1, p2.2.2.1, p1.2.2.1]; exact h
theorem utok_e {row : List Bool} {a b : List Int} : ∀ {F : Nat} {u : US}, (utok row a b F u).e = 0 → u.e = 0
  | 0, u, h => h
  | F + 1, u, h => by
    rw [utok] at h
    by_cases e : u.e = 0
    · exact e
    · rw [if_neg e] at h; exact h
/-- one round of tokens, where all goes well -/
theorem utok_round {row : List Bool} {a b : List Int} {F : Nat} {u : US} (h : (utok row a b (F + 1) u).e = 0) : ∃ t x, Tok1 row a b u t x ∧ utok row a b (F + 1) u = if t = true then utok row a b F x else x := by
  have hu := utok_e h
  rw [utok, if_pos hu] at h ⊢
  obtain ⟨t, x, e⟩ : ∃ t x, utok1 row a b u = (t, x) := ⟨_, _, rfl⟩
  have hg := utok1_good (row := row) (a := a) (b := b) (u := u)
  rw [e] at h hg ⊢
  simp only at h hg ⊢
  refine ⟨t, x, hg ?_, rfl⟩
  by_cases ht : t = true
  · rw [if_pos ht] at h
    exact utok_e h
  · rw [if_neg ht] at h
    exact h
/-- a block that is read without an error -/
inductive Blk1R (row : List Bool) (u : US) : Bool → US → Prop
  | stored (l : Nat) (x1 x2 : US) : uget row 1 u = (l, x1) → uget row 2 x1 = (0, x2) → x2.e = 0 → (ustored row x2).e = 0 → Blk1R row u (decide (l = 1)) (ukept 0 (ustored row x2))
  | coded (l k : Nat) (x1 x2 x3 : US) (a b : List Int) : uget row 1 u = (l, x1) → uget row 2 x1 = (k, x2) → x2.e = 0 → (k = 1 ∨ k = 2) → uopen row k x2 = ((a, b), x3) → x3.e = 0 → (utok row a b row.length x3).e = 0 → Blk1R row u (decide (l = 1)) (ukept k (utok row a b row.length x3))
theorem ublock_good {row : List Bool} {u : US} (h : (ublock row u).2.e = 0) : Blk1R row u (ublock row u).1 (ublock row u).2 := by
  obtain ⟨l, x1, e1⟩ : ∃ l x1, uget row 1 u = (l, x1) := ⟨_, _, rfl⟩
  obtain ⟨k, x2, e2⟩ : ∃ k x2, uget row 2 x1 = (k, x2) := ⟨_, _, rfl⟩
  unfold ublock at h ⊢
  simp only [e1, e2] at h ⊢
  by_cases c1 : x2.e ≠ 0
  · rw [if_pos c1] at h
    exact absurd h c1
  · rw [if_neg c1] at h ⊢
    have hx2 : x2.e = 0 := by omega
    by_cases c2 : k = 0
    · subst c2
      rw [if_pos rfl] at h ⊢
      exact .stored l x1 x2 e1 e2 hx2 h
    · rw [if_neg c2] at h ⊢
      obtain ⟨a, b, x3, e3⟩ : ∃ a b x3, uopen row k x2 = ((a, b), x3) := ⟨_, _, _, rfl⟩
      rw [e3] at h ⊢
      simp only at h ⊢
      by_cases c3 : x3.e ≠ 0
      · rw [if_pos c3] at h
        exact absurd h c3
      · rw [if_neg c3] at h ⊢
        have hx3 : x3.e = 0 := by omega
        have hk : k = 1 ∨ k = 2 := by
          by_cases d1 : k = 1
          · exact .inl d1
          · by_cases d2 : k = 2
            · exact .inr d2
            · unfold uopen at e3
              rw [if_neg d1, if_neg d2] at e3
              have := (Prod.mk.inj e3).2
              rw [← this] at hx3
              exact absurd hx3 (uwrong_e (by decide))
        exact .coded l k x1 x2 x3 a b e1 e2 hx2 hk e3 hx3 h
end Go.Proofs.YtekgcoajgbpniacGreat

/-
  What the document's own Sizes answers.
-/
namespace Go.Proofs.YtekgcoajgbpniacGreat
open Go.RowKit
set_option linter.unusedVariables false
set_option maxRecDepth 100000

def pcs (t : Nat × Nat) : List Value := [.int .i64 (t.1 : Int), .int .i64 (t.2 : Int)]
def pvs (l : List (Nat × Nat)) : List Value := l.flatMap pcs
theorem pvs_length (l : List (Nat × Nat)) : (pvs l).length = l.length * 2 := by
  induction l with
  | nil => rfl
  | cons t r ih =>
    have : pvs (t :: r) = pcs t ++ pvs r := rfl
    rw [this, List.length_append, ih, List.length_cons]
    show 2 + r.length * 2 = _
    omega
theorem pvs_append (l r : List (Nat × Nat)) : pvs (l ++ r) = pvs l ++ pvs r := by simp [pvs]
theorem pvs_at (l : List (Nat × Nat)) (j : Nat) (hj : j < l.length) : (pvs l)[j * 2]? = some (.int .i64 ((l.getD j (0, 0)).1 : Int)) ∧ (pvs l)[j * 2 + 1]? = some (.int .i64 ((l.getD j (0, 0)).2 : Int)) := by
  induction l generalizing j with
  | nil => simp at hj
  | cons t r ih =>
    have e : pvs (t :: r) = pcs t ++ pvs r := rfl
    match j with
    | 0 => rw [e]; exact ⟨rfl, rfl⟩
    | j + 1 =>
      have hj' : j < r.length := by simpa using hj
      obtain ⟨h1, h2⟩ := ih j hj'
      have hl : (pcs t).length = 2 := rfl
      refine ⟨?_, ?_⟩
      · rw [e, List.getElem?_append_right (by rw [hl]; omega), hl, show (j + 1) * 2 - 2 = j * 2 by omega, h1]; rfl
      · rw [e, List.getElem?_append_right (by rw [hl]; omega), hl, show (j + 1) * 2 + 1 - 2 = j * 2 + 1 by omega, h2]; rfl
/-- a row of pairs that is read -/
def Prs (w : World) (g : Nat) (l : List (Nat × Nat)) : Prop := ∀ j, j < l.length → w.cell? ⟨g, j * 2, none⟩ = some (.int .i64 ((l.getD j (0, 0)).1 : Int)) ∧ w.cell? ⟨g, j * 2 + 1, none⟩ = some (.int .i64 ((l.getD j (0, 0)).2 : Int))
theorem Prs.own {w : World} {B g n cap : Nat} {l : List (Nat × Nat)} (h : w.ownsRow B 71 2 (.slice (some ⟨g, 0, none⟩) n cap) n (pvs l)) : Prs w g l := by
  intro j hj
  have hn : l.length = n := by have := h.1; rw [pvs_length] at this; omega
  obtain ⟨h1, h2⟩ := pvs_at l j hj
  refine ⟨?_, ?_⟩
  · rw [h.cellAt _ (by omega)]; simp [List.getD, h1]
  · rw [h.cellAt _ (by omega)]; simp [List.getD, h2]
theorem Prs.block {w w' : World} {g : Nat} {l : List (Nat × Nat)} (h : Prs w g l) (hb : w'.heap[g]? = w.heap[g]?) : Prs w' g l := by
  intro j hj
  obtain ⟨h1, h2⟩ := h j hj
  unfold World.cell? at h1 h2 ⊢
  rw [hb]
  exact ⟨h1, h2⟩
theorem info_p2 : (Tryz.prog.info? 71).map (fun i => (i.zero, i.size, i.bytes)) = some (some (.agg #[.int .i64 0, .int .i64 0]), 2, 16) := by kernel_rfl

def bitsS : List Int := [0, 0, 0, 0, 0, 0, 0, 0, 1, 1, 1, 1, 2, 2, 2, 2, 3, 3, 3, 3, 4, 4, 4, 4, 5, 5, 5, 5]
def fromS (k : Nat) : Nat := if k = 28 then 259 else (samesL.getD k (0, 0)).1
def fromF (k : Nat) : Nat := if k = 30 then 32769 else (farsL.getD k (0, 0)).1
theorem sames_step : ∀ k, k < 28 → samesL.take (k + 1) = samesL.take k ++ [(fromS k, (bitsS.getD k 0).toNat)] ∧ fromS (k + 1) = fromS k + 2 ^ (bitsS.getD k 0).toNat ∧ 0 ≤ bitsS.getD k 0 ∧ bitsS.getD k 0 ≤ 5 ∧ fromS k ≤ 300 := by decide
theorem fars_step : ∀ k, k < 30 → farsL.take (k + 1) = farsL.take k ++ [(fromF k, if k < 4 then 0 else k / 2 - 1)] ∧ fromF (k + 1) = fromF k + 2 ^ (if k < 4 then 0 else k / 2 - 1) ∧ (if k < 4 then 0 else k / 2 - 1) ≤ 13 ∧ fromF k ≤ 40000 := by decide
theorem two_cells (W : World) (x y : Value) (t : TypeId) : ∀ j u, [x, y][j]? = some u → (W.alloc (.cells #[x, y] t)).cell? ((⟨W.heap.size, 0, none⟩ : Addr).add j) = some u := by
  intro j u hj
  have e : (⟨W.heap.size, 0, none⟩ : Addr).add j = ⟨W.heap.size, j, none⟩ := by unfold Addr.add; split <;> simp_all
  rw [e, World.cell?_alloc_at _ _ _ _ rfl]
  match j, hj with
  | 0, hj => simpa using hj
  | 1, hj => simpa using hj

set_option maxHeartbeats 2000000 in
theorem sizes_any (w : World) : Calls Tryz.prog 26 #[] w fun e w' => ∃ g1 c1 g2 c2, e = .returned (.tuple #[.slice (some ⟨g1, 0, none⟩) 29 c1, .slice (some ⟨g2, 0, none⟩) 30 c2]) ∧ w.heap.size ≤ g1 ∧ w.heap.size ≤ g2 ∧ Prs w' g1 samesL ∧ Prs w' g2 farsL ∧ Below w.heap.size w w' ∧ g1 < w'.heap.size ∧ g2 < w'.heap.size := by
  obtain ⟨i0, hi, hz0, hz1, hz2⟩ := info_parts info_p2
  have HR0 := hide (RowIn.new .i64 w bitsS 3 #[.int .i64 0, .int .i64 0, .int .i64 0, .int .i64 0, .int .i64 0, .int .i64 0, .int .i64 0, .int .i64 0, .int .i64 1, .int .i64 1, .int .i64 1, .int .i64 1, .int .i64 2, .int .i64 2, .int .i64 2, .int .i64 2, .int .i64 3, .int .i64 3, .int .i64 3, .int .i64 3, .int .i64 4, .int .i64 4, .int .i64 4, .int .i64 4, .int .i64 5, .int .i64 5, .int .i64 5, .int .i64 5] w.heap.size rfl rfl)
  have HB0 := hide ((Below.refl w.heap.size w).alloc (Nat.le_refl _) (.cells #[.int .i64 0, .int .i64 0, .int .i64 0, .int .i64 0, .int .i64 0, .int .i64 0, .int .i64 0, .int .i64 0, .int .i64 1, .int .i64 1, .int .i64 1, .int .i64 1, .int .i64 2, .int .i64 2, .int .i64 2, .int .i64 2, .int .i64 3, .int .i64 3, .int .i64 3, .int .i64 3, .int .i64 4, .int .i64 4, .int .i64 4, .int .i64 4, .int .i64 5, .int .i64 5, .int .i64 5, .int .i64 5] 3))
  have hz0' : (w.alloc (.cells #[.int .i64 0, .int .i64 0, .int .i64 0, .int .i64 0, .int .i64 0, .int .i64 0, .int .i64 0, .int .i64 0, .int .i64 1, .int .i64 1, .int .i64 1, .int .i64 1, .int .i64 2, .int .i64 2, .int .i64 2, .int .i64 2, .int .i64 3, .int .i64 3, .int .i64 3, .int .i64 3, .int .i64 4, .int .i64 4, .int .i64 4, .int .i64 4, .int .i64 5, .int .i64 5, .int .i64 5, .int .i64 5] 3)).heap.size = w.heap.size + 1 := by simp
  go_enter Tryz.func26, Tryz.ntmps26
  go_wp2
  generalize w.alloc (.cells #[.int .i64 0, .int .i64 0, .int .i64 0, .int .i64 0, .int .i64 0, .int .i64 0, .int .i64 0, .int .i64 0, .int .i64 1, .int .i64 1, .int .i64 1, .int .i64 1, .int .i64 2, .int .i64 2, .int .i64 2, .int .i64 2, .int .i64 3, .int .i64 3, .int .i64 3, .int .i64 3, .int .i64 4, .int .i64 4, .int .i64 4, .int .i64 4, .int .i64 5, .int .i64 5, .int .i64 5, .int .i64 5] 3) = w0 at *
  go_loopw [0, 2, 9] (fun v0 v2 v9 wr => ∃ k : Nat, k ≤ 28 ∧ v9 = .int .i64 (k : Int) ∧ v2 = .int .i64 (fromS k : Int) ∧ wr.ownsRow (w.heap.size + 1) 71 2 v0 k (pvs (samesL.take k)) ∧ Below (w.heap.size + 1) w0 wr) (fun _ _ v9 _ => 28 - (intOf v9).toNat)
  case atStart => exact ⟨0, by omega, rfl, rfl, World.ownsRow_nil _ _ _ _, Below.refl _ _⟩
  case round =>
    obtain ⟨k, hk, rfl, rfl, hO, hBr⟩ := hrel
    have HO := hide hO
    have HBr := hide hBr
    have hzr := hBr.size
    by_cases hlt : k < 28
    · obtain ⟨h1, h2, h3, h4, h5⟩ := sames_step k hlt
      have c1 : wr.cell? ⟨w.heap.size, k, none⟩ = some (.int .i64 (bitsS.getD k 0)) := by
        rw [hBr.cell (p := ⟨w.heap.size, k, none⟩) (by simp)]
        rcases unhide HR0 with h | ⟨b, o, e, _, h⟩
        · cases h
        · cases e
          have := h k (by simpa [bitsS] using hlt)
          simpa using this
      have H1 := hide h1
      have H2 := hide h2
      clear h1 h2 hO hBr
      generalize bitsS.getD k 0 = bt at *
      obtain ⟨m, rfl⟩ := Int.eq_ofNat_of_zero_le h3
      rw [Int.toNat_natCast] at H1 H2
      generalize fromS k = fk at *
      have HOw := hide ((unhide HO).alloc (.cells #[.int .i64 (fk : Int), .int .i64 (m : Int)] 71))
      have HBw := hide ((unhide HBr).alloc (by omega) (.cells #[.int .i64 (fk : Int), .int .i64 (m : Int)] 71))
      have HCw := hide (two_cells wr (.int .i64 (fk : Int)) (.int .i64 (m : Int)) 71)
      go_wp2_with (at_builtin; refine wpList_append_own_at _ rfl _ _ 65 rfl (w.heap.size + 1) 71 i0 _ 2 16 Tryz.underlying65 hi hz0 hz1 hz2 rfl (by decide) u0 k (pvs (samesL.take k)) rfl (unhide HOw) ⟨wr.heap.size, 0, none⟩ 1 1 [.int .i64 (fk : Int), .int .i64 (m : Int)] rfl rfl (unhide HCw) (by intro u hu; simp at hu; rcases hu with rfl | rfl <;> rfl) (by unfold maxLen; omega) (by omega) (by simp; omega) ?_)
      intro v' w4 hO4 hgrow _ hspot
      have HO4 : Hid (w4.ownsRow (w.heap.size + 1) 71 2 v' (k + 1) (pvs (samesL.take (k + 1)))) := by
        rw [unhide H1, pvs_append]; exact hO4
      have HB4 := hide ((unhide HBw).grown hgrow (by simp; omega) (fun g e => ((unhide HO).lt g e).1))
      clear hO4 hgrow hspot HOw HBw HCw HO HBr c1
      have hm5 : m = 0 ∨ m = 1 ∨ m = 2 ∨ m = 3 ∨ m = 4 ∨ m = 5 := by omega
      rcases hm5 with rfl | rfl | rfl | rfl | rfl | rfl
      all_goals
        go_wp2
        go_roundw
        case rel => exact ⟨k + 1, by omega, by go_num, by rw [unhide H2]; simp, unhide HO4, unhide HB4⟩
        case measure => simp [intOf]; omega
    · obtain rfl : k = 28 := by omega
      have hf28 : fromS 28 = 259 := rfl
      rw [hf28]
      have HOw := hide ((unhide HO).alloc (.cells #[.int .i64 258, .int .i64 0] 71))
      have HBw := hide ((unhide HBr).alloc (by omega) (.cells #[.int .i64 258, .int .i64 0] 71))
      have HCw := hide (two_cells wr (.int .i64 258) (.int .i64 0) 71)
      clear hO hBr hf28
      go_wp2_with (at_builtin; refine wpList_append_own_at _ rfl _ _ 65 rfl (w.heap.size + 1) 71 i0 _ 2 16 Tryz.underlying65 hi hz0 hz1 hz2 rfl (by decide) u0 28 (pvs (samesL.take 28)) rfl (unhide HOw) ⟨wr.heap.size, 0, none⟩ 1 1 [.int .i64 258, .int .i64 0] rfl rfl (unhide HCw) (by intro u hu; simp at hu; rcases hu with rfl | rfl <;> rfl) (by unfold maxLen; omega) (by omega) (by simp; omega) ?_)
      intro v1 w4 hO4 hgrow _ hspot
      obtain ⟨g1, c1, rfl, hg1, hg1'⟩ := own_shape hO4 (by omega)
      have HO4 : Hid (w4.ownsRow (w.heap.size + 1) 71 2 (.slice (some ⟨g1, 0, none⟩) 29 c1) 29 (pvs samesL)) := hO4
      have HB4 := hide ((unhide HB0).trans (((unhide HBw).grown hgrow (by simp; omega) (fun g e => ((unhide HO).lt g e).1)).mono (by omega)))
      have hz4 := hgrow.size
      simp only [World.size_alloc] at hz4
      clear hO4 hgrow hspot HOw HBw HCw HO HBr HR0 HB0
      go_wp2
      go_loopw [1, 2, 28] (fun v1 v2 v28 wr => ∃ k : Nat, k ≤ 30 ∧ v28 = .int .i64 (k : Int) ∧ v2 = .int .i64 (fromF k : Int) ∧ wr.ownsRow w4.heap.size 71 2 v1 k (pvs (farsL.take k)) ∧ Below w4.heap.size w4 wr) (fun _ _ v28 _ => 30 - (intOf v28).toNat)
      case atStart => exact ⟨0, by omega, rfl, rfl, World.ownsRow_nil _ _ _ _, Below.refl _ _⟩
      case round =>
        obtain ⟨k, hk, rfl, rfl, hO, hBr⟩ := hrel
        have HO := hide hO
        have HBr := hide hBr
        have hzr := hBr.size
        by_cases hlt2 : k < 30
        · obtain ⟨h1, h2, h4, h5⟩ := fars_step k hlt2
          have H1 := hide h1
          have H2 := hide h2
          clear h1 h2 hO hBr
          generalize fromF k = fk at *
          obtain ⟨m, hm⟩ : ∃ m, (if k < 4 then 0 else k / 2 - 1) = m := ⟨_, rfl⟩
          rw [hm] at H1 H2 h4
          have hkm : (k < 4 ∧ m = 0) ∨ (4 ≤ k ∧ k / 2 = m + 1) := by
            by_cases c : k < 4
            · rw [if_pos c] at hm; exact .inl ⟨c, hm.symm⟩
            · rw [if_neg c] at hm; exact .inr ⟨by omega, by omega⟩
          clear hm
          rcases hkm with ⟨hk4, rfl⟩ | ⟨hk4, hk2⟩
          · have hq4 : (k : Int) / 4 = 0 := by omega
            have hmn : min (1 : Int) 0 = 0 := by decide
            have HOw := hide (((unhide HO).alloc (.cells #[.int .i64 0, .int .i64 ((k : Int) / 2 - 1)] 3)).alloc (.cells #[.int .i64 (fk : Int), .int .i64 0] 71))
            have HBw := hide (((unhide HBr).alloc (by omega) (.cells #[.int .i64 0, .int .i64 ((k : Int) / 2 - 1)] 3)).alloc (by simp; omega) (.cells #[.int .i64 (fk : Int), .int .i64 0] 71))
            have HCw := hide (two_cells (wr.alloc (.cells #[.int .i64 0, .int .i64 ((k : Int) / 2 - 1)] 3)) (.int .i64 (fk : Int)) (.int .i64 0) 71)
            simp only [World.size_alloc] at HCw
            go_wp2_with (at_builtin; refine wpList_append_own_at _ rfl _ _ 65 rfl w4.heap.size 71 i0 _ 2 16 Tryz.underlying65 hi hz0 hz1 hz2 rfl (by decide) u1 k (pvs (farsL.take k)) rfl (unhide HOw) ⟨wr.heap.size + 1, 0, none⟩ 1 1 [.int .i64 (fk : Int), .int .i64 0] rfl rfl (unhide HCw) (by intro u hu; simp at hu; rcases hu with rfl | rfl <;> rfl) (by unfold maxLen; omega) (by omega) (by simp; omega) ?_)
            intro v' w5 hO5 hgrow _ hspot
            have HO5 : Hid (w5.ownsRow w4.heap.size 71 2 v' (k + 1) (pvs (farsL.take (k + 1)))) := by
              rw [unhide H1, pvs_append]; exact hO5
            have HB5 := hide ((unhide HBw).grown hgrow (by simp; omega) (fun g e => ((unhide HO).lt g e).1))
            clear hO5 hgrow hspot HOw HBw HCw HO HBr
            go_wp2
            go_roundw
            case rel => exact ⟨k + 1, by omega, by go_num, by rw [unhide H2]; simp, unhide HO5, unhide HB5⟩
            case measure => simp [intOf]; omega
          · have hq2 : (k : Int) / 2 - 1 = (m : Int) := by omega
            have hmn : min (1 : Int) ((k : Int) / 4) = 1 := by omega
            have HOw := hide (((unhide HO).alloc (.cells #[.int .i64 0, .int .i64 (m : Int)] 3)).alloc (.cells #[.int .i64 (fk : Int), .int .i64 (m : Int)] 71))
            have HBw := hide (((unhide HBr).alloc (by omega) (.cells #[.int .i64 0, .int .i64 (m : Int)] 3)).alloc (by simp; omega) (.cells #[.int .i64 (fk : Int), .int .i64 (m : Int)] 71))
            have HCw := hide (two_cells (wr.alloc (.cells #[.int .i64 0, .int .i64 (m : Int)] 3)) (.int .i64 (fk : Int)) (.int .i64 (m : Int)) 71)
            simp only [World.size_alloc] at HCw
            go_wp2_with (at_builtin; refine wpList_append_own_at _ rfl _ _ 65 rfl w4.heap.size 71 i0 _ 2 16 Tryz.underlying65 hi hz0 hz1 hz2 rfl (by decide) u1 k (pvs (farsL.take k)) rfl (unhide HOw) ⟨wr.heap.size + 1, 0, none⟩ 1 1 [.int .i64 (fk : Int), .int .i64 (m : Int)] rfl rfl (unhide HCw) (by intro u hu; simp at hu; rcases hu with rfl | rfl <;> rfl) (by unfold maxLen; omega) (by omega) (by simp; omega) ?_)
            intro v' w5 hO5 hgrow _ hspot
            have HO5 : Hid (w5.ownsRow w4.heap.size 71 2 v' (k + 1) (pvs (farsL.take (k + 1)))) := by
              rw [unhide H1, pvs_append]; exact hO5
            have HB5 := hide ((unhide HBw).grown hgrow (by simp; omega) (fun g e => ((unhide HO).lt g e).1))
            clear hO5 hgrow hspot HOw HBw HCw HO HBr
            have hm13 : m = 0 ∨ m = 1 ∨ m = 2 ∨ m = 3 ∨ m = 4 ∨ m = 5 ∨ m = 6 ∨ m = 7 ∨ m = 8 ∨ m = 9 ∨ m = 10 ∨ m = 11 ∨ m = 12 ∨ m = 13 := by omega
            rcases hm13 with rfl | rfl | rfl | rfl | rfl | rfl | rfl | rfl | rfl | rfl | rfl | rfl | rfl | rfl
            all_goals
              go_wp2
              go_roundw
              case rel => exact ⟨k + 1, by omega, by go_num, by rw [unhide H2]; simp, unhide HO5, unhide HB5⟩
              case measure => simp [intOf]; omega
        · obtain rfl : k = 30 := by omega
          have HO30 : Hid (wr.ownsRow w4.heap.size 71 2 u1 30 (pvs farsL)) := hO
          obtain ⟨g2, c2, rfl, hg2, hg2'⟩ := own_shape hO (by omega)
          have P1 := hide ((Prs.own (unhide HO4)).block (hBr.block g1 hg1'))
          have P2 := hide (Prs.own (unhide HO30))
          have HB6 := hide ((unhide HB4).trans (hBr.mono (by omega)))
          clear hO hBr
          go_wp2
          go_ret2
          exact ⟨g1, c1, g2, c2, rfl, by omega, by omega, unhide P1, unhide P2, unhide HB6, by omega, hg2'⟩
end Go.Proofs.YtekgcoajgbpniacGreat
