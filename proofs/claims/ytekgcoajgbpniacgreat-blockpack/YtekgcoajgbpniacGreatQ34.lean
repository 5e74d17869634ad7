/-
  The document's reader, where nothing goes wrong: an error stays. Of bits alone.
-/
import Derived.Test.YtekgcoajgbpniacGreatQ2
import Derived.Test.YtekgcoajgbpniacGreatQ0
import Derived.Shelf.Strings.Builder1
import Derived.Test.YtekgcoajgbpniacGreatQ4
import Derived.Laws.BytesArg
import Derived.Lib.Strings
namespace Go.Proofs.YtekgcoajgbpniacGreat
set_option linter.unusedVariables false
set_option maxRecDepth 100000

theorem uget_e {row : List Bool} {n : Nat} {u : US} (h : (uget row n u).2.e = 0) : u.e = 0 := by
  unfold uget at h
  by_cases e : u.e = 0
  · exact e
  · rw [if_neg e] at h; exact h
theorem uwrong_e {x : Int} {u : US} (hx : x ≠ 0) : (uwrong x u).e ≠ 0 := by
  unfold uwrong
  by_cases e : u.e = 0
  · rw [if_pos e]; exact hx
  · rw [if_neg e]; exact e
theorem uplace_e {l : List Int} {row : List Bool} {u : US} (h : (uplace l row u).2.e = 0) : u.e = 0 := by
  unfold uplace at h
  by_cases e : u.e = 0
  · exact e
  · rw [if_neg e] at h; exact h
theorem usmall_e {row : List Bool} : ∀ {ks : List Nat} {s : List Int} {u : US}, (usmall row ks s u).2.e = 0 → u.e = 0
  | [], s, u, h => h
  | k :: r, s, u, h => by
    rw [usmall] at h
    exact uget_e (usmall_e h)
theorem usmall_len {row : List Bool} : ∀ {ks : List Nat} {s : List Int} {u : US}, (usmall row ks s u).1.length = s.length
  | [], s, u => rfl
  | k :: r, s, u => by rw [usmall, usmall_len, List.length_set]
/-- one round of lengths, where all goes well -/
structure Round (row : List Bool) (small : List Int) (tot : Nat) (l : List Int) (u : US) : Prop where
  pe : (uplace small row u).2.e = 0
  ke : (ukind row l (uplace small row u).1 (uplace small row u).2).2.2.e = 0
  le : l.length + (ukind row l (uplace small row u).1 (uplace small row u).2).2.1 ≤ tot
  st : ustep row small tot l u = (l ++ List.replicate (ukind row l (uplace small row u).1 (uplace small row u).2).2.1 (ukind row l (uplace small row u).1 (uplace small row u).2).1, (ukind row l (uplace small row u).1 (uplace small row u).2).2.2)
theorem ukind_e {row : List Bool} {l : List Int} {k : Nat} {u : US} (h : (ukind row l k u).2.2.e = 0) : u.e = 0 := by
  unfold ukind at h
  split at h
  · split at h
    · exact absurd h (uwrong_e (by decide))
    · exact uget_e h
  · split at h
    · exact uget_e h
    · split at h
      · exact uget_e h
      · exact h
theorem ulens_stop {row : List Bool} {small : List Int} {tot F : Nat} {l : List Int} {u : US} (h : u.e ≠ 0) : ulens row small tot F l u = (l, u) := by
  cases F with
  | zero => rfl
  | succ F => rw [ulens, if_neg (fun h2 => h h2.2)]
theorem ulens_round {row : List Bool} {small : List Int} {tot F : Nat} {l : List Int} {u : US} (hl : l.length < tot) (he : u.e = 0) (hF : (ulens row small tot (F + 1) l u).2.e = 0) : Round row small tot l u ∧ ulens row small tot (F + 1) l u = ulens row small tot F (ustep row small tot l u).1 (ustep row small tot l u).2 := by
  have e1 : ulens row small tot (F + 1) l u = ulens row small tot F (ustep row small tot l u).1 (ustep row small tot l u).2 := by rw [ulens, if_pos ⟨hl, he⟩]
  have e2 : (ustep row small tot l u).2.e = 0 := by
    by_cases e : (ustep row small tot l u).2.e = 0
    · exact e
    · rw [e1, ulens_stop e] at hF; exact absurd hF e
  refine ⟨?_, e1⟩
  unfold ustep umore at e2
  simp only at e2
  by_cases hc : (ukind row l (uplace small row u).1 (uplace small row u).2).2.2.e = 0 ∧ tot < l.length + (ukind row l (uplace small row u).1 (uplace small row u).2).2.1
  · rw [if_pos hc] at e2
    exact absurd e2 (uwrong_e (by decide))
  · rw [if_neg hc] at e2
    refine ⟨ukind_e e2, e2, by omega, ?_⟩
    unfold ustep umore
    rw [if_neg hc]
theorem ulens_len {row : List Bool} {small : List Int} {tot : Nat} : ∀ (F : Nat) (l : List Int) (u : US), tot ≤ l.length + F → l.length ≤ tot → u.e = 0 → (ulens row small tot F l u).2.e = 0 → (∀ l u, Round row small tot l u → 1 ≤ (ukind row l (uplace small row u).1 (uplace small row u).2).2.1) → (ulens row small tot F l u).1.length = tot
  | 0, l, u, h1, h2, he, hF, hp => by rw [ulens]; simp only; omega
  | F + 1, l, u, h1, h2, he, hF, hp => by
    by_cases hl : l.length < tot
    · obtain ⟨r, e⟩ := ulens_round hl he hF
      have h3 := hp l u r
      have h4 := r.le
      rw [e] at hF ⊢
      rw [r.st] at hF ⊢
      exact ulens_len F _ _ (by simp; omega) (by simp; omega) r.ke hF hp
    · rw [ulens, if_neg (fun h => hl h.1)]
      simp only
      omega
theorem ulow (row : List Bool) (n : Nat) (u : US) : (uget row n u).1 < 2 ^ n := by
  unfold uget
  split
  · split
    · exact Nat.two_pow_pos n
    · refine Nat.lt_of_lt_of_le (numOf_lt _) (Nat.pow_le_pow_right (by decide) ?_)
      rw [List.length_take]
      exact Nat.min_le_left _ _
  · exact Nat.two_pow_pos n
theorem ukind_pos (row : List Bool) (l : List Int) (k : Nat) (u : US) : 1 ≤ (ukind row l k u).2.1 ∧ (ukind row l k u).2.1 ≤ 138 := by
  have h2 : (uget row 2 u).1 < 2 ^ 2 := ulow row 2 u
  have h3 : (uget row 3 u).1 < 2 ^ 3 := ulow row 3 u
  have h7 : (uget row 7 u).1 < 2 ^ 7 := ulow row 7 u
  unfold ukind
  split
  · split
    · exact ⟨Nat.le_refl _, by simp⟩
    · simp only; omega
  · split
    · simp only; omega
    · split
      · simp only; omega
      · exact ⟨Nat.le_refl _, by simp⟩
end Go.Proofs.YtekgcoajgbpniacGreat

/-
  The document's reader: lengths that are told without an error, of bits alone.
-/
namespace Go.Proofs.YtekgcoajgbpniacGreat
set_option linter.unusedVariables false
set_option maxRecDepth 100000

/-- lengths that are told without an error -/
structure Told (row : List Bool) (u : US) (m0 n0 c0 : Nat) (u1 u2 u3 us : US) (S L A C : List Int) (v : US) : Prop where
  g1 : uget row 5 u = (m0, u1)
  g2 : uget row 5 u1 = (n0, u2)
  g3 : uget row 4 u2 = (c0, u3)
  e3 : u3.e = 0
  hm : m0 + 257 ≤ 286
  hn : n0 + 1 ≤ 30
  sm : usmall row (ord19.take (c0 + 4)) (List.replicate 19 0) u3 = (S, us)
  es : us.e = 0
  cs : errL S = 0
  ln : ulens row S (m0 + 257 + (n0 + 1)) (m0 + 257 + (n0 + 1)) [] us = (L, v)
  ev : v.e = 0
  l256 : L.getD 256 0 ≠ 0
  ca : errL (L.take (m0 + 257)) = 0
  cc : errL (L.drop (m0 + 257)) = 0
  ea : A = L.take (m0 + 257)
  ec : C = L.drop (m0 + 257)
  len : L.length = m0 + 257 + (n0 + 1)
theorem utold_good {row : List Bool} {u v : US} {A C : List Int} (h : utold row u = ((A, C), v)) (hv : v.e = 0) : ∃ m0 n0 c0 u1 u2 u3 us S L, Told row u m0 n0 c0 u1 u2 u3 us S L A C v := by
  obtain ⟨m0, u1, e1⟩ : ∃ m0 u1, uget row 5 u = (m0, u1) := ⟨_, _, rfl⟩
  obtain ⟨n0, u2, e2⟩ : ∃ n0 u2, uget row 5 u1 = (n0, u2) := ⟨_, _, rfl⟩
  obtain ⟨c0, u3, e3⟩ : ∃ c0 u3, uget row 4 u2 = (c0, u3) := ⟨_, _, rfl⟩
  have h1 : utoldL row (m0 + 257) (n0 + 1) (utoldS row (m0 + 257) (n0 + 1) (c0 + 4) u3) = ((A, C), v) := by
    unfold utold at h
    simp only [e1, e2, e3] at h
    exact h
  obtain ⟨S, us, hs⟩ : ∃ S us, utoldS row (m0 + 257) (n0 + 1) (c0 + 4) u3 = (S, us) := ⟨_, _, rfl⟩
  rw [hs] at h1
  unfold utoldL at h1
  by_cases hc : (uchk (S, us)).e ≠ 0
  · rw [if_pos hc] at h1
    have : uchk (S, us) = v := (Prod.mk.inj h1).2
    rw [this] at hc
    exact absurd hv hc
  · rw [if_neg hc] at h1
    have hc0 : (uchk (S, us)).e = 0 := by omega
    have hes : us.e = 0 ∧ errL S = 0 := by
      unfold uchk at hc0
      simp only at hc0
      by_cases hx : us.e = 0 ∧ errL S ≠ 0
      · rw [if_pos hx] at hc0
        exact absurd hc0 (uwrong_e (by decide))
      · rw [if_neg hx] at hc0
        refine ⟨hc0, ?_⟩
        by_cases h5 : errL S = 0
        · exact h5
        · exact absurd ⟨hc0, h5⟩ hx
    have hck : uchk (S, us) = us := by
      unfold uchk
      rw [if_neg]
      rintro ⟨_, h6⟩
      exact h6 hes.2
    rw [hck] at h1
    simp only at h1
    obtain ⟨L, ul, hl⟩ : ∃ L ul, ulens row S (m0 + 257 + (n0 + 1)) (m0 + 257 + (n0 + 1)) [] us = (L, ul) := ⟨_, _, rfl⟩
    rw [hl] at h1
    unfold utoldE at h1
    simp only at h1
    by_cases hu : ul.e ≠ 0
    · rw [if_pos hu] at h1
      have : ul = v := (Prod.mk.inj h1).2
      rw [this] at hu
      exact absurd hv hu
    · rw [if_neg hu] at h1
      have hu0 : ul.e = 0 := by omega
      by_cases hb : L.getD 256 0 = 0 ∨ errL (L.take (m0 + 257)) ≠ 0 ∨ errL (L.drop (m0 + 257)) ≠ 0
      · rw [if_pos hb] at h1
        have : uwrong 8 ul = v := (Prod.mk.inj h1).2
        rw [← this] at hv
        exact absurd hv (uwrong_e (by decide))
      · rw [if_neg hb] at h1
        have ha := (Prod.mk.inj h1).1
        have hev : ul = v := (Prod.mk.inj h1).2
        subst hev
        have hmn : ¬ (286 < m0 + 257 ∨ 30 < n0 + 1) := by
          intro hx
          have he := hs
          unfold utoldS at he
          rw [if_pos hx] at he
          have := congrArg (fun z => z.2.e) he
          simp only at this
          rw [hes.1] at this
          exact uwrong_e (by decide) (usmall_e this)
        have hsm : usmall row (ord19.take (c0 + 4)) (List.replicate 19 0) u3 = (S, us) := by
          unfold utoldS at hs
          rw [if_neg hmn] at hs
          exact hs
        have he3 : u3.e = 0 := by
          have := congrArg (fun z => z.2.e) hsm
          simp only at this
          rw [hes.1] at this
          exact usmall_e this
        have hlen : L.length = m0 + 257 + (n0 + 1) := by
          have := ulens_len (row := row) (small := S) (tot := m0 + 257 + (n0 + 1)) (m0 + 257 + (n0 + 1)) [] us (by simp) (by simp) hes.1 (by rw [hl]; exact hu0) (fun l u _ => (ukind_pos row l _ _).1)
          rw [hl] at this
          exact this
        refine ⟨m0, n0, c0, u1, u2, u3, us, S, L, ⟨e1, e2, e3, he3, by omega, by omega, hsm, hes.1, hes.2, hl, hu0, ?_, ?_, ?_, (Prod.mk.inj ha).1.symm, (Prod.mk.inj ha).2.symm, hlen⟩⟩
        · intro h9; exact hb (.inl h9)
        · by_cases h9 : errL (L.take (m0 + 257)) = 0
          · exact h9
          · exact absurd (.inr (.inl h9)) hb
        · by_cases h9 : errL (L.drop (m0 + 257)) = 0
          · exact h9
          · exact absurd (.inr (.inr h9)) hb
end Go.Proofs.YtekgcoajgbpniacGreat

/-
  A strings.Builder that the call has made itself: what WriteByte, WriteString and String do to it.
-/
namespace Go.Proofs.YtekgcoajgbpniacGreat
open Go.RowKit
set_option linter.unusedVariables false
set_option maxRecDepth 100000

theorem infoB : (Tryz.prog.info? 55).map (·.size) = some 2 := by kernel_rfl
theorem liesB : liesAt Tryz.prog Tryz.prog.depth 55 (2 / Tryz.prog.cellsOf 55) 0 55 1 = true := by kernel_rfl
theorem info_byte : (Tryz.prog.info? 5).map (fun i => (i.zero, i.size, i.bytes)) = some (some (.int .u8 0), 1, 1) := by kernel_rfl

/-- the builder in block b holds the bytes bs; all it has lies from block b on -/
def IsB (w : World) (b : Nat) (bs : List Value) : Prop := Lib.IsBuilder 55 5 b b bs w

set_option maxRecDepth 100000 in
theorem copyCheck_used (b : Nat) (w : World) (h0 : w.cell? ⟨b, 0, none⟩ = some (.pointer (some ⟨b, 0, none⟩))) :
    Calls Tryz.prog 40 #[.pointer (some ⟨b, 0, none⟩)] w fun e w' => e = .returned (.tuple #[]) ∧ w' = w := by
  obtain ⟨j, hj, _⟩ := Option.map_eq_some_iff.1 infoB
  have hne := fun w => Lib.run_neq_ptr_same (P := Tryz.prog) w ⟨b, 0, none⟩ Tryz.underlying53 hj
  go_enter Tryz.func40, Tryz.ntmps40
  go_wp2
  go_end0
  exact ⟨rfl, rfl⟩

set_option maxRecDepth 100000 in
theorem copyCheck_fresh (b : Nat) (w : World) (h0 : w.cell? ⟨b, 0, none⟩ = some (.pointer none)) (hsh : w.shape? b = some (55, 2)) (hfz : w.frozen? ⟨b, 0, none⟩ = false) :
    Calls Tryz.prog 40 #[.pointer (some ⟨b, 0, none⟩)] w fun e w' => e = .returned (.tuple #[]) ∧ w' = w.setCell ⟨b, 0, none⟩ (.pointer (some ⟨b, 0, none⟩)) := by
  obtain ⟨j, hj, hjs⟩ := Option.map_eq_some_iff.1 infoB
  have hne := fun w => Lib.run_neq_ptr_same (P := Tryz.prog) w ⟨b, 0, none⟩ Tryz.underlying53 hj
  have hto := Lib.run_to_unsafe (P := Tryz.prog) w ⟨b, 0, none⟩ Tryz.underlying53 Tryz.underlying116 hj (by rw [hjs]; decide) hsh (Nat.zero_lt_succ 1)
  have hfrom := Lib.run_from_unsafe (P := Tryz.prog) w ⟨b, 0, none⟩ Tryz.underlying116 Tryz.underlying53 hj hsh liesB
  go_enter Tryz.func40, Tryz.ntmps40
  go_wp2
  rw [run_callFunc_extern Tryz.func54 (by kernel_rfl) (by kernel_rfl) (by kernel_rfl) (e := Extern.AbiNoEscape.same) (by kernel_rfl)]
  rw [Lib.run_noEscape]
  simp only [Result.andThen]
  rw [Oper.upon_value]
  go_wp2
  go_end0
  exact ⟨rfl, rfl⟩

theorem copyCheck_any (b : Nat) (bs : List Value) (w : World) (h : IsB w b bs) :
    Calls Tryz.prog 40 #[.pointer (some ⟨b, 0, none⟩)] w fun e w' => e = .returned (.tuple #[]) ∧ Lib.BuilderAt 55 5 b b (.pointer (some ⟨b, 0, none⟩)) bs w' ∧ Below b w w' := by
  rcases h with h | h
  · refine (copyCheck_fresh b w h.cell0 h.shape h.frozen0).mono ?_
    rintro e w' ⟨rfl, rfl⟩
    exact ⟨rfl, h.used _, (Below.refl b w).setCell (p := ⟨b, 0, none⟩) (Nat.le_refl _) _⟩
  · refine (copyCheck_used b w h.cell0).mono ?_
    rintro e w' ⟨rfl, rfl⟩
    exact ⟨rfl, h, Below.refl b _⟩

set_option maxHeartbeats 1000000 in
theorem writeByte_any (b : Nat) (bs : List Value) (c : Int) (w : World) (h : IsB w b bs) (hlen : bs.length ≤ 1000000) :
    Calls Tryz.prog 19 #[.pointer (some ⟨b, 0, none⟩), .int .u8 c] w fun e w' => e = .returned .nilIface ∧ IsB w' b (bs ++ [.int .u8 c]) ∧ Below b w w' := by
  obtain ⟨i0, hi, hz0, hz1, hz2⟩ := info_parts info_byte
  go_enter Tryz.func19, Tryz.ntmps19
  go_wp2_with fail
  refine (copyCheck_any b bs _ h).mono ?_
  rintro e w1 ⟨rfl, h1, hb1⟩
  have hlt := h1.lt
  obtain ⟨hB, v, hbk, hown, hne⟩ := h1
  have c0 : w1.cell? ⟨b, 0, none⟩ = some (.pointer (some ⟨b, 0, none⟩)) := by rw [Lib.cell_of_heap hbk]; rfl
  have c1 : w1.cell? ⟨b, 1, none⟩ = some v := by rw [Lib.cell_of_heap hbk]; rfl
  have HO := hide hown
  have HB := hide hb1
  have HK := hide hbk
  have HN := hide hne
  clear hown hb1 hbk hne
  go_wp2_with (at_builtin; refine wpList_append_own _ rfl _ _ 24 rfl b 5 i0 (.int .u8 0) 1 1 Tryz.underlying24 hi hz0 hz1 hz2 rfl (by decide) _ _ _ rfl ((unhide HO).alloc _) ⟨w1.heap.size, 0, none⟩ 1 1 [.int .u8 c] rfl rfl (by intro j u hj; match j, hj with | 0, hj => simp at hj; subst hj; simp [Addr.add]) (by intro u hu; simp at hu; subst hu; rfl) (by unfold maxLen; omega) (by omega) (by simp; omega) ?_)
  intro v' w2 hown' hgrow _
  have hb2 : w2.heap[b]? = some (.cells #[.pointer (some ⟨b, 0, none⟩), v] 55 (0, 0)) := by
    rw [hgrow.block b (by simp; omega) (fun e => (unhide HN) e.symm), Lib.alloc_old w1 _ b hlt]
    exact unhide HK
  have d0 : w2.cell? ⟨b, 0, none⟩ = some (.pointer (some ⟨b, 0, none⟩)) := by rw [Lib.cell_of_heap hb2]; rfl
  have d1 : w2.cell? ⟨b, 1, none⟩ = some v := by rw [Lib.cell_of_heap hb2]; rfl
  have f1 : w2.frozen? ⟨b, 1, none⟩ = false := Lib.frozen_of_heap hb2 1
  have HO2 := hide hown'
  have HG := hide hgrow
  have HK2 := hide hb2
  obtain ⟨g, cap, rfl⟩ : ∃ g cap, v' = .slice (some ⟨g, 0, none⟩) (bs.length + 1) cap := by
    rcases hown'.2 with ⟨_, h0⟩ | ⟨g, cap, cur, hv, _⟩
    · omega
    · exact ⟨g, cap, hv⟩
  clear hown' hgrow hb2
  go_wp2
  go_ret
  refine ⟨rfl, .inr ?_, ?_⟩
  · exact Lib.BuilderAt.put (T := 55) (e := 5) hB (unhide HK2) (bs' := bs ++ [.int .u8 c]) (by simpa using unhide HO2) (by decide)
  · exact (((unhide HB).alloc (by omega) _).grown (unhide HG) (by simp; omega) (fun k hk => ((unhide HO).lt k hk).1)).setCell (p := ⟨b, 1, none⟩) (Nat.le_refl _) _

set_option maxHeartbeats 1000000 in
theorem writeString_any (b : Nat) (bs : List Value) (s : ByteArray) (w : World) (h : IsB w b bs) (hlen : bs.length ≤ 1000000) (hs : s.size ≤ 1000000) :
    Calls Tryz.prog 85 #[.pointer (some ⟨b, 0, none⟩), .string s] w fun e w' => e = .returned (.tuple #[.int .i64 s.size, .nilIface]) ∧ IsB w' b (bs ++ Lib.strCells s) ∧ Below b w w' := by
  obtain ⟨i0, hi, hz0, hz1, hz2⟩ := info_parts info_byte
  go_enter Tryz.func85, Tryz.ntmps85
  go_wp2_with fail
  refine (copyCheck_any b bs _ h).mono ?_
  rintro e w1 ⟨rfl, h1, hb1⟩
  have hlt := h1.lt
  obtain ⟨hB, v, hbk, hown, hne⟩ := h1
  have c0 : w1.cell? ⟨b, 0, none⟩ = some (.pointer (some ⟨b, 0, none⟩)) := by rw [Lib.cell_of_heap hbk]; rfl
  have c1 : w1.cell? ⟨b, 1, none⟩ = some v := by rw [Lib.cell_of_heap hbk]; rfl
  have HO := hide hown
  have HB := hide hb1
  have HK := hide hbk
  have HN := hide hne
  clear hown hb1 hbk hne
  go_wp2_with (at_builtin; refine Lib.wpList_append_own_string _ rfl _ _ 24 9 rfl b 5 i0 Tryz.underlying24 Tryz.underlying9 hi hz0 hz1 hz2 _ _ _ rfl (unhide HO) s rfl (by unfold maxLen; omega) (by omega) (by omega) ?_)
  intro v' w2 hown' hgrow _
  have hb2 : w2.heap[b]? = some (.cells #[.pointer (some ⟨b, 0, none⟩), v] 55 (0, 0)) := by
    rw [hgrow.block b hlt (fun e => (unhide HN) e.symm)]
    exact unhide HK
  have d0 : w2.cell? ⟨b, 0, none⟩ = some (.pointer (some ⟨b, 0, none⟩)) := by rw [Lib.cell_of_heap hb2]; rfl
  have d1 : w2.cell? ⟨b, 1, none⟩ = some v := by rw [Lib.cell_of_heap hb2]; rfl
  have f1 : w2.frozen? ⟨b, 1, none⟩ = false := Lib.frozen_of_heap hb2 1
  have HO2 := hide hown'
  have HG := hide hgrow
  have HK2 := hide hb2
  obtain ⟨ao, n', cap, rfl⟩ : ∃ ao n' cap, v' = .slice ao n' cap := by
    rcases hown'.2 with ⟨hv, _⟩ | ⟨g, cap, cur, hv, _⟩
    · exact ⟨_, _, _, hv⟩
    · exact ⟨_, _, _, hv⟩
  clear hown' hgrow hb2
  go_wp2
  go_ret2
  refine ⟨rfl, .inr ?_, ?_⟩
  · exact Lib.BuilderAt.put (T := 55) (e := 5) hB (unhide HK2) (bs' := bs ++ Lib.strCells s) (by simpa [Lib.strCells_length] using unhide HO2) (by decide)
  · exact ((unhide HB).grown (unhide HG) (by omega) (fun k hk => ((unhide HO).lt k hk).1)).setCell (p := ⟨b, 1, none⟩) (Nat.le_refl _) _
end Go.Proofs.YtekgcoajgbpniacGreat

/-
  Texts of noughts and ones; what a strings.Builder's String answers.
-/
namespace Go.Proofs.YtekgcoajgbpniacGreat
open Go.RowKit
set_option linter.unusedVariables false
set_option maxRecDepth 100000

def strRen : Go.Shelf.Ren := ⟨fun | 169 => 20 | n => n, fun | 70 => 53 | 9 => 9 | 0 => 0 | 72 => 55 | 37 => 24 | 127 => 93 | 3 => 3 | 5 => 5 | n => n, fun | n => n⟩
theorem strLays : Go.Proofs.Lays.n169 Tryz.prog strRen := {
  mixed := by kernel_rfl
  f169 := Tryz.func20.trans (congrArg some (by kernel_rfl))
  t0 := Tryz.underlying0
  a0 := Tryz.isAgg0
  z0 := Tryz.sizeOf0
  v0 := Tryz.zeroValue0
  t3 := Tryz.underlying3
  a3 := Tryz.isAgg3
  z3 := Tryz.sizeOf3
  v3 := Tryz.zeroValue3
  t9 := Tryz.underlying9
  a9 := Tryz.isAgg9
  z9 := Tryz.sizeOf9
  v9 := Tryz.zeroValue9
  t37 := Tryz.underlying24
  a37 := Tryz.isAgg24
  z37 := Tryz.sizeOf24
  v37 := Tryz.zeroValue24
  t70 := Tryz.underlying53
  a70 := Tryz.isAgg53
  z70 := Tryz.sizeOf53
  v70 := Tryz.zeroValue53
  t72 := Tryz.underlying55
  a72 := Tryz.isAgg55
  z72 := Tryz.sizeOf55
  v72 := Tryz.zeroValue55
  t127 := Tryz.underlying93
  a127 := Tryz.isAgg93
  z127 := Tryz.sizeOf93
  v127 := Tryz.zeroValue93 }
theorem strExtra : Go.Proofs.Builder.Extra Tryz.prog strRen := {
  sizeBuilder := by kernel_rfl
  liesBuilder := by kernel_rfl
  t5 := Tryz.underlying5
  a5 := Tryz.isAgg5
  z5 := Tryz.sizeOf5
  v5 := Tryz.zeroValue5
  infoByte := by kernel_rfl
  cellsByte := by kernel_rfl
  sizeByte := by kernel_rfl
  neB5 := by decide }
theorem string_any (b : Nat) (l : List UInt8) (w : World) (h : IsB w b (Lib.byteCells l)) (hb : b ≤ w.heap.size) :
    Calls Tryz.prog 20 #[.pointer (some ⟨b, 0, none⟩)] w fun e w' => e = .returned (.string ⟨l.toArray⟩) ∧ Below b w w' :=
  Go.Proofs.Any.Builder_String_any strLays strExtra b b l w h hb

/-- bits as noughts and ones -/
def chr (b : Bool) : UInt8 := if b then 49 else 48
def text (l : List Bool) : ByteArray := ⟨(l.map chr).toArray⟩
theorem text_size (l : List Bool) : (text l).size = l.length := by simp [text, ByteArray.size]

theorem text_append (a b : List Bool) : (text a).append (text b) = text (a ++ b) := by
  simp [text, ByteArray.append]
theorem text_at (l : List Bool) (j : Nat) (hj : j < l.length) (h : j < (text l).size) : ((text l)[j]'h).toNat = 48 + if l[j] then 1 else 0 := by
  have e : (text l)[j]'h = chr l[j] := by
    show (text l).data[j]'h = _
    simp [text]
  rw [e]
  cases l[j] <;> rfl
theorem below_grown {w w' : World} (h : Below w.heap.size w w') : w.grownBy w' none := ⟨h.os, h.tape, h.output, h.size, fun k hk _ => h.block k hk⟩
theorem own_below {w w' : World} {B e size n : Nat} {v : Value} {xs : List Value} (h : w.ownsRow B e size v n xs) (hg : Below w.heap.size w w') : w'.ownsRow B e size v n xs :=
  h.kept (below_grown hg) (by cases hv : v.ownBlock with
    | none => exact .inl rfl
    | some k => exact .inr (by simp))
theorem IsB.below {w w' : World} {b : Nat} {bs : List Value} (h : IsB w b bs) (hg : Below w.heap.size w w') : IsB w' b bs := by
  rcases h with h | h
  · obtain ⟨h1, v, h2, h3, h4⟩ := h
    have hb : b < w.heap.size := by
      rcases Nat.lt_or_ge b w.heap.size with h' | h'
      · exact h'
      · simp [Array.getElem?_eq_none h'] at h2
    exact .inl ⟨h1, v, by rw [hg.block b hb]; exact h2, own_below h3 hg, h4⟩
  · obtain ⟨h1, v, h2, h3, h4⟩ := h
    have hb : b < w.heap.size := by
      rcases Nat.lt_or_ge b w.heap.size with h' | h'
      · exact h'
      · simp [Array.getElem?_eq_none h'] at h2
    exact .inr ⟨h1, v, by rw [hg.block b hb]; exact h2, own_below h3 hg, h4⟩
theorem IsB.alloc {w : World} {b : Nat} {bs : List Value} (h : IsB w b bs) (o : Obj) : IsB (w.alloc o) b bs := h.below ((Below.refl _ _).alloc (Nat.le_refl _) o)
theorem IsB.drewN {w : World} {b : Nat} {bs : List Value} (h : IsB w b bs) (n : Nat) : IsB (w.drewN n) b bs := h.below (below_drewN (Below.refl _ _) n)
theorem IsB.new (w : World) : IsB (w.alloc (.cells #[.pointer none, .slice none 0 0] 55)) w.heap.size [] :=
  .inl ⟨Nat.le_refl _, .slice none 0 0, heap_alloc_new w _, World.ownsRow_nil _ _ _ _, by simp [Value.ownBlock]⟩

theorem cells_text (l r : List Bool) : Lib.byteCells (l.map chr) ++ Lib.strCells (text r) = Lib.byteCells ((l ++ r).map chr) := by
  rw [List.map_append, Lib.byteCells_append]; rfl

end Go.Proofs.YtekgcoajgbpniacGreat

/-
  What the document's own OfNumber answers.
-/
namespace Go.Proofs.YtekgcoajgbpniacGreat
open Go.RowKit
set_option linter.unusedVariables false
set_option maxRecDepth 100000

theorem drop_step (l : List Bool) (j : Nat) (hj : j < l.length) : numOf (l.drop j) = (if l[j] then 1 else 0) + 2 * numOf (l.drop (j + 1)) := by
  rw [List.drop_eq_getElem_cons hj, numOf]
theorem digit_step (m x : Nat) (b : Bool) (hm : m < 65536) (hx : x = 48 + if b then 1 else 0) : 2 * (m : Int) + ((x : Int) - 48) % 256 = (((if b then 1 else 0) + 2 * m : Nat) : Int) := by
  subst hx
  cases b <;> simp <;> omega

set_option maxHeartbeats 1000000 in
theorem ofNumber_any (l : List Bool) (w : World) (hl : l.length ≤ 16) :
    Calls Tryz.prog 41 #[.string (text l)] w fun e w' => e = .returned (.int .i64 (numOf l : Nat)) ∧ w' = w := by
  have hsz := text_size l
  have HTA := hide (text_at l)
  have hD := hide (drop_step l)
  have HLT := hide (fun j => numOf_lt16 (l := l.drop j) (by rw [List.length_drop]; omega))
  have HN : Hid (numOf l = numOf (l.drop 0)) := rfl
  have HE : Hid (0 = numOf (l.drop l.length)) := by rw [List.drop_length]; exact rfl
  go_enter Tryz.func41, Tryz.ntmps41
  go_wp2
  go_loop [3, 4] (fun vn vi => ∃ j m : Nat, j ≤ l.length ∧ vi = .int .i64 ((j : Int) - 1) ∧ vn = .int .i64 m ∧ m = numOf (l.drop j)) (fun _ i => (intOf i + 1).toNat)
  case atStart => exact ⟨l.length, 0, Nat.le_refl _, rfl, rfl, unhide HE⟩
  case round =>
    obtain ⟨j, m, hj, rfl, rfl, hm⟩ := hrel
    have HM := hide hm
    have hmlt : m < 65536 := by rw [hm]; exact unhide HLT j
    clear hm
    by_cases hlt : 0 < j
    · have hlt2 : j - 1 < l.length := by omega
      go_wp2
      go_round
      case rel =>
        refine ⟨j - 1, numOf (l.drop (j - 1)), by omega, by go_num, ?_, rfl⟩
        have e := unhide hD (j - 1) hlt2
        rw [show j - 1 + 1 = j by omega, ← unhide HM] at e
        rw [e]
        exact congrArg (Value.int .i64) (digit_step m _ _ hmlt (unhide HTA (j - 1) hlt2 _))
      case measure => simp [intOf]; omega
    · obtain rfl : j = 0 := by omega
      go_wp2
      go_ret
      exact ⟨ret_int (by rw [unhide HN, unhide HM]), rfl⟩
end Go.Proofs.YtekgcoajgbpniacGreat
