/-
  Package inflate: the map of a decoder, codes by how many bits they have and which.
-/
import Derived.Test.YtfoaaamcpknjnahKeep
import Derived.Test.YtfoaaamcpknjnahUnp6
import Derived.Test.YtfoaaamcpknjnahUnpP
import Derived.Maps.Own
import Derived.Maps.OwnSet
import Derived.WideKeyPair
namespace Go.Proofs.Ytfoaaamcpknjnah
open Go.RowKit Go.Maps Go.WideMaps Go.ChangeShapes
set_option linter.unusedVariables false
set_option maxRecDepth 100000

theorem arrW : ArrKey Try.prog 140 3 2 := ⟨Try.underlying140, by kernel_rfl, by kernel_rfl, by kernel_rfl⟩
theorem lawW : Keyed Try.prog 140 := Keyed.of_law arrW.law
theorem typesW : ∃ m, Try.prog.types.size = m + 1 := ⟨Try.prog.types.size - 1, by have : 0 < Try.prog.types.size := of_decide_eq_true (by kernel_rfl); omega⟩
def kw (c : Nat × Nat) : Value := .agg #[.int .i64 (c.1 : Int), .int .i64 (c.2 : Int)]
def kwl (c : Nat × Nat) : Lit := .string (keyBytes [.int .i64 (c.1 : Int), .int .i64 (c.2 : Int)])
def OkW (c : Nat × Nat) : Prop := c.1 < 65536 ∧ c.2 < 65536
theorem wf_small {x : Nat} (h : x < 65536) : (Lit.int .i64 (x : Int)).wf = true := by
  simp [Lit.wf, IntKind.min, IntKind.max, IntKind.signed, IntKind.bits]; omega
theorem keyOf_kw {c : Nat × Nat} (h : OkW c) : keyOf Try.prog 140 (kw c) = some (kwl c) := by
  have A := arrW
  have hkt := A.keyType typesW
  obtain ⟨m, hm⟩ := typesW
  have he : Try.prog.underlying 3 = some (.int .i64) := Try.underlying3
  have w1 := wf_small h.1
  have w2 := wf_small h.2
  unfold keyOf kw kwl
  simp only [A.hu]
  rw [if_pos (by simp [hkt, Value.formed, A.hu, A.size]), hm]
  unfold Program.keyLits
  simp only [A.hu, Value.cells]
  rw [if_pos (by rw [A.size]; rfl), show List.range 2 = [0, 1] from rfl, List.mapM_cons, List.mapM_cons, List.mapM_nil]
  simp [A.one, Program.keyLits, he, w1, w2]
theorem kwl_inj {c d : Nat × Nat} (hc : OkW c) (hd : OkW d) (h : kwl c = kwl d) : c = d := by
  have := lawW.inj (keyOf_kw hc) (by rw [h]; exact keyOf_kw hd)
  obtain ⟨c1, c2⟩ := c
  obtain ⟨d1, d2⟩ := d
  simp [kw] at this
  simp only [Prod.mk.injEq]
  omega
/-- bits as a number, the first one highest -/
def vH : List Bool → Nat
  | [] => 0
  | b :: r => (if b then 2 ^ r.length else 0) + vH r
theorem vH_lt : ∀ s, vH s < 2 ^ s.length
  | [] => by simp [vH]
  | b :: r => by
    have := vH_lt r
    rw [vH, List.length_cons, Nat.pow_succ]
    split <;> omega
theorem vH_snoc : ∀ (s : List Bool) (b : Bool), vH (s ++ [b]) = 2 * vH s + (if b then 1 else 0)
  | [], b => by cases b <;> rfl
  | x :: r, b => by
    rw [List.cons_append, vH, vH_snoc r b, vH, List.length_append]
    simp only [List.length_cons, List.length_nil, Nat.zero_add, Nat.pow_succ]
    cases x <;> simp <;> omega
theorem vH_inj : ∀ {s t : List Bool}, s.length = t.length → vH s = vH t → s = t
  | [], [], _, _ => rfl
  | [], _ :: _, h, _ => by simp at h
  | _ :: _, [], h, _ => by simp at h
  | a :: s, b :: t, h, e => by
    have hl : s.length = t.length := by simpa using h
    have h1 := vH_lt s
    have h2 := vH_lt t
    rw [vH, vH, hl] at e
    rw [hl] at h1
    cases a <;> cases b <;> simp at e
    · rw [vH_inj hl e]
    · omega
    · omega
    · rw [vH_inj hl e]
theorem vH_hb : ∀ n c, c < 2 ^ n → vH (hb c n) = c
  | 0, c, h => by simp at h; subst h; rfl
  | n + 1, c, h => by
    rw [hb, vH_snoc, vH_hb n (c / 2) (by rw [Nat.pow_succ] at h; omega)]
    have := Nat.mod_two_eq_zero_or_one c
    rcases this with e | e <;> simp [e] <;> omega
def kb (s : List Bool) : Lit := kwl (s.length, vH s)
theorem okb {s : List Bool} (h : s.length ≤ 15) : OkW (s.length, vH s) := by
  have h1 := vH_lt s
  have h2 : 2 ^ s.length ≤ 2 ^ 15 := Nat.pow_le_pow_right (by decide) h
  exact ⟨by simp only; omega, by simp only; omega⟩
theorem kb_inj {s t : List Bool} (hs : s.length ≤ 15) (ht : t.length ≤ 15) (h : kb s = kb t) : s = t := by
  have := kwl_inj (okb hs) (okb ht) h
  exact vH_inj (Prod.mk.inj this).1 (Prod.mk.inj this).2
theorem kb_key (s : List Bool) : WideAt.IsKeyLit (kb s) := by
  first | trivial | exact ⟨⟩ | (unfold kb kwl WideAt.IsKeyLit; simp)

/-- the decoder's map behind k places -/
def decD (l : List Int) : Nat → DataW Unit
  | 0 => .map []
  | k + 1 => if codeT l k = [] then decD l k else (decD l k).put (kb (codeT l k)) (.lit (.int .i64 (k : Int)))
theorem decD_map (l : List Int) : ∀ k, IsMap (decD l k)
  | 0 => isMap_empty
  | k + 1 => by
    rw [decD]
    split
    · exact decD_map l k
    · exact (decD_map l k).put _ _
theorem dec_has (l : List Int) (hc : ∀ k, (codeT l k).length ≤ 15) (s : List Bool) (hs : s ≠ []) (hl : s.length ≤ 15) : ∀ k, Maps.has (decD l k) (kb s) = decide (∃ q, q < k ∧ codeT l q = s)
  | 0 => by
    rw [decide_eq_false (by rintro ⟨q, h, _⟩; omega)]; rfl
  | k + 1 => by
    have ih := dec_has l hc s hs hl k
    have e : (∃ q, q < k + 1 ∧ codeT l q = s) ↔ ((∃ q, q < k ∧ codeT l q = s) ∨ codeT l k = s) := by
      constructor
      · rintro ⟨q, h1, h2⟩
        by_cases hq : q = k
        · subst hq; exact .inr h2
        · exact .inl ⟨q, by omega, h2⟩
      · rintro (⟨q, h1, h2⟩ | h)
        · exact ⟨q, by omega, h2⟩
        · exact ⟨k, by omega, h⟩
    rw [decD]
    by_cases h0 : codeT l k = []
    · rw [if_pos h0, ih, Bool.eq_iff_iff]
      simp only [decide_eq_true_eq, e]
      constructor
      · exact .inl
      · rintro (h | h)
        · exact h
        · rw [h0] at h; exact absurd h.symm hs
    · rw [if_neg h0]
      by_cases hk : codeT l k = s
      · rw [hk, has_put_same (decD_map l k) (kb_key s), decide_eq_true (e.2 (.inr hk))]
      · rw [has_put_other (fun h => hk (kb_inj (hc k) hl (by first | exact h | exact h.symm))), ih, Bool.eq_iff_iff]
        simp only [decide_eq_true_eq, e]
        constructor
        · exact .inl
        · rintro (h | h)
          · exact h
          · exact absurd h hk
theorem dec_at (l : List Int) (hc : ∀ k, (codeT l k).length ≤ 15) (s : List Bool) (hs : s ≠ []) (hl : s.length ≤ 15) (hinj : ∀ q q', q < l.length → q' < l.length → codeT l q = s → codeT l q' = s → q = q') (z : DataW Unit) : ∀ k, k ≤ l.length → ∀ q, q < k → codeT l q = s → (decD l k).atKey (kb s) z = .lit (.int .i64 (q : Int))
  | 0, _, q, h, _ => by omega
  | k + 1, hk, q, h, hq => by
    rw [decD]
    by_cases h0 : codeT l k = []
    · rw [if_pos h0]
      have : q ≠ k := fun e => by subst e; rw [h0] at hq; exact hs hq.symm
      exact dec_at l hc s hs hl hinj z k (by omega) q (by omega) hq
    · rw [if_neg h0]
      by_cases e : codeT l k = s
      · have := hinj q k (by omega) (by omega) hq e
        subst this
        rw [e, atKey_put_same (decD_map l _) (kb_key s)]
      · rw [atKey_put_other (fun h => e (kb_inj (hc k) hl (by first | exact h | exact h.symm)))]
        have : q ≠ k := fun e2 => by subst e2; exact e hq
        exact dec_at l hc s hs hl hinj z k (by omega) q (by omega) hq
theorem codeT_short {l : List Int} (hG : Good l) (k : Nat) : (codeT l k).length ≤ 15 := by
  unfold codeT
  rw [hb_length]
  by_cases hk : k < l.length
  · have := (hG.ok k hk).2; omega
  · rw [List.getD, List.getElem?_eq_none (by omega)]; exact (by decide : (0 : Int).toNat ≤ 15)
theorem codeT_key {l : List Int} (hG : Good l) {k n : Nat} (hk : k < l.length) (hn : l.getD k 0 = (n : Int)) (h0 : 0 < n) : kb (codeT l k) = kwl (n, codeN l k) ∧ codeT l k ≠ [] ∧ OkW (n, codeN l k) := by
  have hlt := (code_lt l hG hk hn h0).2.2
  have h15 := (hG.ok k hk).2
  rw [hn] at h15
  have e : codeT l k = hb (codeN l k) n := by unfold codeT; rw [hn]; rfl
  have hp : 2 ^ n ≤ 2 ^ 15 := Nat.pow_le_pow_right (by decide) (by omega)
  have hp15 : (2 : Nat) ^ 15 = 32768 := by decide
  refine ⟨?_, ?_, ⟨by simp only; omega, by simp only; omega⟩⟩
  · rw [e]
    unfold kb
    rw [hb_length, vH_hb n _ hlt]
  · intro h
    have := congrArg List.length h
    rw [e, hb_length] at this
    simp at this
    omega
end Go.Proofs.Ytfoaaamcpknjnah
