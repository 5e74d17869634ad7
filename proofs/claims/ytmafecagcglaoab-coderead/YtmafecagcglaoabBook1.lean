/-
  The document's own Codebook: places by their codes.
-/
import Derived.Test.YtmafecagcglaoabCodesOf2
import Derived.Test.YtmafecagcglaoabCheck1
import Derived.Maps.Own
import Derived.Maps.OwnSet
import Derived.Maps.Views
import Derived.StringKeys
namespace Go.Proofs.Ytmafecagcglaoab
open Go.RowKit Go.Maps
set_option linter.unusedVariables false
set_option maxRecDepth 100000

def kT (s : List Bool) : Lit := .string (text s).data.toList
theorem kT_inj {s t : List Bool} (h : kT s = kT t) : s = t := by
  unfold kT text at h
  simp only [Lit.string.injEq] at h
  have h2 : s.map chr = t.map chr := by simpa using h
  have inj : ∀ a b : Bool, chr a = chr b → a = b := by intro a b; cases a <;> cases b <;> decide
  induction s generalizing t with
  | nil => cases t with
    | nil => rfl
    | cons y r => simp at h2
  | cons x r ih => cases t with
    | nil => simp at h2
    | cons y r2 =>
      simp only [List.map_cons, List.cons.injEq] at h2
      rw [inj x y h2.1, ih (t := r2) (by simp [h2.2]) h2.2]
theorem kT_key (s : List Bool) : WideAt.IsKeyLit (kT s) := by
  first | trivial | exact ⟨⟩ | (unfold kT WideAt.IsKeyLit; simp)

/-- the book behind k places -/
def bookD (l : List Int) : Nat → DataW Unit
  | 0 => .map []
  | k + 1 => if codeT l k = [] then bookD l k else (bookD l k).put (kT (codeT l k)) (.lit (.int .i64 (k : Int)))
theorem bookD_map (l : List Int) : ∀ k, IsMap (bookD l k)
  | 0 => isMap_empty
  | k + 1 => by
    rw [bookD]
    split
    · exact bookD_map l k
    · exact (bookD_map l k).put _ _
theorem book_has (l : List Int) (s : List Bool) (hs : s ≠ []) : ∀ k, Maps.has (bookD l k) (kT s) = decide (∃ q, q < k ∧ codeT l q = s)
  | 0 => by
    rw [decide_eq_false (by rintro ⟨q, h, _⟩; omega)]; rfl
  | k + 1 => by
    have ih := book_has l s hs k
    have e : (∃ q, q < k + 1 ∧ codeT l q = s) ↔ ((∃ q, q < k ∧ codeT l q = s) ∨ codeT l k = s) := by
      constructor
      · rintro ⟨q, h1, h2⟩
        by_cases hq : q = k
        · subst hq; exact .inr h2
        · exact .inl ⟨q, by omega, h2⟩
      · rintro (⟨q, h1, h2⟩ | h)
        · exact ⟨q, by omega, h2⟩
        · exact ⟨k, by omega, h⟩
    rw [bookD]
    by_cases h0 : codeT l k = []
    · rw [if_pos h0, ih, Bool.eq_iff_iff]
      simp only [decide_eq_true_eq, e]
      constructor
      · exact .inl
      · rintro (h | h)
        · exact h
        · rw [h0] at h; exact absurd h.symm hs
    · rw [if_neg h0]
      by_cases hk : codeT l k = s
      · rw [hk, has_put_same (bookD_map l k) (kT_key s), decide_eq_true (e.2 (.inr hk))]
      · rw [has_put_other (fun h => hk (kT_inj h).symm), ih, Bool.eq_iff_iff]
        simp only [decide_eq_true_eq, e]
        constructor
        · exact .inl
        · rintro (h | h)
          · exact h
          · exact absurd h hk
theorem book_at (l : List Int) (s : List Bool) (hs : s ≠ []) (hinj : ∀ q q', q < l.length → q' < l.length → codeT l q = s → codeT l q' = s → q = q') (z : DataW Unit) : ∀ k, k ≤ l.length → ∀ q, q < k → codeT l q = s → (bookD l k).atKey (kT s) z = .lit (.int .i64 (q : Int))
  | 0, _, q, h, _ => by omega
  | k + 1, hk, q, h, hq => by
    rw [bookD]
    by_cases h0 : codeT l k = []
    · rw [if_pos h0]
      have : q ≠ k := fun e => by subst e; rw [h0] at hq; exact hs hq.symm
      exact book_at l s hs hinj z k (by omega) q (by omega) hq
    · rw [if_neg h0]
      by_cases e : codeT l k = s
      · have := hinj q k (by omega) (by omega) hq e
        subst this
        rw [e, atKey_put_same (bookD_map l _) (kT_key s)]
      · rw [atKey_put_other (fun h => e (kT_inj h).symm)]
        have : q ≠ k := fun e2 => by subst e2; exact e hq
        exact book_at l s hs hinj z k (by omega) q (by omega) hq

theorem klaw : Keyed Try.prog 9 := string_keyed Try.underlying9
abbrev BookIs (w : World) (b n : Nat) (D : DataW Unit) : Prop := w.ownsMap Try.prog 9 (plainElem Try.prog 3) b n D

set_option maxHeartbeats 2000000 in
theorem codebook_any (a : Option Addr) (len cap : Nat) (l : List Int) (w : World) (hl : l.length = len) (hR : RowIn .i64 w a l) (hG : Good l) :
    Calls Try.prog 12 #[.slice a len cap] w fun e w' => ∃ b n, e = .returned (.map (some b)) ∧ w.heap.size ≤ b ∧ BookIs w' b n (bookD l len) ∧ Below w.heap.size w w' := by
  have hlen := hG.len
  have hmm := @run_makeMap Try.prog
  have HG := hide hG
  go_enter Try.func12, Try.ntmps12
  go_wp2_with fail
  refine (codesOf_any a len cap l _ hl (hR.alloc _) hG).mono ?_
  rintro e w1 ⟨g, rfl, hB1, hg1, hO1⟩
  have HO1 := hide hO1
  have hgl := (hO1.lt g rfl).2
  have HM1 : Hid (BookIs w1 w.heap.size 0 (bookD l 0)) := (World.ownsMap_made w Try.prog 9 (plainElem Try.prog 3)).kept (below_grown hB1) (by simp)
  have HB1 := hide (((Below.refl w.heap.size w).alloc (Nat.le_refl _) _).trans (hB1.mono (by simp)))
  have hz1 := hB1.size
  simp only [World.size_alloc] at hz1 hg1
  clear hB1 hO1 hR hG
  go_wp2
  go_loopw [10] (fun vi wr => ∃ k n : Nat, k ≤ len ∧ n ≤ k ∧ vi = .int .i64 (k : Int) ∧ BookIs wr w.heap.size n (bookD l k) ∧ w1.grownBy wr (some w.heap.size)) (fun vi _ => len - (intOf vi).toNat)
  case atStart => exact ⟨0, 0, Nat.zero_le _, Nat.le_refl _, rfl, unhide HM1, grown_refl _ _⟩
  case round =>
    obtain ⟨k, n, hk, hn, rfl, hM, hgr⟩ := hrel
    have HM := hide hM
    have HGr := hide hgr
    by_cases hlt : k < len
    · have c7 : wr.cell? ⟨g, k, none⟩ = some (.string (text (codeT l k))) := by
        refine hgr.cell ?_ (by simp; omega)
        rw [(unhide HO1).cellAt k (by omega)]
        simp [hlt]
      have HD : Hid (bookD l (k + 1) = if codeT l k = [] then bookD l k else (bookD l k).put (kT (codeT l k)) (.lit (.int .i64 (k : Int)))) := rfl
      have HKey : Hid (keyOf Try.prog 9 (.string (text (codeT l k))) = some (kT (codeT l k))) := Go.WideMaps.keyOf_string_mk Try.underlying9 (by
        rw [text_size]; unfold codeT; rw [hb_length]
        have := (unhide HG).ok k (by omega)
        unfold maxLen; omega)
      clear hM hgr
      have htl : (text (codeT l k)).toList.isEmpty = (codeT l k).isEmpty := by rw [Lib.toList_data]; cases codeT l k <;> rfl
      by_cases h0 : codeT l k = []
      · rw [if_pos h0] at HD
        have hem : (text (codeT l k)).toList.isEmpty = true := by rw [htl, h0]; rfl
        clear htl h0 HKey
        generalize text (codeT l k) = T at *
        go_wp2
        go_roundw
        case rel => exact ⟨k + 1, n, by omega, by omega, by go_num, by rw [unhide HD]; exact unhide HM, unhide HGr⟩
        case measure => simp [intOf]; omega
      · rw [if_neg h0] at HD
        have hem : (text (codeT l k)).toList.isEmpty = false := by
          rw [htl]
          cases e : codeT l k with
          | nil => exact absurd e h0
          | cons _ _ => rfl
        have hwf : (Lit.int .i64 (k : Int)).wf = true := WalkArith.wf_i64 (by omega)
        clear htl h0
        generalize text (codeT l k) = T at *
        generalize kT (codeT l k) = KK at *
        go_wp2_with (at_mapUpdate; refine wpList_mapUpdate_own _ rfl _ _ _ 29 rfl 9 3 klaw Try.underlying29 _ w.heap.size n _ rfl (unhide HM) (by unfold maxLen; omega) _ _ _ rfl rfl (unhide HKey) _ [] (plainElem_int Try.underlying3 hwf) ?_)
        intro w2 hM2 hg2
        have HM2 := hide hM2
        have HG2 := hide (grown_trans (unhide HGr) hg2)
        clear hM2 hg2
        go_wp2
        go_roundw
        case rel => exact ⟨k + 1, n + 1, by omega, by omega, by go_num, by rw [unhide HD]; exact unhide HM2, unhide HG2⟩
        case measure => simp [intOf]; omega
    · obtain rfl : k = len := by omega
      clear hM hgr
      go_wp2
      go_ret
      exact ⟨w.heap.size, n, rfl, Nat.le_refl _, unhide HM, (unhide HB1).grown (unhide HGr) (by omega) (fun j h => by cases h; exact Nat.le_refl _)⟩
end Go.Proofs.Ytmafecagcglaoab
