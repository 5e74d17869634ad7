/-
  Files laid by their names, of lists alone: what the document's Together comes to.
-/
import Derived.Test.YtmgmganbamjnmaaGreatDoorS19
import Derived.Test.YtmgmganbamjnmaaGreatDoorS16
namespace Go.Proofs.YtmgmganbamjnmaaGreatDoor
open Go
set_option linter.unusedVariables false

/-- a file comes to the others: behind them, or in the place of one that is older -/
def addT (M : List Fv) (y : Fv) : List Fv := match fm y.f.name M 0 with | some p => if 0 < nwr y.f p.2.f then M.set p.1 y else M | none => M ++ [y]
def nms (M : List Fv) : List (List UInt8) := M.map fun x => x.f.name
theorem addT_none {M : List Fv} {y : Fv} (h : fm y.f.name M 0 = none) : addT M y = M ++ [y] ∧ addM M y = M ++ [y] ∧ nms (addT M y) = nms M ++ [y.f.name] := by
  have e1 : addT M y = M ++ [y] := by unfold addT; rw [h]
  refine ⟨e1, by unfold addM; rw [h], by rw [e1]; simp [nms]⟩
theorem set_nms {M : List Fv} {y x : Fv} {i : Nat} (h : M[i]? = some x) (hn : x.f.name = y.f.name) : nms (M.set i y) = nms M := by
  apply List.ext_getElem?
  intro j
  simp only [nms, List.getElem?_map, List.getElem?_set]
  by_cases e : i = j
  · subst e
    have hi : i < M.length := (List.getElem?_eq_some_iff.1 h).1
    rw [h]
    simp [hi, hn]
  · simp [e]
theorem addT_some {M : List Fv} {y : Fv} {p : Nat × Fv} (h : fm y.f.name M 0 = some p) : (0 < nwr y.f p.2.f → addT M y = addM M y) ∧ (¬ 0 < nwr y.f p.2.f → addT M y = M) ∧ nms (addT M y) = nms M := by
  obtain ⟨j, x⟩ := p
  obtain ⟨q1, q2, q3, q4⟩ := fm_at h
  simp only [Nat.sub_zero] at q3
  refine ⟨fun c => ?_, fun c => ?_, ?_⟩
  · unfold addT addM; rw [h]; simp only; rw [if_pos c]
  · unfold addT; rw [h]; simp only; rw [if_neg c]
  · unfold addT
    rw [h]
    simp only
    split
    · exact set_nms q3 q1
    · rfl
theorem mem_addT {M : List Fv} {y x : Fv} (h : x ∈ addT M y) : x ∈ M ∨ x = y := by
  unfold addT at h
  split at h
  · split at h
    · exact List.mem_or_eq_of_mem_set h
    · exact .inl h
  · simpa using h
theorem look_snoc (n : List UInt8) (M : List Fv) (y : Fv) : lookF n (fls (M ++ [y])) = match lookF n (fls M) with | some x => some x | none => if y.f.name = n then some y.f else none := by
  unfold lookF
  simp only [fls, List.map_append, List.find?_append]
  cases h : List.find? (fun y => y.name == n) (List.map Fv.f M) with
  | some x => simp
  | none =>
    by_cases e : y.f.name = n
    · simp [e]
    · simp [e]
theorem look_set {n : List UInt8} : ∀ {M : List Fv} {y x : Fv} {i j : Nat}, fm y.f.name M i = some (j, x) → lookF n (fls (M.set (j - i) y)) = if y.f.name = n then some y.f else lookF n (fls M)
  | [], y, x, i, j, h => by cases h
  | z :: M, y, x, i, j, h => by
    rw [fm] at h
    by_cases e : z.f.name = y.f.name
    · rw [if_pos e] at h
      cases h
      rw [Nat.sub_self]
      show lookF n (y.f :: fls M) = if y.f.name = n then some y.f else lookF n (z.f :: fls M)
      rw [look_cons, look_cons, e]
      by_cases e2 : y.f.name = n
      · rw [if_pos e2, if_pos e2]
      · rw [if_neg e2, if_neg e2, if_neg e2]
    · rw [if_neg e] at h
      have hij := (fm_at h).2.1
      have ih := look_set (n := n) h
      rw [show j - i = (j - (i + 1)) + 1 by omega]
      show lookF n (z.f :: fls (M.set (j - (i + 1)) y)) = if y.f.name = n then some y.f else lookF n (z.f :: fls M)
      rw [look_cons, look_cons, ih]
      by_cases e2 : z.f.name = n
      · rw [if_pos e2, if_pos e2, if_neg (fun e3 => e (e2.trans e3.symm))]
      · rw [if_neg e2, if_neg e2]
theorem look_addT (n : List UInt8) (M : List Fv) (y : Fv) : lookF n (fls (addT M y)) = if y.f.name = n then joinO (lookF n (fls M)) (some y.f) else lookF n (fls M) := by
  cases h : fm y.f.name M 0 with
  | none =>
    have hl := fm_none h
    rw [(addT_none h).1, look_snoc]
    by_cases e : y.f.name = n
    · subst e
      rw [hl, if_pos rfl, if_pos rfl]; rfl
    · rw [if_neg e, if_neg e]
      cases lookF n (fls M) <;> rfl
  | some p =>
    obtain ⟨j, x⟩ := p
    obtain ⟨q1, q2, q3, q4⟩ := fm_at h
    have hs := addT_some h
    by_cases c : 0 < nwr y.f x.f
    · have e1 : addT M y = M.set j y := by unfold addT; rw [h]; simp only; rw [if_pos c]
      have := look_set (n := n) h
      rw [Nat.sub_zero] at this
      rw [e1, this]
      by_cases e : y.f.name = n
      · subst e
        rw [if_pos rfl, if_pos rfl, q4]
        show some y.f = some (pickF x.f y.f)
        unfold pickF; rw [if_pos c]
      · rw [if_neg e, if_neg e]
    · rw [hs.2.1 c]
      by_cases e : y.f.name = n
      · subst e
        rw [if_pos rfl, q4]
        show some x.f = some (pickF x.f y.f)
        unfold pickF; rw [if_neg c]
      · rw [if_neg e]
theorem look_fold (n : List UInt8) : ∀ (L M : List Fv), NRise (fls L) → lookF n (fls (L.foldl addT M)) = joinO (lookF n (fls M)) (lookF n (fls L))
  | [], M, _ => by rw [List.foldl_nil]; exact (joinO_none _).symm
  | y :: L, M, hr => by
    obtain ⟨h1, h2⟩ := rise_tail (f := y.f) (r := fls L) hr
    rw [List.foldl_cons, look_fold n L (addT M y) h1, look_addT]
    show _ = joinO (lookF n (fls M)) (lookF n (y.f :: fls L))
    rw [look_cons]
    by_cases e : y.f.name = n
    · subst e
      rw [if_pos rfl, if_pos rfl, look_none h2, joinO_none]
    · rw [if_neg e, if_neg e]
/-- no name twice -/
theorem nodup_addT {M : List Fv} {y : Fv} (h : (nms M).Nodup) : (nms (addT M y)).Nodup := by
  cases hf : fm y.f.name M 0 with
  | none =>
    rw [(addT_none hf).2.2]
    rw [List.nodup_append]
    refine ⟨h, by simp, ?_⟩
    intro a ha b hb e
    simp at hb
    subst hb
    subst e
    have hn := fm_none hf
    unfold lookF at hn
    rw [List.find?_eq_none] at hn
    obtain ⟨x, hx, hxe⟩ := List.mem_map.1 ha
    exact hn x.f (List.mem_map.2 ⟨x, hx, rfl⟩) (by simpa using hxe)
  | some p => rw [(addT_some hf).2.2]; exact h
theorem nodup_fold : ∀ (L M : List Fv), (nms M).Nodup → (nms (L.foldl addT M)).Nodup
  | [], M, h => h
  | y :: L, M, h => by rw [List.foldl_cons]; exact nodup_fold L _ (nodup_addT h)
theorem mem_fold : ∀ (L M : List Fv) (x : Fv), x ∈ L.foldl addT M → x ∈ M ∨ x ∈ L
  | [], M, x, h => .inl h
  | y :: L, M, x, h => by
    rw [List.foldl_cons] at h
    rcases mem_fold L _ x h with h | h
    · rcases mem_addT h with h | h
      · exact .inl h
      · exact .inr (by simp [h])
    · exact .inr (List.mem_cons_of_mem _ h)

theorem lt_cmp : ∀ (a b : List UInt8), a < b ↔ cmpB a b < 0
  | [], [] => by simp [cmpB, Lib.compareBytes]
  | [], b :: y => by simp [cmpB, Lib.compareBytes]
  | a :: x, [] => by simp [cmpB, Lib.compareBytes]
  | a :: x, b :: y => by
    rw [List.cons_lt_cons_iff, cmpB_cons]
    by_cases h1 : a < b
    · simp [h1]
    · rw [if_neg h1]
      by_cases h2 : b < a
      · have : a ≠ b := by rintro rfl; exact h1 h2
        simp [h1, h2, this]
      · have := u8_ne h1 h2
        subst this
        simp [h2, lt_cmp x y]
theorem le_cmp (a b : List UInt8) : a ≤ b ↔ cmpB a b ≤ 0 := by
  rw [← List.not_lt, lt_cmp, cmpB_anti a b]
  omega
/-- what is sorted rises, where no name stands twice -/
theorem srt_rise {ps : List (List UInt8)} (h : ps.Nodup) : (srtS ps).Pairwise fun a b => cmpB a b < 0 := by
  have h1 := List.pairwise_mergeSort (le := fun x y : List UInt8 => decide (x ≤ y)) (fun a b c k1 k2 => by
    simp only [decide_eq_true_eq, le_cmp] at *
    exact cmpB_ord.trans k1 k2) (fun a b => by
    simp only [Bool.or_eq_true, decide_eq_true_eq, le_cmp]
    have := cmpB_anti a b
    omega) ps
  have h2 : (srtS ps).Nodup := (List.mergeSort_perm ps _).nodup_iff.2 h
  have h3 := List.Pairwise.and h1 h2
  refine h3.imp ?_
  rintro a b ⟨k1, k2⟩
  have k1' : cmpB a b ≤ 0 := by simpa only [decide_eq_true_eq, le_cmp] using k1
  rcases cmpB_three a b with e | e | e
  · omega
  · exact absurd (cmpB_eq e) k2
  · omega
theorem srt_mem {ps : List (List UInt8)} {s : List UInt8} : s ∈ srtS ps ↔ s ∈ ps := (List.mergeSort_perm ps _).mem_iff
theorem srt_len (ps : List (List UInt8)) : (srtS ps).length = ps.length := List.length_mergeSort _
theorem fm_mem {M : List Fv} {s : List UInt8} (h : s ∈ nms M) : ∃ p, fm s M 0 = some p := by
  cases hf : fm s M 0 with
  | some p => exact ⟨p, rfl⟩
  | none =>
    have hn := fm_none hf
    unfold lookF at hn
    rw [List.find?_eq_none] at hn
    obtain ⟨x, hx, hxe⟩ := List.mem_map.1 h
    exact absurd (by simpa using hxe) (hn x.f (List.mem_map.2 ⟨x, hx, rfl⟩))
/-- what the document's Together answers is what comes together -/
theorem together_is {xs ys out : List Fv} (hx : NRise (fls xs)) (hy : NRise (fls ys)) (M : List Fv) (hM : M = (xs ++ ys).foldl addT []) (ho : nms out = srtS (nms M)) (hl : ∀ x ∈ out, lookF x.f.name (fls M) = some x.f) : fls out = tog (fls xs) (fls ys) := by
  have hnd : (nms M).Nodup := by rw [hM]; exact nodup_fold _ _ (by simp [nms])
  have hpw := srt_rise hnd
  rw [← ho] at hpw
  have hro : NRise (fls out) := by
    intro i j a b ha hb hij
    rw [List.pairwise_iff_getElem] at hpw
    simp only [fls, List.getElem?_map] at ha hb
    cases hia : out[i]? with
    | none => rw [hia] at ha; cases ha
    | some u =>
      cases hjb : out[j]? with
      | none => rw [hjb] at hb; cases hb
      | some v =>
        rw [hia] at ha
        rw [hjb] at hb
        simp at ha hb
        subst ha
        subst hb
        obtain ⟨hi, ei⟩ := List.getElem?_eq_some_iff.1 hia
        obtain ⟨hj, ej⟩ := List.getElem?_eq_some_iff.1 hjb
        have := hpw i j (by simpa [nms] using hi) (by simpa [nms] using hj) hij
        simpa [nms, ei, ej] using this
  have hlM : ∀ n, lookF n (fls M) = joinO (lookF n (fls xs)) (lookF n (fls ys)) := by
    intro n
    rw [hM, List.foldl_append, look_fold n ys _ hy, look_fold n xs _ hx]
    rfl
  refine rise_ext _ _ hro (rise_tog _ _ hx hy) (fun n => ?_)
  rw [look_tog _ _ hx hy, ← hlM]
  cases h1 : lookF n (fls M) with
  | none =>
    cases h2 : lookF n (fls out) with
    | none => rfl
    | some f =>
      obtain ⟨hn, hm⟩ := look_some h2
      obtain ⟨x, hx', rfl⟩ := List.mem_map.1 hm
      have := hl x hx'
      rw [hn, h1] at this
      cases this
  | some f =>
    obtain ⟨hn, hm⟩ := look_some h1
    obtain ⟨x, hx', rfl⟩ := List.mem_map.1 hm
    have hin : n ∈ nms out := by rw [ho, srt_mem]; exact List.mem_map.2 ⟨x, hx', hn⟩
    obtain ⟨z, hz, hzn⟩ := List.mem_map.1 hin
    have h3 := hl z hz
    rw [hzn, h1] at h3
    have h4 := look_mem hro (List.mem_map.2 ⟨z, hz, rfl⟩)
    rw [hzn] at h4
    rw [h4]
    exact h3.symm
end Go.Proofs.YtmgmganbamjnmaaGreatDoor
