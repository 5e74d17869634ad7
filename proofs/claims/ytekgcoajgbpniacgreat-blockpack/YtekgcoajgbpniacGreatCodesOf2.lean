/-
  What the document's own CodesOf answers.
-/
import Derived.Test.YtekgcoajgbpniacGreatQ39
namespace Go.Proofs.YtekgcoajgbpniacGreat
open Go.RowKit
set_option linter.unusedVariables false
set_option maxRecDepth 100000

theorem used_mem (l : List Int) : ∀ k x, x ∈ usedP l k → ∃ q : Nat, q < k ∧ 0 < l.getD q 0 ∧ x = (l.getD q 0, (q : Int))
  | 0, x, h => by simp [usedP] at h
  | k + 1, x, h => by
    rw [usedP, List.mem_append] at h
    rcases h with h | h
    · obtain ⟨q, h1, h2, h3⟩ := used_mem l k x h
      exact ⟨q, by omega, h2, h3⟩
    · by_cases e : 0 < l.getD k 0
      · rw [if_pos e] at h
        exact ⟨k, by omega, e, by simpa using h⟩
      · rw [if_neg e] at h
        simp at h
theorem used_has (l : List Int) : ∀ k (q : Nat), q < k → 0 < l.getD q 0 → (l.getD q 0, (q : Int)) ∈ usedP l k
  | 0, q, h, _ => by omega
  | k + 1, q, h, h2 => by
    rw [usedP, List.mem_append]
    by_cases e : q = k
    · subst e; right; rw [if_pos h2]; simp
    · left; exact used_has l k q (by omega) h2
theorem used_pair (l : List Int) : ∀ k, (usedP l k).Pairwise (fun x y => x.2 < y.2)
  | 0 => List.Pairwise.nil
  | k + 1 => by
    rw [usedP, List.pairwise_append]
    refine ⟨used_pair l k, ?_, ?_⟩
    · split <;> simp
    · intro x hx y hy
      obtain ⟨q, h1, _, h3⟩ := used_mem l k x hx
      split at hy
      · simp at hy
        rw [h3, hy]
        simp only
        omega
      · simp at hy
theorem used_le (l : List Int) : ∀ k, (usedP l k).length ≤ k
  | 0 => by simp [usedP]
  | k + 1 => by
    have := used_le l k
    rw [usedP, List.length_append]
    split <;> simp <;> omega

def dU (l : List Int) : Nat → Int × Int := fun k => (usedP l l.length).getD k (0, 0)
theorem dU_rise (l : List Int) : Rise (dU l) 0 (usedP l l.length).length := by
  intro i j _ hij hj
  have h := List.pairwise_iff_getElem.1 (used_pair l l.length) i j (by omega) hj hij
  unfold dU
  have e1 : (usedP l l.length).getD i (0, 0) = (usedP l l.length)[i] := by simp [List.getD, show i < (usedP l l.length).length by omega]
  have e2 : (usedP l l.length).getD j (0, 0) = (usedP l l.length)[j] := by simp [List.getD, hj]
  rw [e1, e2]; exact h
theorem dU_seg (l : List Int) : Stab.seg (dU l) 0 (usedP l l.length).length = usedP l l.length := by
  apply List.ext_getElem
  · simp [Stab.seg]
  · intro i h1 h2
    simp [Stab.seg, dU, List.getD, h2]

/-- what sorted pairs say of the codes -/
structure Sorted (l : List Int) (N : Nat) (d : Nat → Int × Int) : Prop where
  at' : ∀ i, i < N → ∃ n q : Nat, d i = ((n : Int), (q : Int)) ∧ q < l.length ∧ l.getD q 0 = (n : Int) ∧ 0 < n ∧ n ≤ 15 ∧ vsum d i = codeN l q * 2 ^ (15 - n)
  srt : Stab.Srt Stab.lx d 0 N
  all : ∀ q : Nat, q < l.length → 0 < l.getD q 0 → ∃ i, i < N ∧ d i = (l.getD q 0, (q : Int))
theorem sorted_of (l : List Int) (hG : Good l) (d : Nat → Int × Int) (hm : Stab.Moved 0 (usedP l l.length).length (dU l) d) (hs : Stab.Srt Stab.lx d 0 (usedP l l.length).length) : Sorted l (usedP l l.length).length d := by
  have hperm : (Stab.seg d 0 (usedP l l.length).length).Perm (usedP l l.length) := by
    have := hm.perm
    rw [dU_seg] at this
    first | exact this | exact this.symm
  refine ⟨fun i hi => ?_, hs, fun q hq h0 => ?_⟩
  · have hmem : d i ∈ Stab.seg d 0 (usedP l l.length).length := Stab.mem_seg.2 ⟨i, Nat.zero_le _, hi, rfl⟩
    obtain ⟨q, h1, h2, h3⟩ := used_mem l _ _ (hperm.mem_iff.1 hmem)
    obtain ⟨n, hn⟩ := Int.eq_ofNat_of_zero_le (hG.ok q h1).1
    have h15 := (hG.ok q h1).2
    have hv := bsum_sorted d _ hs hi
    rw [bsum_perm _ hperm, h3, hn, bsum_code l hG h1 hn (by omega)] at hv
    exact ⟨n, q, by rw [h3, hn], h1, hn, by omega, by omega, hv.symm⟩
  · have := hperm.mem_iff.2 (used_has l _ q hq h0)
    obtain ⟨i, _, hi, h⟩ := Stab.mem_seg.1 this
    exact ⟨i, hi, h⟩
theorem Sorted.first {l : List Int} {N : Nat} {d : Nat → Int × Int} (h : Sorted l N d) {n q : Nat} (hN : 0 < N) (hd : d 0 = ((n : Int), (q : Int))) : codeN l q = 0 := by
  obtain ⟨n', q', e, _, _, _, _, hv⟩ := h.at' 0 hN
  rw [hd] at e
  have e2 : q = q' := by have := congrArg Prod.snd e; simp at this; omega
  subst e2
  have : codeN l q * 2 ^ (15 - n') = 0 := hv.symm
  rcases Nat.mul_eq_zero.1 this with h | h
  · exact h
  · have := Nat.pow_pos (n := 15 - n') (show 0 < 2 by decide); omega
theorem Sorted.next {l : List Int} (hG : Good l) {N : Nat} {d : Nat → Int × Int} (h : Sorted l N d) {i n q n' q' : Nat} (hi : i + 1 < N) (hd : d i = ((n : Int), (q : Int))) (hd' : d (i + 1) = ((n' : Int), (q' : Int))) : n ≤ n' ∧ codeN l q + 1 < 2 ^ n ∧ codeN l q' = (codeN l q + 1) * 2 ^ (n' - n) := by
  obtain ⟨a, b, e, _, _, _, ha15, hv⟩ := h.at' i (by omega)
  obtain ⟨a', b', e', hb', hx', ha0', ha15', hv'⟩ := h.at' (i + 1) hi
  rw [hd] at e
  rw [hd'] at e'
  have e1 : n = a := by have := congrArg Prod.fst e; simp at this; omega
  have e2 : q = b := by have := congrArg Prod.snd e; simp at this; omega
  have e3 : n' = a' := by have := congrArg Prod.fst e'; simp at this; omega
  have e4 : q' = b' := by have := congrArg Prod.snd e'; simp at this; omega
  subst e1 e2 e3 e4
  have hlx := h.srt i (i + 1) (Nat.zero_le _) (by omega) hi
  rw [hd, hd'] at hlx
  have hle : n ≤ n' := by unfold Stab.lx at hlx; simp only at hlx; omega
  have hw : wt (d i) = 2 ^ (15 - n) := by rw [hd]; simp [wt]
  rw [vsum, hv, hw] at hv'
  have hp : 2 ^ (15 - n) = 2 ^ (n' - n) * 2 ^ (15 - n') := by rw [← Nat.pow_add]; congr 1; omega
  have h1 : ((codeN l q + 1) * 2 ^ (n' - n)) * 2 ^ (15 - n') = codeN l q' * 2 ^ (15 - n') := by
    rw [← hv', Nat.mul_assoc, ← hp, Nat.add_mul, Nat.one_mul]
  have h2 := Nat.eq_of_mul_eq_mul_right (Nat.pow_pos (n := 15 - n') (show 0 < 2 by decide)) h1
  have hlt := (code_lt l hG hb' hx' ha0').2.2
  rw [← h2] at hlt
  have h3 : 2 ^ n' = 2 ^ n * 2 ^ (n' - n) := by rw [← Nat.pow_add]; congr 1; omega
  rw [h3] at hlt
  exact ⟨hle, Nat.lt_of_mul_lt_mul_right hlt, h2.symm⟩

def cellsP (xs : List (Int × Int)) : List Value := xs.flatMap fun p => [.int .i64 p.1, .int .i64 p.2]
theorem cellsP_length : ∀ xs, (cellsP xs).length = xs.length * 2
  | [] => rfl
  | x :: r => by
    have ih := cellsP_length r
    have e : cellsP (x :: r) = .int .i64 x.1 :: .int .i64 x.2 :: cellsP r := by simp [cellsP]
    rw [e, List.length_cons, List.length_cons, ih, List.length_cons]
    omega
theorem cellsP_append (xs ys : List (Int × Int)) : cellsP (xs ++ ys) = cellsP xs ++ cellsP ys := by simp [cellsP]
theorem cellsP_at : ∀ (xs : List (Int × Int)) (k : Nat), k < xs.length → (cellsP xs)[k * 2]? = some (.int .i64 (xs.getD k (0, 0)).1) ∧ (cellsP xs)[k * 2 + 1]? = some (.int .i64 (xs.getD k (0, 0)).2)
  | [], k, h => by simp at h
  | x :: r, 0, _ => by simp [cellsP]
  | x :: r, k + 1, h => by
    have ih := cellsP_at r k (by simpa using h)
    have e : cellsP (x :: r) = .int .i64 x.1 :: .int .i64 x.2 :: cellsP r := by simp [cellsP]
    rw [e, show (k + 1) * 2 = k * 2 + 1 + 1 by omega]
    simpa using ih
theorem infoStr : (Tryz.prog.info? 9).map (fun i => (i.zero, i.size, i.bytes)) = some (some (.string ByteArray.empty), 1, 16) := by kernel_rfl
theorem infoPz : (Tryz.prog.info? 125).map (fun i => (i.zero, i.size, i.bytes)) = some (some (.agg #[.int .i64 0, .int .i64 0]), 2, 16) := by kernel_rfl

theorem own_far' {w : World} {B e size n : Nat} {v : Value} {xs : List Value} (h : w.ownsRow B e size v n xs) {b : Nat} (hb : b < B) : v.ownBlock ≠ some b := by
  intro e
  have := (h.lt b e).1
  omega
theorem own_slc {w : World} {B e size n : Nat} {v : Value} {xs : List Value} (h : w.ownsRow B e size v n xs) : ∃ a c, v = .slice a n c ∧ (n = 0 ∨ ∃ g, a = some ⟨g, 0, none⟩ ∧ B ≤ g ∧ g < w.heap.size) := by
  rcases h.2 with ⟨h1, h2⟩ | ⟨g, cap, cur, h1, h2, h3⟩
  · subst h2; exact ⟨none, 0, h1, .inl rfl⟩
  · exact ⟨_, _, h1, .inr ⟨g, rfl, h2, (h.lt g (by rw [h1]; rfl)).2⟩⟩
theorem cell_alloc' {w : World} {b o : Nat} {v : Value} (h : w.cell? ⟨b, o, none⟩ = some v) (x : Obj) : (w.alloc x).cell? ⟨b, o, none⟩ = some v := by
  rw [World.cell?_alloc_past _ _ _ (block_lt_of_cell h)]; exact h
theorem frozen_alloc' {w : World} {b o : Nat} (h : w.frozen? ⟨b, o, none⟩ = false) (hb : b < w.heap.size) (x : Obj) : (w.alloc x).frozen? ⟨b, o, none⟩ = false := by
  have := ((Below.refl w.heap.size w).alloc (Nat.le_refl _) x).frozen (p := ⟨b, o, none⟩) hb
  rw [this]; exact h

theorem text_app (a b : List Bool) : text a ++ text b = text (a ++ b) := by
  apply ByteArray.ext
  simp [text]
theorem text_ext (a b : List Bool) : (text (a ++ b)).extract 0 a.length = text a := by
  apply ByteArray.ext
  simp [text]
theorem PS.other {N bp : Nat} {d : Nat → Int × Int} {W : World} (hP : PS N bp d W) {a : Addr} (hb : bp ≠ a.block) (v : Value) : PS N bp d (W.setCell a v) := by
  intro k hk
  have hbk := Below.heap_setCell W a v bp hb
  rw [World.cell?_of_block (a := ⟨bp, k * 2, none⟩) hbk, World.frozen?_of_block (a := ⟨bp, k * 2, none⟩) hbk, World.cell?_of_block (a := ⟨bp, k * 2 + 1, none⟩) hbk, World.frozen?_of_block (a := ⟨bp, k * 2 + 1, none⟩) hbk]
  exact hP k hk
/-- what was written into the answer behind i of the sorted places -/
structure OutTo (l : List Int) (at' : Nat → Nat) (len i : Nat) (xs : List Value) : Prop where
  size : xs.length = len
  set : ∀ j, j < i → xs[at' j]? = some (.string (text (codeT l (at' j))))
  or' : ∀ q, q < len → xs[q]? = some (.string (text (codeT l q))) ∨ xs[q]? = some (.string (text []))
theorem out_next {l : List Int} {at' : Nat → Nat} {len i q : Nat} {xs : List Value} (h : OutTo l at' len i xs) (hq : at' i = q) (hl : q < len) : OutTo l at' len (i + 1) (xs.set q (.string (text (codeT l q)))) := by
  refine ⟨by rw [List.length_set]; exact h.size, fun j hj => ?_, fun r hr => ?_⟩
  · rw [List.getElem?_set]
    by_cases e : q = at' j
    · rw [if_pos e, if_pos (by rw [h.size]; omega), ← e]
    · rw [if_neg e]
      by_cases ej : j = i
      · subst ej; exact absurd hq.symm e
      · exact h.set j (by omega)
  · rw [List.getElem?_set]
    by_cases e : q = r
    · subst e
      rw [if_pos rfl, if_pos (by rw [h.size]; omega)]
      exact .inl rfl
    · rw [if_neg e]; exact h.or' r hr
theorem out_all {l : List Int} {d : Nat → Int × Int} {len N : Nat} {xs : List Value} (hG : Good l) (hl : l.length = len) (h : OutTo l (fun i => (d i).2.toNat) len N xs) (hs : Sorted l N d) : xs = (List.range len).map fun q => .string (text (codeT l q)) := by
  apply List.ext_getElem?
  intro q
  by_cases hq : q < len
  · have e : ((List.range len).map fun q => Value.string (text (codeT l q)))[q]? = some (.string (text (codeT l q))) := by simp [hq]
    rw [e]
    by_cases h0 : 0 < l.getD q 0
    · obtain ⟨i, hi, hd⟩ := hs.all q (by omega) h0
      have := h.set i hi
      rw [hd] at this
      simpa using this
    · have hz : l.getD q 0 = 0 := by have := (hG.ok q (by omega)).1; omega
      have ht : codeT l q = [] := by unfold codeT; rw [hz]; rfl
      rcases h.or' q hq with h | h
      · exact h
      · rw [ht]; exact h
  · have h1 : xs[q]? = none := by simp; rw [h.size]; omega
    have h2 : ((List.range len).map fun q => Value.string (text (codeT l q)))[q]? = none := List.getElem?_eq_none (by simp; omega)
    rw [h1, h2]
/-- the code that stands behind i of them -/
def CodeAt (l : List Int) (d : Nat → Int × Int) (i : Nat) (cs : List Bool) : Prop := (i = 0 ∧ cs = []) ∨ (0 < i ∧ ∃ n q : Nat, d (i - 1) = ((n : Int), (q : Int)) ∧ cs = hb (codeN l q) n ∧ n ≤ 15)

set_option maxHeartbeats 2000000 in
theorem codesOf_any (a : Option Addr) (len cap : Nat) (l : List Int) (w : World) (hl : l.length = len) (hR : RowIn .i64 w a l) (hG : Good l) :
    Calls Tryz.prog 45 #[.slice a len cap] w fun e w' => ∃ g, e = .returned (.slice (some ⟨g, 0, none⟩) len len) ∧ Below w.heap.size w w' ∧ w.heap.size ≤ g ∧
      w'.ownsRow w.heap.size 9 1 (.slice (some ⟨g, 0, none⟩) len len) len ((List.range len).map fun q => .string (text (codeT l q))) := by
  obtain ⟨i0, hi, hz0, hz1, hz2⟩ := info_parts infoPz
  have hlen := hG.len
  have HG := hide hG
  have HR := hide hR
  have HL := hide hl
  clear hR hG
  go_enter Tryz.func45, Tryz.ntmps45
  go_wp2
  have hs0 : w.heap.size + 1 ≤ (w.alloc (.cells #[.slice none 0 0] 123)).heap.size := by simp
  have HO0 := hide (World.ownsRow_nil (w.alloc (.cells #[.slice none 0 0] 123)) (w.heap.size + 1) 125 2)
  have HB0 := hide ((Below.refl w.heap.size w).alloc (Nat.le_refl _) (.cells #[.slice none 0 0] 123))
  go_loopw [13] (fun i wr => ∃ (k : Nat) (v : Value), k ≤ len ∧ i = .int .i64 (k : Int) ∧ wr.cell? ⟨w.heap.size, 0, none⟩ = some v ∧ wr.frozen? ⟨w.heap.size, 0, none⟩ = false ∧ wr.ownsRow (w.heap.size + 1) 125 2 v (usedP l k).length (cellsP (usedP l k)) ∧ Below w.heap.size w wr ∧ w.heap.size + 1 ≤ wr.heap.size) (fun i _ => len - (intOf i).toNat)
  case atStart => exact ⟨0, _, Nat.zero_le _, rfl, by simp, by simp, unhide HO0, unhide HB0, hs0⟩
  case round =>
    obtain ⟨k, v, hk, rfl, hc, hf, hO, hB, hs⟩ := hrel
    have HO := hide hO
    have HB := hide hB
    obtain ⟨va, vc, rfl, hva⟩ := own_slc hO
    by_cases hlt : k < len
    · have hlk : k < l.length := by omega
      obtain ⟨b, o, rfl, hb, hRw⟩ : ∃ b o, a = some ⟨b, o, none⟩ ∧ b < w.heap.size ∧ Row .i64 w b o l := by
        rcases unhide HR with rfl | h
        · simp at hlk
        · exact h
      have c1 := (hB.cell (p := ⟨b, o + k, none⟩) hb).trans (hRw k hlk)
      have HN : Hid (usedP l (k + 1) = usedP l k ++ (if 0 < l.getD k 0 then [(l.getD k 0, (k : Int))] else [])) := rfl
      have hul := used_le l k
      clear hO hB hRw HO0 HB0
      generalize l.getD k 0 = x at *
      by_cases hx : 0 < x
      · rw [if_pos hx] at HN
        generalize hnu : (usedP l k).length = nu at *
        have HNU := hide hnu
        clear hnu
        go_wp2_with (at_builtin; refine wpList_append_own _ rfl _ _ 123 rfl (w.heap.size + 1) 125 i0 (.agg #[.int .i64 0, .int .i64 0]) 2 16 Tryz.underlying123 hi hz0 hz1 hz2 rfl (by decide) _ _ _ rfl ((unhide HO).alloc _) ⟨wr.heap.size, 0, none⟩ 1 1 [.int .i64 x, .int .i64 (k : Int)] rfl rfl (by intro j u hj; match j, hj with | 0, hj => simp at hj; subst hj; simp [Addr.add] | 1, hj => simp at hj; subst hj; simp [Addr.add]) (by intro u hu; simp at hu; rcases hu with rfl | rfl <;> rfl) (by unfold maxLen; omega) (by omega) (by simp; omega) ?_)
        intro v' w1 hO1 hgrow _
        have hne := own_far' (unhide HO) (b := w.heap.size) (by omega)
        have hxs : w.heap.size < wr.heap.size := by omega
        have hbk := hgrow.block w.heap.size (by simp; omega) (fun e => hne e.symm)
        have c3 : w1.cell? ⟨w.heap.size, 0, none⟩ = some (.slice va nu vc) := by
          rw [World.cell?_of_block hbk]; exact cell_alloc' hc _
        have f3 : w1.frozen? ⟨w.heap.size, 0, none⟩ = false := by
          rw [World.frozen?_of_block hbk]; exact frozen_alloc' hf hxs _
        obtain ⟨va', vc', rfl, _⟩ := own_slc hO1
        have HO1 := hide (hO1.kept (grown_setCell w1 w.heap.size 0 (.slice va' (nu + 1) vc')) (.inr (own_far' hO1 (by omega))))
        have HB1 := hide ((((unhide HB).alloc (by omega) (.cells #[.int .i64 x, .int .i64 (k : Int)] 125)).grown hgrow (by simp; omega) (fun j hj => by have := ((unhide HO).lt j hj).1; omega)).setCell (p := ⟨w.heap.size, 0, none⟩) (Nat.le_refl _) (.slice va' (nu + 1) vc'))
        have hs1 : w.heap.size + 1 ≤ (w1.setCell ⟨w.heap.size, 0, none⟩ (.slice va' (nu + 1) vc')).heap.size := by
          have := hgrow.size
          simp only [World.size_alloc] at this
          simp; omega
        clear hO1 hgrow hbk HO HB hc hf
        go_wp2
        go_roundw
        case rel =>
          refine ⟨k + 1, _, by omega, by go_num, World.cell?_setCell_same _ _ _ c3, by rw [World.frozen?_setCell]; exact f3, ?_, unhide HB1, hs1⟩
          rw [unhide HN, cellsP_append, List.length_append, unhide HNU]
          exact unhide HO1
        case measure => simp [intOf]; omega
      · rw [if_neg hx, List.append_nil] at HN
        go_wp2
        go_roundw
        case rel => exact ⟨k + 1, _, by omega, by go_num, hc, hf, by rw [unhide HN]; exact unhide HO, unhide HB, hs⟩
        case measure => simp [intOf]; omega
    · obtain rfl : k = len := by omega
      have eU : usedP l k = usedP l l.length := by rw [hl]
      have hNle : (usedP l k).length ≤ 288 := by have := used_le l k; omega
      obtain ⟨bp, hb1, hb2, hb3, hb4⟩ : ∃ bp, ((usedP l k).length = 0 ∨ va = some ⟨bp, 0, none⟩) ∧ ((usedP l k).length = 0 ∨ bp < wr.heap.size) ∧ w.heap.size ≠ bp ∧ w.heap.size + 1 ≤ bp := by
        rcases hva with h | ⟨g, h1, h2, h3⟩
        · exact ⟨w.heap.size + 1, .inl h, .inl h, by omega, by omega⟩
        · exact ⟨g, .inr h1, .inr h3, by omega, h2⟩
      have HPS : Hid (PS (usedP l k).length bp (dU l) wr) := by
        intro j hj
        have hp1 : va = some ⟨bp, 0, none⟩ := by
          rcases hb1 with h | h
          · omega
          · exact h
        subst hp1
        obtain ⟨q1, q2⟩ := cellsP_at (usedP l k) j hj
        have e : dU l j = (usedP l k).getD j (0, 0) := by unfold dU; rw [eU]
        rw [e]
        exact ⟨⟨(hO.cellAt (j * 2) (by omega)).trans q1, hO.frozenAt _⟩, ⟨(hO.cellAt (j * 2 + 1) (by omega)).trans q2, hO.frozenAt _⟩⟩
      have HRi : Hid (Rise (dU l) 0 (usedP l k).length) := by rw [eU]; exact dU_rise l
      have HSO : Hid (∀ d, Stab.Moved 0 (usedP l k).length (dU l) d → Stab.Srt Stab.lx d 0 (usedP l k).length → Sorted l (usedP l k).length d) := by
        rw [eU]; exact fun d => sorted_of l (unhide HG) d
      have hmf : ∀ (fn : Fn) (first cap : Array Value) (w : World), (Instr.makeFunc fn first cap).run Tryz.prog w = .ok (.func fn first cap) w := fun _ _ _ _ => rfl
      clear hO hB HO0 HB0 eU hva
      generalize (usedP l k).length = N at *
      generalize usedP l k = U at *
      go_wp2_with fail
      refine (sliceStable_any N bp w.heap.size vc va (dU l) wr hNle hb1 hb2 (by omega) hb3 hc (unhide HPS) (unhide HRi)).mono ?_
      rintro e w2 ⟨rfl, d, p1, p2, p3, g2⟩
      have HSd := hide (unhide HSO d p2 p3)
      have HP2 := hide p1
      have c2 := g2.cell hc (by simpa using hb3)
      have HB2 := hide ((unhide HB).grown g2 (by omega) (fun j h => by cases h; omega))
      have hz2' := g2.size
      clear p1 p2 p3 g2 hc hf HPS HRi HSO HO HB hmf
      obtain ⟨i1, hi1, y0, y1, y2⟩ := info_parts infoStr
      go_wp2_with (at_make; refine wpList_make_full _ rfl _ _ 98 rfl w.heap.size 9 i1 (.string ByteArray.empty) 1 Tryz.underlying98 hi1 y0 y1 _ _ _ _ k rfl rfl rfl rfl (by rw [y2]; omega) (by unfold maxLen; omega) (by omega) ?_)
      intro w3 hown3 hgrow3
      have e0 : (madeCells #[Value.string ByteArray.empty] k).toList = List.replicate k (.string (text [])) := by
        rw [toList_madeCells_one]; rfl
      rw [e0] at hown3
      have HO3 := hide hown3
      have hgl := (hown3.lt _ rfl).2
      have HB3 := hide (below_none (unhide HB2) hgrow3 (by omega))
      have HP3 : Hid (PS N bp d w3) := by
        by_cases h0 : N = 0
        · subst h0; intro j hj; omega
        · exact (unhide HP2).kept hgrow3 (by omega)
      have c3 := hgrow3.cell c2 (by simp)
      have hgN : N = 0 ∨ bp < w2.heap.size := by omega
      have hz3 := hgrow3.size
      have hG2 : w.heap.size + 1 ≤ w2.heap.size := by omega
      have HXS : Hid (OutTo l (fun i => (d i).2.toNat) k 0 (List.replicate k (.string (text [])))) := ⟨by simp, fun i h => by omega, fun q hq => .inr (by simp [hq])⟩
      clear hown3 hgrow3 e0 HP2 HB2 c2 hi1 y0 y1 y2 i1
      generalize w2.heap.size = g at *
      go_wp2
      go_loopw [7, 36] (fun vc vi wq => ∃ (i : Nat) (cs : List Bool) (xs : List Value), i ≤ N ∧ vi = .int .i64 (i : Int) ∧ vc = .string (text cs) ∧ CodeAt l d i cs ∧ wq.ownsRow w.heap.size 9 1 (.slice (some ⟨g, 0, none⟩) k k) k xs ∧ OutTo l (fun i => (d i).2.toNat) k i xs ∧ PS N bp d wq ∧ Below w.heap.size w wq ∧ g < wq.heap.size) (fun _ vi _ => N - (intOf vi).toNat)
      case atStart => exact ⟨0, [], _, Nat.zero_le _, rfl, rfl, .inl ⟨rfl, rfl⟩, unhide HO3, unhide HXS, unhide HP3, unhide HB3, hgl⟩
      case round =>
        obtain ⟨i, cs, xs, hiN, rfl, rfl, hcs, hO, hxs, hP, hB, hgw⟩ := hrel
        have HO4 := hide hO
        have HX4 := hide hxs
        have HP4 := hide hP
        have HB4 := hide hB
        have HCS := hide hcs
        by_cases hlt : i < N
        · obtain ⟨n, q, hd, hq, hlq, hn0, hn15, _⟩ := (unhide HSd).at' i hlt
          have c1 := (hP i hlt).1.1
          have c2 := (hP i hlt).2.1
          rw [hd] at c1 c2
          simp only at c1 c2
          have HD := hide hd
          obtain ⟨y, hy⟩ : ∃ y, xs[q]? = some y := ⟨xs[q]'(by rw [hO.1]; omega), by simp⟩
          have hqk : (q : Int) < (k : Int) := by omega
          have cg := (hO.cellAt q (by omega)).trans hy
          have fg := hO.frozenAt q
          clear hO hxs hP hB hcs hd hy
          have HW : Hid (∀ wz : World, wz.ownsRow w.heap.size 9 1 (.slice (some ⟨g, 0, none⟩) k k) k xs → (wz.setCell ⟨g, q, none⟩ (.string (text (codeT l q)))).ownsRow w.heap.size 9 1 (.slice (some ⟨g, 0, none⟩) k k) k (xs.set q (.string (text (codeT l q))))) := fun wz h => (h.stored q _).1
          have HXn : Hid (OutTo l (fun i => (d i).2.toNat) k (i + 1) (xs.set q (.string (text (codeT l q))))) := out_next (unhide HX4) (by rw [unhide HD]; simp) (by omega)
          have HCn : Hid (CodeAt l d (i + 1) (hb (codeN l q) n)) := .inr ⟨by omega, n, q, unhide HD, rfl, hn15⟩
          have HT : Hid (codeT l q = hb (codeN l q) n) := by unfold Hid codeT; rw [hlq]; simp
          have hbg : bp ≠ g := by omega
          obtain rfl : va = some ⟨bp, 0, none⟩ := by
            rcases hb1 with h | h
            · omega
            · exact h
          by_cases hi0 : i = 0
          · have e1 : cs = [] := by
              rcases unhide HCS with ⟨_, h⟩ | ⟨h, _⟩
              · exact h
              · omega
            subst e1
            have hno : ¬ (0 : Int) < (i : Int) := by omega
            have e2 : codeN l q = 0 := (unhide HSd).first (by omega) (by rw [← hi0]; exact unhide HD)
            have e3 : hb (codeN l q) n = List.replicate n false := by rw [e2, hb_zero]
            have E3 := hide e3
            have ts : (text []).size = 0 := rfl
            have ts2 := text_size (List.replicate n false)
            rw [List.length_replicate] at ts2
            clear e2 e3 hi0
            have hcat : text [] ++ text (List.replicate n false) = text (hb (codeN l q) n) := by rw [text_app, List.nil_append, unhide E3]
            go_wp2_with fail
            refine (rep_any n hn15 _).mono ?_
            rintro e w5 ⟨rfl, rfl⟩
            rw [unhide HT] at HW HXn
            have HWn := hide (unhide HW wr (unhide HO4))
            have cgA := cell_alloc' cg (.cells #[.int .i64 (n : Int), .int .i64 (q : Int)] 125)
            have fgA := frozen_alloc' fg hgw (.cells #[.int .i64 (n : Int), .int .i64 (q : Int)] 125)
            go_wp2
            go_roundw
            case rel => exact ⟨i + 1, hb (codeN l q) n, _, by omega, by go_num, rfl, unhide HCn, (unhide HWn).alloc _, unhide HXn, ((unhide HP4).other hbg _).alloc (by simp; omega) _, ((unhide HB4).setCell (p := ⟨g, q, none⟩) (by simp; omega) _).alloc (by simp; omega) _, by simp; omega⟩
            case measure => simp [intOf]; omega
          · obtain ⟨n0, q0, hd0, e1, hn0'⟩ : ∃ n0 q0 : Nat, d (i - 1) = ((n0 : Int), (q0 : Int)) ∧ cs = hb (codeN l q0) n0 ∧ n0 ≤ 15 := by
              rcases unhide HCS with ⟨h, _⟩ | ⟨_, h⟩
              · omega
              · exact h
            have hyes : (0 : Int) < (i : Int) := by omega
            obtain ⟨m1, m2, m3⟩ := (unhide HSd).next (unhide HG) (i := i - 1) (by omega) hd0 (by rw [show i - 1 + 1 = i by omega]; exact unhide HD)
            obtain ⟨ab, t, b1, b2⟩ := hb_inc n0 (codeN l q0) m2
            have hlab : ab.length + 1 + t = n0 := by
              have := congrArg List.length b1
              rw [hb_length] at this
              simp at this; omega
            have e4 : hb (codeN l q) n = (ab ++ true :: List.replicate t false) ++ List.replicate (n - n0) false := by
              have hp := hb_pad (codeN l q0 + 1) n0 (n - n0)
              rw [show n0 + (n - n0) = n by omega, ← m3, b2] at hp
              exact hp
            rw [b1] at e1
            subst e1
            have E4 := hide e4
            have HCat1 : Hid (((text (ab ++ false :: List.replicate t true)).extract 0 ab.length ++ ⟨#[49]⟩) ++ text (List.replicate t false) = text (ab ++ true :: List.replicate t false)) := by
              rw [text_ext, show (⟨#[49]⟩ : ByteArray) = text [true] from rfl, text_app, text_app, List.append_assoc]; exact rfl
            have hcat2 : text (ab ++ true :: List.replicate t false) ++ text (List.replicate (n - n0) false) = text (hb (codeN l q) n) := by rw [text_app, unhide E4]
            have ts0 := text_size (ab ++ false :: List.replicate t true)
            rw [show (ab ++ false :: List.replicate t true).length = n0 by simp; omega] at ts0
            have ts1 := text_size (ab ++ true :: List.replicate t false)
            rw [show (ab ++ true :: List.replicate t false).length = n0 by simp; omega] at ts1
            have ts2 := text_size (List.replicate t false)
            rw [List.length_replicate] at ts2
            have ts3 := text_size (List.replicate (n - n0) false)
            rw [List.length_replicate] at ts3
            have HLast := hide (fun w => last_any ab t w (by omega))
            have hla : (ab.length : Int) ≤ (n0 : Int) := by omega
            have hT : (n0 : Int) - (ab.length : Int) - 1 = (t : Int) := by omega
            have hD2 : (n : Int) - (n0 : Int) = ((n - n0 : Nat) : Int) := by omega
            have HTl : t ≤ 15 := by omega
            clear hi0 hd0 hn0' m1 m2 m3 b1 b2 e4 hlab
            generalize ab.length = la at *
            generalize hTT : text (ab ++ false :: List.replicate t true) = T0 at *
            have HTT := hide hTT
            clear hTT
            go_wp2_with fail
            refine (unhide HLast _).mono ?_
            rintro e w5 ⟨rfl, rfl⟩
            go_wp2
            go_quiet ((go_at_call 61; refine Calls.quiet_of_same (rep_any t HTl _)))
            rw [unhide HCat1]
            go_wp2_with fail
            refine (rep_any (n - n0) (by omega) _).mono ?_
            rintro e w5 ⟨rfl, rfl⟩
            rw [unhide HT] at HW HXn
            have HWn := hide (unhide HW wr (unhide HO4))
            have cgA := cell_alloc' cg (.cells #[.int .i64 (n : Int), .int .i64 (q : Int)] 125)
            have fgA := frozen_alloc' fg hgw (.cells #[.int .i64 (n : Int), .int .i64 (q : Int)] 125)
            go_wp2
            go_roundw
            case rel => exact ⟨i + 1, hb (codeN l q) n, _, by omega, by go_num, rfl, unhide HCn, unhide HW ((wr.alloc _).drewN nq) ((unhide HO4).alloc _), unhide HXn, PS.other (a := ⟨g, q, none⟩) (PS.drewN ((unhide HP4).alloc (by omega) _) nq) hbg _, Below.setCell (p := ⟨g, q, none⟩) (below_drewN ((unhide HB4).alloc (by omega) _) nq) (by simp; omega) _, by simp; omega⟩
            case measure => simp [intOf]; omega
        · obtain rfl : i = N := by omega
          have HF : Hid (xs = (List.range k).map fun q => .string (text (codeT l q))) := out_all (unhide HG) hl hxs (unhide HSd)
          clear hO hxs hP hB hcs
          go_wp2
          go_ret
          exact ⟨g, rfl, unhide HB4, by omega, by rw [← unhide HF]; exact unhide HO4⟩
end Go.Proofs.YtekgcoajgbpniacGreat
