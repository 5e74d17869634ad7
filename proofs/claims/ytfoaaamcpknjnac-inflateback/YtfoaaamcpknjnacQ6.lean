/-
  A Stored block's bytes.
-/
import Derived.Test.YtfoaaamcpknjnacQ5
import Derived.Test.YtfoaaamcpknjnacQ4
import Derived.Laws.AppendOwnNone
import Derived.Test.YtfoaaamcpknjnacQ0
namespace Go.Proofs.Ytfoaaamcpknjnac
open Go.RowKit
set_option linter.unusedVariables false
set_option maxRecDepth 100000

theorem free_pad (S : List Bool) : freeN (padB S).length = 0 := by rw [padB_length]; have := freeN_sum S.length; unfold freeN at *; omega
theorem pad_self {S : List Bool} (h : freeN S.length = 0) : padB S = S := by unfold padB; rw [h]; simp

theorem turned_all : (List.range 3001).all (fun n => bits .and .i64 (bits .xor .i64 (-1) (n : Int)) 65535 == ((65535 - n : Nat) : Int)) = true := by decide +kernel
theorem turned_is {n : Nat} (h : n ≤ 3000) : bits .and .i64 (bits .xor .i64 (-1) (n : Int)) 65535 = ((65535 - n : Nat) : Int) := by
  have := List.all_eq_true.1 turned_all n (by simp; omega)
  simpa using this
theorem src_cells {w : World} {a : Option Addr} {bs : List Nat} {n cap : Nat} (hl : bs.length = n) (hB : BytesIn w a bs) (hnil : a = none → cap = 0) : (a = none ∧ n = 0 ∧ cap = 0 ∧ bs = []) ∨ ∃ ad, a = some ad ∧ ∀ j u, (u8s bs)[j]? = some u → w.cell? (ad.add j) = some u := by
  cases a with
  | none =>
    rcases hB with h | ⟨b, o, e, _⟩
    · subst h; exact .inl ⟨rfl, hl.symm, hnil rfl, rfl⟩
    · cases e
  | some ad =>
    refine .inr ⟨ad, rfl, ?_⟩
    rcases hB with h | ⟨b, o, e, hb, h⟩
    · subst h; intro j u hj; simp at hj
    · cases e
      intro j u hj
      have e1 : (⟨b, o, none⟩ : Addr).add j = ⟨b, o + j, none⟩ := by unfold Addr.add; split <;> simp_all
      have hj2 : j < bs.length := by
        by_cases c : j < bs.length
        · exact c
        · rw [List.getElem?_eq_none (by simp; omega)] at hj; cases hj
      rw [e1, h j hj2]
      simp [hj2] at hj
      subst hj
      simp [List.getD, hj2]
theorem bytes_kp {w w' : World} {a : Option Addr} {bs : List Nat} (h : BytesIn w a bs) (hs : w.heap.size ≤ w'.heap.size) (hk : ∀ b o, a = some ⟨b, o, none⟩ → bs ≠ [] → b < w.heap.size → w'.heap[b]? = w.heap[b]?) : BytesIn w' a bs := by
  by_cases e : bs = []
  · exact .inl e
  · rcases h with h | ⟨b, o, rfl, hb, hT⟩
    · exact absurd h e
    · exact .inr ⟨b, o, rfl, by omega, fun j hj => (World.cell?_of_block (w := w) (a := ⟨b, _, none⟩) (hk b o rfl e hb)).trans (hT j hj)⟩

set_option maxHeartbeats 1000000 in
theorem putStored_any (No : Nat → Prop) (B rb : Nat) (a : Option Addr) (n cap : Nat) (bs : List Nat) (S : List Bool) (w : World) (h : RIs No B w rb S) (hl : bs.length = n) (hn : n ≤ 3000) (hnil : a = none → cap = 0) (hB : BytesIn w a bs) (hx : ∀ j, bs.getD j 0 < 256) (hTn : ∀ b o, a = some ⟨b, o, none⟩ → bs ≠ [] → No b) (hNo : ∀ g, w.heap.size ≤ g → ¬ No g) (hS : S.length ≤ 290000) :
    Calls Try.prog 35 #[.pointer (some ⟨rb, 0, none⟩), .slice a n cap] w fun e w' => e = .returned (.tuple #[]) ∧ Rp No B w rb (storB S bs) w' := by
  obtain ⟨i0, hi, hz0, hz1, hz2⟩ := info_parts info_u8
  have hpl := padB_length S
  have hfl := freeN_lt S.length
  have H1 := hide (rfill_any No B rb S w h)
  have H2 := hide (fun w1 (r : Rp No B w rb (padB S) w1) => rput_any No B rb n 16 (padB S) w1 r.is (by omega) (by decide) (by omega) (fun g hg => hNo g (by have := r.below.size; omega)))
  have H3 := hide (fun w2 (r : Rp No B w rb (padB S ++ numBits n 16) w2) => rput_any No B rb (65535 - n) 16 (padB S ++ numBits n 16) w2 r.is (by omega) (by decide) (by rw [List.length_append, numBits_length]; omega) (fun g hg => hNo g (by have := r.below.size; omega)))
  have hE : storB S bs = padB S ++ numBits n 16 ++ numBits (65535 - n) 16 ++ rowB bs bs.length := by unfold storB padB; rw [hl]
  rw [hE]
  have ht := turned_is hn
  have HKP := hide (fun w3 S3 (r : Rp No B w rb S3 w3) => bytes_kp hB r.below.size (fun b o e hne hb => r.kp b hb (hTn b o e hne)))
  have HL := hide hl
  have HX := hide hx
  have HNIL := hide hnil
  have HNo := hide hNo
  have hbl := h.lt
  have hbb := h.base
  have hbn := h.no
  clear hE h hB hTn hnil hx hl hNo
  go_enter Try.func35, Try.ntmps35
  go_wp2_with fail
  refine (unhide H1).mono ?_
  rintro e w1 ⟨rfl, q1⟩
  have HP2 := hide (unhide H2 w1 q1)
  have HQ1 := hide q1
  clear q1 H1 H2
  go_wp2_with fail
  refine (unhide HP2).mono ?_
  rintro e w2 ⟨rfl, q2⟩
  have q2' := (unhide HQ1).trans q2
  have HP3 := hide (unhide H3 w2 q2')
  have HQ2 := hide q2'
  clear q2 q2' H3 HP2 HQ1
  go_wp2_with fail
  refine (unhide HP3).mono ?_
  rintro e w3 ⟨rfl, q3⟩
  have q3' := (unhide HQ2).trans q3
  obtain ⟨S3, hS3⟩ : ∃ S3, padB S ++ numBits n 16 ++ numBits (65535 - n) 16 = S3 := ⟨_, rfl⟩
  rw [hS3] at q3'
  have hl3 : S3.length = (padB S).length + 32 := by rw [← hS3]; simp [numBits_length]
  have hf3 : freeN S3.length = 0 := by
    have := free_pad S
    rw [hl3]
    unfold freeN at *
    omega
  have HS3 := hide hS3
  obtain ⟨ov, old, h1, h2, h3, h4, h5⟩ := q3'.is.ex
  rw [pad_self hf3] at h5
  rw [hf3] at h1
  have hol := congrArg List.length h5
  rw [rowB_length] at hol
  have hsrc := src_cells (unhide HL) (unhide HKP w3 _ q3') (unhide HNIL)
  have c0 : w3.cell? ⟨rb, 0, none⟩ = some ov := heap_row h1
  have f0 := frozen_of_row w3 rb 0 _ _ h1
  obtain ⟨L, hL⟩ : ∃ L, old.length = L := ⟨_, rfl⟩
  rw [hL] at h2 hol
  have hz3 := q3'.below.size
  have HFIN : Hid (∀ v' w4, w4.ownsRow (rb + 1) 5 1 v' (L + n) (u8s old ++ u8s bs) → w3.grownBy w4 ov.ownBlock → (v'.ownBlock = ov.ownBlock ∨ v'.ownBlock = some w3.heap.size) → w4.cell? ⟨rb, 0, none⟩ = some ov ∧ w4.frozen? ⟨rb, 0, none⟩ = false ∧ Rp No B w rb (padB S ++ numBits n 16 ++ numBits (65535 - n) 16 ++ rowB bs bs.length) (w4.setCell ⟨rb, 0, none⟩ v')) := by
    intro v' w4 hO4 hgrow hspot
    have hgb : w4.heap[rb]? = some (.cells #[ov, .int .i64 ((0 : Nat) : Int)] 54 (0, 0)) := (hgrow.block rb (by omega) (fun e => by have := (h2.lt rb e.symm).1; omega)).trans h1
    have hs := grown_setCell w4 rb 0 v'
    have hsz := hgrow.size
    have hlB : (rowB bs bs.length).length = 8 * n := by rw [rowB_length, unhide HL]
    have hf4 : freeN (S3 ++ rowB bs bs.length).length = 0 := by
      rw [List.length_append, hlB]
      unfold freeN at *
      omega
    refine ⟨heap_row hgb, frozen_of_row w4 rb 0 _ _ hgb, ?_⟩
    rw [hS3]
    refine ⟨⟨hbb, hbn, v', old ++ bs, ?_, ?_, ?_, ?_, ?_⟩, ?_, ?_⟩
    · rw [hf4, heap_setCell_same _ rb 0 _ _ _ hgb]; rfl
    · rw [List.length_append, hL, unhide HL]
      have e : u8s (old ++ bs) = u8s old ++ u8s bs := by simp
      rw [e]
      refine hO4.kept hs ?_
      cases hx : v'.ownBlock with
      | none => exact .inl rfl
      | some g =>
        refine .inr (fun e => ?_)
        have := (hO4.lt g hx).1
        cases e
        omega
    · intro g hg
      rcases hspot with e | e
      · exact h3 g (by rw [← e]; exact hg)
      · rw [e] at hg
        have := Option.some.inj hg
        exact unhide HNo g (by omega)
    · intro j
      by_cases hj : j < old.length
      · have := h4 j
        simp only [List.getD] at this ⊢
        rw [List.getElem?_append_left hj]
        exact this
      · have := unhide HX (j - old.length)
        simp only [List.getD] at this ⊢
        rw [List.getElem?_append_right (by omega)]
        exact this
    · rw [pad_self hf4, List.length_append, rowB_app old bs bs.length, ← hL] at *
      rw [h5]
    · exact (q3'.below.grown hgrow (by omega) (fun g e => by have := (h2.lt g e).1; omega)).grown hs (by omega) (fun g e => by cases e; exact hbb)
    · exact (q3'.kp.grown hgrow hz3 (fun g e => h3 g e)).grown hs (by omega) (fun g e => by cases e; exact hbn)
  have HO := hide h2
  have hL40 : L ≤ 40000 := by omega
  have hL1 : 0 < L := by omega
  obtain ⟨ga, ca, hov, _, _⟩ := own_shape h2 hL1
  clear h1 h2 h3 h4 h5 q3 q3' HP3 HQ2 hol hpl hS3 hl3 hf3 HKP ht
  subst hov
  rcases hsrc with ⟨rfl, rfl, rfl, rfl⟩ | ⟨ad, rfl, hcs⟩
  · have hF := unhide HFIN _ w3 (by simpa using unhide HO) (grown_refl w3 _) (.inl rfl)
    have HF := hide hF.2.2
    clear hF HFIN
    go_wp2_with (at_builtin; refine wpList_append_own_none rfl _ _ 22 rfl (rb + 1) 5 i0 1 Try.underlying22 hi _ L (u8s old) rfl (unhide HO) rfl ?_)
    go_end0
    exact ⟨rfl, unhide HF⟩
  · have HCS := hide hcs
    clear hcs
    go_wp2_with (at_builtin; refine wpList_append_own_at _ rfl _ _ 22 rfl (rb + 1) 5 i0 (.int .u8 0) 1 1 Try.underlying22 hi hz0 hz1 hz2 rfl (by decide) _ L (u8s old) rfl (unhide HO) ad n cap (u8s bs) rfl (by rw [List.length_map, unhide HL, Nat.mul_one]) (unhide HCS) (by intro u hu; obtain ⟨x, _, rfl⟩ := List.mem_map.1 hu; rfl) (by unfold maxLen; omega) (by omega) (by omega) ?_)
    intro v' w4 hO4 hgrow _ hspot
    obtain ⟨r0, r1, r2⟩ := unhide HFIN v' w4 hO4 hgrow hspot
    obtain ⟨g9, c9, hv9, _, _⟩ := own_shape hO4 (by omega)
    have HF := hide r2
    subst hv9
    clear hO4 hgrow hspot r2 HFIN HO
    go_wp2
    go_end0
    exact ⟨rfl, unhide HF⟩
end Go.Proofs.Ytfoaaamcpknjnac

/-
  The library's stable sort over places, held against each other by how often they are wanted: the row of places in memory, the comparison, the exchange of two ranges, the turning.
-/
namespace Go.Proofs.Ytfoaaamcpknjnac
open Go.RowKit
set_option linter.unusedVariables false

/-- the places that stand in block bp: d k is the k-th, with how often it is wanted ahead of it -/
def PC (N bp : Nat) (l : List Int) (d : Nat → Int × Int) (W : World) : Prop :=
  ∀ k, k < N → (W.cell? ⟨bp, k, none⟩ = some (.int .i64 (d k).2) ∧ W.frozen? ⟨bp, k, none⟩ = false) ∧ ∃ p : Nat, (d k).2 = p ∧ p < l.length ∧ (d k).1 = l.getD p 0

/-- what the comparison reads -/
structure Cx (bp bx bl ol ln lc : Nat) (l : List Int) (W : World) : Prop where
  box : W.cell? ⟨bx, 0, none⟩ = some (.slice (some ⟨bl, ol, none⟩) ln lc)
  row : Row .i64 W bl ol l
  len : l.length = ln
  sm : ln ≤ 288
  xlt : bx < W.heap.size
  llt : bl < W.heap.size
  plt : bp < W.heap.size
  xne : bx ≠ bp
  lne : bl ≠ bp
theorem Cx.grown {bp bx bl ol ln lc : Nat} {l : List Int} {W W' : World} (h : Cx bp bx bl ol ln lc l W) (g : W.grownBy W' (some bp)) : Cx bp bx bl ol ln lc l W' :=
  ⟨g.cell h.box (by simpa using h.xne), fun j hj => g.cell (h.row j hj) (by simpa using h.lne), h.len, h.sm, Nat.lt_of_lt_of_le h.xlt g.size, Nat.lt_of_lt_of_le h.llt g.size, Nat.lt_of_lt_of_le h.plt g.size, h.xne, h.lne⟩
theorem Cx.drewN {bp bx bl ol ln lc : Nat} {l : List Int} {W : World} (h : Cx bp bx bl ol ln lc l W) (n : Nat) : Cx bp bx bl ol ln lc l (W.drewN n) := ⟨h.box, h.row, h.len, h.sm, h.xlt, h.llt, h.plt, h.xne, h.lne⟩

/-- below, above or the same -/
def cmp3 (x y : Int) : Int := if x < y then -1 else if y < x then 1 else 0
theorem cmp3_lt (x y : Int) : decide (cmp3 x y < 0) = decide (x < y) := by
  unfold cmp3
  by_cases h : x < y
  · rw [if_pos h]; simp [h]
  · rw [if_neg h]
    by_cases h2 : y < x
    · rw [if_pos h2]; simp [h]
    · rw [if_neg h2]; simp [h]

theorem compare_any (x y : Int) (w : World) : Calls Try.prog 150 #[.int .i64 x, .int .i64 y] w fun e w' => e = .returned (.int .i64 (cmp3 x y)) ∧ ∃ q, w' = w.drewN q := by
  have hn : ∀ (x : Int) w, Calls Try.prog 156 #[.int .i64 x] w fun e w' => e = .returned (.bool false) ∧ w' = w := by
    intro x w
    have hx : (x != x) = false := by simp
    go_enter Try.func156, Try.ntmps156
    go_wp2
    go_ret
    exact ⟨rfl, rfl⟩
  unfold cmp3
  go_enter Try.func150, Try.ntmps150
  go_wp2_with fail
  refine (hn x w).mono ?_
  rintro e w1 ⟨rfl, rfl⟩
  go_wp2_with fail
  refine (hn y w1).mono ?_
  rintro e w2 ⟨rfl, rfl⟩
  by_cases h : x < y
  · go_wp2
    go_ret
    exact ⟨rfl, 0, rfl⟩
  · by_cases h2 : y < x
    · go_wp2
      go_ret
      exact ⟨rfl, 0, rfl⟩
    · go_wp2
      go_ret
      exact ⟨rfl, 0, rfl⟩

abbrev CF (bx : Nat) : Value := .func (.func 149) #[] #[.pointer (some ⟨bx, 0, none⟩)]

set_option maxHeartbeats 1000000 in
theorem closure_any (bp bx bl ol ln lc : Nat) (l : List Int) (W : World) (p q : Nat) (hp : p < l.length) (hq : q < l.length) (hX : Cx bp bx bl ol ln lc l W) :
    Calls Try.prog 149 #[.int .i64 p, .int .i64 q, .pointer (some ⟨bx, 0, none⟩)] W fun e w' => e = .returned (.int .i64 (cmp3 (l.getD p 0) (l.getD q 0))) ∧ ∃ q, w' = W.drewN q := by
  have hb := hX.box
  have c1 := hX.row p hp
  have c2 := hX.row q hq
  have hl := hX.len
  have hs := hX.sm
  generalize l.getD p 0 = x at *
  generalize l.getD q 0 = y at *
  have hiI : (p : Int) < (ln : Int) := by omega
  have hjI : (q : Int) < (ln : Int) := by omega
  clear hX
  go_enter Try.func149, Try.ntmps149
  go_wp2
  go_quiet ((go_at_call 150; refine Calls.quiet_of (compare_any _ _ _)))
  go_wp2
  go_ret
  exact ⟨rfl, _, rfl⟩

theorem cmp_at {N bp bx bl ol ln lc : Nat} {l : List Int} {d : Nat → Int × Int} {W : World} (hP : PC N bp l d W) (hX : Cx bp bx bl ol ln lc l W) (i j : Nat) (hi : i < N) (hj : j < N) (n : Nat) :
    Calls Try.prog 149 #[.int .i64 (d i).2, .int .i64 (d j).2, .pointer (some ⟨bx, 0, none⟩)] (W.drewN n) fun e w' => e = .returned (.int .i64 (cmp3 (d i).1 (d j).1)) ∧ ∃ q, w' = (W.drewN n).drewN q := by
  obtain ⟨_, p, hp1, hp2, hp3⟩ := hP i hi
  obtain ⟨_, q, hq1, hq2, hq3⟩ := hP j hj
  rw [hp1, hq1, hp3, hq3]
  exact closure_any bp bx bl ol ln lc l (W.drewN n) p q hp2 hq2 (hX.drewN n)

/-- two of a row's places exchanged in memory -/
def swC (W : World) (bp : Nat) (x y : Int) (i j : Nat) : World := (W.setCell ⟨bp, i, none⟩ (.int .i64 y)).setCell ⟨bp, j, none⟩ (.int .i64 x)
theorem grown_swC (W : World) (bp : Nat) (x y : Int) (i j : Nat) : W.grownBy (swC W bp x y i j) (some bp) := grown_trans (grown_setCell W bp i _) (grown_setCell _ bp j _)
theorem PC.sw {N bp : Nat} {l : List Int} {d : Nat → Int × Int} {W : World} (hP : PC N bp l d W) (i j : Nat) (hi : i < N) (hj : j < N) : PC N bp l (Stab.swp d i j) (swC W bp (d i).2 (d j).2 i j) := by
  intro k hk
  obtain ⟨⟨c0, f0⟩, h0⟩ := hP k hk
  obtain ⟨⟨ci, _⟩, h1⟩ := hP i hi
  obtain ⟨⟨cj, _⟩, h2⟩ := hP j hj
  unfold swC
  have e2 : (W.setCell ⟨bp, i, none⟩ (.int .i64 (d j).2)).cell? ⟨bp, j, none⟩ ≠ none := by
    by_cases e : i = j
    · subst e; rw [World.cell?_setCell_same' _ _ _ (by rw [ci]; rfl)]; simp
    · rw [World.cell?_setCell_other _ _ _ _ (by intro h; injection h; omega), cj]; simp
  refine ⟨⟨?_, by simp [f0]⟩, ?_⟩
  · unfold Stab.swp
    by_cases e : k = j
    · subst e
      rw [World.cell?_setCell_same' _ _ _ (by rw [Option.isSome_iff_ne_none]; exact e2)]
      by_cases e1 : k = i
      · subst e1; rw [if_pos rfl]
      · rw [if_neg e1, if_pos rfl]
    · rw [World.cell?_setCell_other _ _ _ _ (by intro h; injection h; omega)]
      by_cases e1 : k = i
      · subst e1
        rw [if_pos rfl, World.cell?_setCell_same' _ _ _ (by rw [ci]; rfl)]
      · rw [if_neg e1, if_neg e, World.cell?_setCell_other _ _ _ _ (by intro h; injection h; omega)]
        exact c0
  · unfold Stab.swp
    by_cases e1 : k = i
    · rw [if_pos e1]; exact h2
    · rw [if_neg e1]
      by_cases e : k = j
      · rw [if_pos e]; exact h1
      · rw [if_neg e]; exact h0
theorem PC.c2 {N bp : Nat} {l : List Int} {d : Nat → Int × Int} {W : World} (hP : PC N bp l d W) (i j : Nat) (hi : i < N) (hj : j < N) (v : Value) : ∃ u, (W.setCell ⟨bp, i, none⟩ v).cell? ⟨bp, j, none⟩ = some u := by
  by_cases e : i = j
  · subst e; exact ⟨v, World.cell?_setCell_same _ _ _ (hP i hi).1.1⟩
  · exact ⟨_, (World.cell?_setCell_other _ _ _ _ (by intro h; injection h; omega)).trans (hP j hj).1.1⟩
theorem PC.kept {N bp : Nat} {l : List Int} {d : Nat → Int × Int} {W W' : World} (hP : PC N bp l d W) (hg : W.grownBy W' none) (hb : bp < W.heap.size) : PC N bp l d W' := by
  intro k hk
  obtain ⟨⟨c0, f0⟩, h⟩ := hP k hk
  have e := hg.block bp hb (by simp)
  exact ⟨⟨by rw [World.cell?_of_block (w := W) (a := ⟨bp, k, none⟩) e]; exact c0, by rw [World.frozen?_of_block (w := W) (a := ⟨bp, k, none⟩) e]; exact f0⟩, h⟩
theorem PC.drewN {N bp : Nat} {l : List Int} {d : Nat → Int × Int} {W : World} (hP : PC N bp l d W) (n : Nat) : PC N bp l d (W.drewN n) := hP
theorem grown_drewN {a b : World} {r : Option Nat} (h : a.grownBy b r) (n : Nat) : a.grownBy (b.drewN n) r := ⟨h.os, h.tape, h.output, h.size, h.block⟩

set_option maxHeartbeats 1000000 in
set_option maxRecDepth 100000 in
theorem swapRangeC (fv : Value) (N bp cap : Nat) (l : List Int) (d : Nat → Int × Int) (a b n : Nat) (w : World) (hN : N ≤ 288) (ha : a + n ≤ N) (hb : b + n ≤ N) (hP : PC N bp l d w) :
    Calls Try.prog 161 #[.slice (some ⟨bp, 0, none⟩) N cap, .int .i64 a, .int .i64 b, .int .i64 n, fv] w fun e w' => e = .returned (.tuple #[]) ∧ PC N bp l (Stab.swr d a b n) w' ∧ w.grownBy w' (some bp) := by
  have HP := hide hP
  clear hP
  go_enter Try.func161, Try.ntmps161
  go_wp2
  go_loopw [10] (fun vi wr => ∃ i : Nat, i ≤ n ∧ vi = .int .i64 i ∧ PC N bp l (Stab.swr d a b i) wr ∧ w.grownBy wr (some bp)) (fun vi _ => n - (intOf vi).toNat)
  case atStart => exact ⟨0, Nat.zero_le _, rfl, unhide HP, grown_refl _ _⟩
  case round =>
    obtain ⟨i, hi, rfl, hPi, hg⟩ := hrel
    have HPi := hide hPi
    have HG := hide hg
    have HS : Hid (Stab.swr d a b (i + 1) = Stab.swp (Stab.swr d a b i) (a + i) (b + i)) := rfl
    clear hPi hg
    by_cases hlt : i < n
    · generalize Stab.swr d a b i = di at *
      obtain ⟨s, hs⟩ : ∃ s, s = a + i := ⟨_, rfl⟩
      obtain ⟨t, ht⟩ : ∃ t, t = b + i := ⟨_, rfl⟩
      have hsN : s < N := by omega
      have htN : t < N := by omega
      have c1 := ((unhide HPi) s hsN).1.1
      have f1 := ((unhide HPi) s hsN).1.2
      have c2 := ((unhide HPi) t htN).1.1
      have f2 := ((unhide HPi) t htN).1.2
      have HSW := hide ((unhide HPi).sw s t hsN htN)
      have HGS := hide (grown_trans (unhide HG) (grown_swC wr bp (di s).2 (di t).2 s t))
      obtain ⟨u, c3⟩ := PC.c2 (unhide HPi) s t hsN htN (.int .i64 (di t).2)
      generalize (di s).2 = x at *
      generalize (di t).2 = y at *
      have ea : ((a : Int) + (i : Int)).toNat = s := by omega
      have pa : (0 : Int) ≤ (a : Int) + (i : Int) := by omega
      have ba : (a : Int) + (i : Int) < (N : Int) := by omega
      have ra : IntKind.i64.wrap ((a : Int) + (i : Int)) = (a : Int) + (i : Int) := by rw [IntKind.wrap_i64]; omega
      have ec : ((b : Int) + (i : Int)).toNat = t := by omega
      have pc : (0 : Int) ≤ (b : Int) + (i : Int) := by omega
      have bc : (b : Int) + (i : Int) < (N : Int) := by omega
      have rc : IntKind.i64.wrap ((b : Int) + (i : Int)) = (b : Int) + (i : Int) := by rw [IntKind.wrap_i64]; omega
      rw [← hs, ← ht] at HS
      clear hs ht hsN htN HPi
      go_wp2_with fail
      go_big_region
      clear c1 c2 c3 f1 f2
      unfold swC at HSW HGS
      have HGD := hide (grown_drew (unhide HGS))
      clear HGS
      go_wp2
      go_roundw
      case rel => exact ⟨i + 1, by omega, by go_num, by rw [unhide HS]; exact unhide HSW, unhide HGD⟩
      case measure => simp [intOf]; omega
    · obtain rfl : i = n := by omega
      go_wp2
      go_end0
      exact ⟨rfl, unhide HPi, unhide HG⟩
set_option maxHeartbeats 2000000 in
theorem rotateC (fv : Value) (N bp cap : Nat) (l : List Int) (d : Nat → Int × Int) (a m b : Nat) (w : World) (hN : N ≤ 288) (ha : a < m) (hm : m < b) (hb : b ≤ N) (hP : PC N bp l d w) :
    Calls Try.prog 160 #[.slice (some ⟨bp, 0, none⟩) N cap, .int .i64 a, .int .i64 m, .int .i64 b, fv] w fun e w' => e = .returned (.tuple #[]) ∧ PC N bp l (Stab.rot d a m b) w' ∧ w.grownBy w' (some bp) := by
  have HP := hide hP
  have HR : Hid (Stab.rot d (m - (m - a)) m (m + (b - m)) = Stab.rot d a m b) := by rw [show m - (m - a) = a by omega, show m + (b - m) = b by omega]; exact rfl
  clear hP
  go_enter Try.func160, Try.ntmps160
  go_wp2
  go_loopw [10, 11] (fun vi vj wr => ∃ (i j : Nat) (dk : Nat → Int × Int), 0 < i ∧ 0 < j ∧ i ≤ m - a ∧ j ≤ b - m ∧ vi = .int .i64 i ∧ vj = .int .i64 j ∧ Stab.rot dk (m - i) m (m + j) = Stab.rot d a m b ∧ PC N bp l dk wr ∧ w.grownBy wr (some bp)) (fun vi vj _ => (intOf vi).toNat + (intOf vj).toNat)
  case atStart => exact ⟨m - a, b - m, d, by omega, by omega, Nat.le_refl _, Nat.le_refl _, by go_num, by go_num, unhide HR, unhide HP, grown_refl _ _⟩
  case round =>
    obtain ⟨i, j, dk, hi0, hj0, hi, hj, rfl, rfl, hrot, hPk, hg⟩ := hrel
    have HPk := hide hPk
    have HG := hide hg
    have HRot := hide hrot
    clear hPk hg hrot
    rcases Nat.lt_trichotomy i j with hij | hij | hij
    · have hne : ((i : Int) != (j : Int)) = true := by rw [bne_iff_ne]; omega
      have hle : ¬ (j : Int) < (i : Int) := by omega
      have E1 : Hid ((m : Int) - (i : Int) = ((m - i : Nat) : Int)) := by unfold Hid; omega
      have E2 : Hid ((m : Int) + (j : Int) - (i : Int) = ((m + j - i : Nat) : Int)) := by unfold Hid; omega
      go_wp2_with fail
      rw [unhide E1, unhide E2]
      refine (swapRangeC fv N bp cap l dk _ _ _ _ hN (by omega) (by omega) (unhide HPk)).mono ?_
      rintro e w2 ⟨rfl, hP2, hg2⟩
      have HP2 := hide hP2
      have HG2 := hide (grown_trans (unhide HG) hg2)
      have HR2 := hide ((Stab.rot_lt dk m i j hij (by omega)).trans (unhide HRot))
      clear hP2 hg2
      go_wp2
      go_roundw
      case rel => exact ⟨i, j - i, _, hi0, by omega, hi, by omega, rfl, by go_num, unhide HR2, unhide HP2, unhide HG2⟩
      case measure => simp [intOf]; omega
    · subst hij
      have hne : ((i : Int) != (i : Int)) = false := by simp
      have E1 : Hid ((m : Int) - (i : Int) = ((m - i : Nat) : Int)) := by unfold Hid; omega
      go_wp2_with fail
      rw [unhide E1]
      refine (swapRangeC fv N bp cap l dk _ _ _ _ hN (by omega) (by omega) (unhide HPk)).mono ?_
      rintro e w2 ⟨rfl, hP2, hg2⟩
      rw [Stab.rot_eq dk m i (by omega), unhide HRot] at hP2
      have HP2 := hide hP2
      have HG2 := hide (grown_trans (unhide HG) hg2)
      clear hP2 hg2
      go_wp2
      go_end0
      exact ⟨rfl, unhide HP2, unhide HG2⟩
    · have hne : ((i : Int) != (j : Int)) = true := by rw [bne_iff_ne]; omega
      have hle : (j : Int) < (i : Int) := by omega
      have E1 : Hid ((m : Int) - (i : Int) = ((m - i : Nat) : Int)) := by unfold Hid; omega
      go_wp2_with fail
      rw [unhide E1]
      refine (swapRangeC fv N bp cap l dk _ _ _ _ hN (by omega) (by omega) (unhide HPk)).mono ?_
      rintro e w2 ⟨rfl, hP2, hg2⟩
      have HP2 := hide hP2
      have HG2 := hide (grown_trans (unhide HG) hg2)
      have HR2 := hide ((Stab.rot_gt dk m i j hij (by omega)).trans (unhide HRot))
      clear hP2 hg2
      go_wp2
      go_roundw
      case rel => exact ⟨i - j, j, _, by omega, hj0, by omega, hj, by go_num, rfl, unhide HR2, unhide HP2, unhide HG2⟩
      case measure => simp [intOf]; omega
end Go.Proofs.Ytfoaaamcpknjnac
