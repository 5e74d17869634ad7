/-
  A Stored block's bytes.
-/
import Derived.Test.YtoiioemkibfdcacBlk1
import Derived.Test.YtoiioemkibfdcacIn0
import Derived.Laws.AppendOwnNone
namespace Go.Proofs.Ytoiioemkibfdcac
open Go.RowKit
set_option linter.unusedVariables false
set_option maxRecDepth 100000

theorem free_pad (S : List Bool) : freeN (padB S).length = 0 := by rw [padB_length]; have := freeN_sum S.length; unfold freeN at *; omega
theorem pad_self {S : List Bool} (h : freeN S.length = 0) : padB S = S := by unfold padB; rw [h]; simp

theorem turned_all : (List.range 3001).all (fun n => bits .and .i64 (bits .xor .i64 (-1) (n : Int)) 65535 == ((65535 - n : Nat) : Int)) = true := by decide +kernel
theorem turned_is {n : Nat} (h : n ≤ 3000) : bits .and .i64 (bits .xor .i64 (-1) (n : Int)) 65535 = ((65535 - n : Nat) : Int) := by
  have := List.all_eq_true.1 turned_all n (by simp; omega)
  simpa using this
theorem src_cells {w : World} {a : Option Addr} {bs : List Nat} {n cap : Nat} (hl : bs.length = n) (hB : BytesIn w a bs) (hnil : a = none → cap = 0) : (a = none ∧ n = 0 ∧ cap = 0 ∧ bs = []) ∨ ∃ ad, a = some ad ∧ ∀ j u, (u8s bs)[j]? = some u → w.cell? (ad.add j) = some u := by
  cases a with
  | none =>
    rcases hB with h | ⟨b, o, e, _⟩
    · subst h; exact .inl ⟨rfl, hl.symm, hnil rfl, rfl⟩
    · cases e
  | some ad =>
    refine .inr ⟨ad, rfl, ?_⟩
    rcases hB with h | ⟨b, o, e, hb, h⟩
    · subst h; intro j u hj; simp at hj
    · cases e
      intro j u hj
      have e1 : (⟨b, o, none⟩ : Addr).add j = ⟨b, o + j, none⟩ := by unfold Addr.add; split <;> simp_all
      have hj2 : j < bs.length := by
        by_cases c : j < bs.length
        · exact c
        · rw [List.getElem?_eq_none (by simp; omega)] at hj; cases hj
      rw [e1, h j hj2]
      simp [hj2] at hj
      subst hj
      simp [List.getD, hj2]
theorem bytes_kp {w w' : World} {a : Option Addr} {bs : List Nat} (h : BytesIn w a bs) (hs : w.heap.size ≤ w'.heap.size) (hk : ∀ b o, a = some ⟨b, o, none⟩ → bs ≠ [] → b < w.heap.size → w'.heap[b]? = w.heap[b]?) : BytesIn w' a bs := by
  by_cases e : bs = []
  · exact .inl e
  · rcases h with h | ⟨b, o, rfl, hb, hT⟩
    · exact absurd h e
    · exact .inr ⟨b, o, rfl, by omega, fun j hj => (World.cell?_of_block (w := w) (a := ⟨b, _, none⟩) (hk b o rfl e hb)).trans (hT j hj)⟩

set_option maxHeartbeats 1000000 in
theorem putStored_any (No : Nat → Prop) (B rb : Nat) (a : Option Addr) (n cap : Nat) (bs : List Nat) (S : List Bool) (w : World) (h : RIs No B w rb S) (hl : bs.length = n) (hn : n ≤ 3000) (hnil : a = none → cap = 0) (hB : BytesIn w a bs) (hx : ∀ j, bs.getD j 0 < 256) (hTn : ∀ b o, a = some ⟨b, o, none⟩ → bs ≠ [] → No b) (hNo : ∀ g, w.heap.size ≤ g → ¬ No g) (hS : S.length ≤ 290000) :
    Calls Try.prog 35 #[.pointer (some ⟨rb, 0, none⟩), .slice a n cap] w fun e w' => e = .returned (.tuple #[]) ∧ Rp No B w rb (storB S bs) w' := by
  obtain ⟨i0, hi, hz0, hz1, hz2⟩ := info_parts info_u8
  have hpl := padB_length S
  have hfl := freeN_lt S.length
  have H1 := hide (rfill_any No B rb S w h)
  have H2 := hide (fun w1 (r : Rp No B w rb (padB S) w1) => rput_any No B rb n 16 (padB S) w1 r.is (by omega) (by decide) (by omega) (fun g hg => hNo g (by have := r.below.size; omega)))
  have H3 := hide (fun w2 (r : Rp No B w rb (padB S ++ numBits n 16) w2) => rput_any No B rb (65535 - n) 16 (padB S ++ numBits n 16) w2 r.is (by omega) (by decide) (by rw [List.length_append, numBits_length]; omega) (fun g hg => hNo g (by have := r.below.size; omega)))
  have hE : storB S bs = padB S ++ numBits n 16 ++ numBits (65535 - n) 16 ++ rowB bs bs.length := by unfold storB padB; rw [hl]
  rw [hE]
  have ht := turned_is hn
  have HKP := hide (fun w3 S3 (r : Rp No B w rb S3 w3) => bytes_kp hB r.below.size (fun b o e hne hb => r.kp b hb (hTn b o e hne)))
  have HL := hide hl
  have HX := hide hx
  have HNIL := hide hnil
  have HNo := hide hNo
  have hbl := h.lt
  have hbb := h.base
  have hbn := h.no
  clear hE h hB hTn hnil hx hl hNo
  go_enter Try.func35, Try.ntmps35
  go_wp2_with fail
  refine (unhide H1).mono ?_
  rintro e w1 ⟨rfl, q1⟩
  have HP2 := hide (unhide H2 w1 q1)
  have HQ1 := hide q1
  clear q1 H1 H2
  go_wp2_with fail
  refine (unhide HP2).mono ?_
  rintro e w2 ⟨rfl, q2⟩
  have q2' := (unhide HQ1).trans q2
  have HP3 := hide (unhide H3 w2 q2')
  have HQ2 := hide q2'
  clear q2 q2' H3 HP2 HQ1
  go_wp2_with fail
  refine (unhide HP3).mono ?_
  rintro e w3 ⟨rfl, q3⟩
  have q3' := (unhide HQ2).trans q3
  obtain ⟨S3, hS3⟩ : ∃ S3, padB S ++ numBits n 16 ++ numBits (65535 - n) 16 = S3 := ⟨_, rfl⟩
  rw [hS3] at q3'
  have hl3 : S3.length = (padB S).length + 32 := by rw [← hS3]; simp [numBits_length]
  have hf3 : freeN S3.length = 0 := by
    have := free_pad S
    rw [hl3]
    unfold freeN at *
    omega
  have HS3 := hide hS3
  obtain ⟨ov, old, h1, h2, h3, h4, h5⟩ := q3'.is.ex
  rw [pad_self hf3] at h5
  rw [hf3] at h1
  have hol := congrArg List.length h5
  rw [rowB_length] at hol
  have hsrc := src_cells (unhide HL) (unhide HKP w3 _ q3') (unhide HNIL)
  have c0 : w3.cell? ⟨rb, 0, none⟩ = some ov := heap_row h1
  have f0 := frozen_of_row w3 rb 0 _ _ h1
  obtain ⟨L, hL⟩ : ∃ L, old.length = L := ⟨_, rfl⟩
  rw [hL] at h2 hol
  have hz3 := q3'.below.size
  have HFIN : Hid (∀ v' w4, w4.ownsRow (rb + 1) 5 1 v' (L + n) (u8s old ++ u8s bs) → w3.grownBy w4 ov.ownBlock → (v'.ownBlock = ov.ownBlock ∨ v'.ownBlock = some w3.heap.size) → w4.cell? ⟨rb, 0, none⟩ = some ov ∧ w4.frozen? ⟨rb, 0, none⟩ = false ∧ Rp No B w rb (padB S ++ numBits n 16 ++ numBits (65535 - n) 16 ++ rowB bs bs.length) (w4.setCell ⟨rb, 0, none⟩ v')) := by
    intro v' w4 hO4 hgrow hspot
    have hgb : w4.heap[rb]? = some (.cells #[ov, .int .i64 ((0 : Nat) : Int)] 54 (0, 0)) := (hgrow.block rb (by omega) (fun e => by have := (h2.lt rb e.symm).1; omega)).trans h1
    have hs := grown_setCell w4 rb 0 v'
    have hsz := hgrow.size
    have hlB : (rowB bs bs.length).length = 8 * n := by rw [rowB_length, unhide HL]
    have hf4 : freeN (S3 ++ rowB bs bs.length).length = 0 := by
      rw [List.length_append, hlB]
      unfold freeN at *
      omega
    refine ⟨heap_row hgb, frozen_of_row w4 rb 0 _ _ hgb, ?_⟩
    rw [hS3]
    refine ⟨⟨hbb, hbn, v', old ++ bs, ?_, ?_, ?_, ?_, ?_⟩, ?_, ?_⟩
    · rw [hf4, heap_setCell_same _ rb 0 _ _ _ hgb]; rfl
    · rw [List.length_append, hL, unhide HL]
      have e : u8s (old ++ bs) = u8s old ++ u8s bs := by simp
      rw [e]
      refine hO4.kept hs ?_
      cases hx : v'.ownBlock with
      | none => exact .inl rfl
      | some g =>
        refine .inr (fun e => ?_)
        have := (hO4.lt g hx).1
        cases e
        omega
    · intro g hg
      rcases hspot with e | e
      · exact h3 g (by rw [← e]; exact hg)
      · rw [e] at hg
        have := Option.some.inj hg
        exact unhide HNo g (by omega)
    · intro j
      by_cases hj : j < old.length
      · have := h4 j
        simp only [List.getD] at this ⊢
        rw [List.getElem?_append_left hj]
        exact this
      · have := unhide HX (j - old.length)
        simp only [List.getD] at this ⊢
        rw [List.getElem?_append_right (by omega)]
        exact this
    · rw [pad_self hf4, List.length_append, rowB_app old bs bs.length, ← hL] at *
      rw [h5]
    · exact (q3'.below.grown hgrow (by omega) (fun g e => by have := (h2.lt g e).1; omega)).grown hs (by omega) (fun g e => by cases e; exact hbb)
    · exact (q3'.kp.grown hgrow hz3 (fun g e => h3 g e)).grown hs (by omega) (fun g e => by cases e; exact hbn)
  have HO := hide h2
  have hL40 : L ≤ 40000 := by omega
  have hL1 : 0 < L := by omega
  obtain ⟨ga, ca, hov, _, _⟩ := own_shape h2 hL1
  clear h1 h2 h3 h4 h5 q3 q3' HP3 HQ2 hol hpl hS3 hl3 hf3 HKP ht
  subst hov
  rcases hsrc with ⟨rfl, rfl, rfl, rfl⟩ | ⟨ad, rfl, hcs⟩
  · have hF := unhide HFIN _ w3 (by simpa using unhide HO) (grown_refl w3 _) (.inl rfl)
    have HF := hide hF.2.2
    clear hF HFIN
    go_wp2_with (at_builtin; refine wpList_append_own_none rfl _ _ 22 rfl (rb + 1) 5 i0 1 Try.underlying22 hi _ L (u8s old) rfl (unhide HO) rfl ?_)
    go_end0
    exact ⟨rfl, unhide HF⟩
  · have HCS := hide hcs
    clear hcs
    go_wp2_with (at_builtin; refine wpList_append_own_at _ rfl _ _ 22 rfl (rb + 1) 5 i0 (.int .u8 0) 1 1 Try.underlying22 hi hz0 hz1 hz2 rfl (by decide) _ L (u8s old) rfl (unhide HO) ad n cap (u8s bs) rfl (by rw [List.length_map, unhide HL, Nat.mul_one]) (unhide HCS) (by intro u hu; obtain ⟨x, _, rfl⟩ := List.mem_map.1 hu; rfl) (by unfold maxLen; omega) (by omega) (by omega) ?_)
    intro v' w4 hO4 hgrow _ hspot
    obtain ⟨r0, r1, r2⟩ := unhide HFIN v' w4 hO4 hgrow hspot
    obtain ⟨g9, c9, hv9, _, _⟩ := own_shape hO4 (by omega)
    have HF := hide r2
    subst hv9
    clear hO4 hgrow hspot r2 HFIN HO
    go_wp2
    go_end0
    exact ⟨rfl, unhide HF⟩
end Go.Proofs.Ytoiioemkibfdcac
