/-
  putter: a sink that puts all behind a row; coder made.
-/
import Derived.Test.YtoiioemkibfdcacBlk3
import Derived.Test.YtoiioemkibfdcacBlk4
import Derived.Laws.EntriesVeiled
namespace Go.Proofs.Ytoiioemkibfdcac
open Go.RowKit
set_option linter.unusedVariables false
set_option maxRecDepth 100000

theorem coder_any (b o rb len cap : Nat) (l : List Int) (w : World) (hl : l.length = len) (hlen : 1 ≤ len) (hb : b < w.heap.size) (hR : Row .i64 w b o l) (hG : Good l) :
    Calls Try.prog 76 #[.pointer (some ⟨rb, 0, none⟩), .slice (some ⟨b, o, none⟩) len cap] w fun e w' => ∃ gc gl gr, e = .returned (CV gc gl gr) ∧ CIs (fun g => w.heap.size ≤ g ∨ g = b) w' gc gl gr rb (some ⟨b, o, none⟩) len cap l ∧ Below w.heap.size w w' := by
  have HR := hide hR
  have HG := hide hG
  have HL := hide hl
  clear hR hG hl
  go_enter Try.func76, Try.ntmps76
  go_wp2_with fail
  refine (codes_ok (some ⟨b, o, none⟩) len cap l _ (unhide HL) (RowIn.alloc (RowIn.alloc (.inr ⟨b, o, rfl, hb, unhide HR⟩) _) _) (unhide HG)).mono ?_
  rintro e w1 ⟨g, rfl, hO, hB, hg⟩
  have hz := hB.size
  simp only [World.size_alloc] at hz hg
  have HF : Hid (CIs (fun g => w.heap.size ≤ g ∨ g = b) (w1.alloc (.cells #[.slice (some ⟨g, 0, none⟩) len len] 36)) w1.heap.size (w.heap.size + 1) w.heap.size rb (some ⟨b, o, none⟩) len cap l ∧ Below w.heap.size w (w1.alloc (.cells #[.slice (some ⟨g, 0, none⟩) len len] 36))) := by
    have b0 := (Below.refl w.heap.size w).alloc (Nat.le_refl _) (.cells #[.pointer (some ⟨rb, 0, none⟩)] 52)
    have b1 := b0.alloc (by simp) (.cells #[.slice (some ⟨b, o, none⟩) len cap] 36)
    have b2 := b1.trans (hB.mono (by simp; omega))
    have b3 := b2.alloc (by omega) (.cells #[.slice (some ⟨g, 0, none⟩) len len] 36)
    have hgl := (hO.lt g rfl).2
    refine ⟨⟨⟨g, b, o, rfl, ⟨by simp; omega, .inr rfl⟩, ⟨by simp; omega, .inl (by omega)⟩, by simp, fun j hj => (b3.cell (p := ⟨b, _, none⟩) hb).trans (unhide HR j hj), ?_⟩, ?_, ?_, ⟨by simp, .inl (by omega)⟩, ⟨by simp; omega, .inl (by omega)⟩, ⟨by simp; omega, .inl (by omega)⟩⟩, b3⟩
    · intro j hj
      rw [World.cell?_alloc_past _ _ _ (by simpa using hgl)]
      rw [hO.cellAt j (by omega)]
      have hc := codL_length l len
      have hcl : j < (codL l len).length := by rw [hc, unhide HL]; exact hj
      have := codL_at l (j := j) (by rw [unhide HL]; exact hj) len
      rw [if_pos hj] at this
      rw [← this]
      simp [i64s, List.getD, hcl]
    · rw [World.cell?_alloc_past _ _ _ (by show w.heap.size + 1 < _; omega), hB.cell (p := ⟨w.heap.size + 1, 0, none⟩) (by simp only [World.size_alloc]; omega)]
      simp
    · rw [World.cell?_alloc_past _ _ _ (by show w.heap.size < _; omega), hB.cell (p := ⟨w.heap.size, 0, none⟩) (by simp only [World.size_alloc]; omega)]
      simp
  clear hO hB hg
  go_wp2
  go_ret
  exact ⟨_, _, _, rfl, unhide HF⟩

set_option maxHeartbeats 1000000 in
theorem putter_any (b1 o1 n1 c1 b2 o2 n2 c2 rb : Nat) (l1 l2 : List Int) (w : World) (hl1 : l1.length = n1) (hl2 : l2.length = n2) (hn1 : 1 ≤ n1) (hn2 : 1 ≤ n2) (hb1 : b1 < w.heap.size) (hb2 : b2 < w.heap.size) (hR1 : Row .i64 w b1 o1 l1) (hR2 : Row .i64 w b2 o2 l2) (hG1 : Good l1) (hG2 : Good l2) :
    Calls Try.prog 56 #[.pointer (some ⟨rb, 0, none⟩), .slice (some ⟨b1, o1, none⟩) n1 c1, .slice (some ⟨b2, o2, none⟩) n2 c2] w fun e w' => ∃ gc gl gr hc hl hr, e = .returned (.agg #[CV gc gl gr, CV hc hl hr, .func (.func 34) #[.pointer (some ⟨rb, 0, none⟩)] #[]]) ∧ CIs (fun g => w.heap.size ≤ g ∨ g = b1 ∨ g = b2) w' gc gl gr rb (some ⟨b1, o1, none⟩) n1 c1 l1 ∧ CIs (fun g => w.heap.size ≤ g ∨ g = b1 ∨ g = b2) w' hc hl hr rb (some ⟨b2, o2, none⟩) n2 c2 l2 ∧ Below w.heap.size w w' := by
  obtain ⟨wz, hwz⟩ : ∃ wz, wz = w.heap.size := ⟨_, rfl⟩
  have H1 := hide (fun (W : World) (hB : Below w.heap.size w W) => coder_any b1 o1 rb n1 c1 l1 W hl1 hn1 (Nat.lt_of_lt_of_le hb1 hB.size) (fun j hj => (hB.cell (p := ⟨b1, _, none⟩) hb1).trans (hR1 j hj)) hG1)
  have H2 := hide (fun (W : World) (hB : Below w.heap.size w W) => coder_any b2 o2 rb n2 c2 l2 W hl2 hn2 (Nat.lt_of_lt_of_le hb2 hB.size) (fun j hj => (hB.cell (p := ⟨b2, _, none⟩) hb2).trans (hR2 j hj)) hG2)
  clear hR1 hR2 hG1 hG2
  go_enter Try.func56, Try.ntmps56
  go_wp2_with fail
  refine (unhide H1 _ ((Below.refl w.heap.size w).alloc (Nat.le_refl _) _)).mono ?_
  rintro e w1 ⟨gc, gl, gr, rfl, hC1, hB1⟩
  have hz1 := hB1.size
  simp only [World.size_alloc] at hz1
  have hBw1 : Below w.heap.size w w1 := ((Below.refl w.heap.size w).alloc (Nat.le_refl _) _).trans (hB1.mono (by simp))
  have HC1 := hide hC1
  have HB1 := hide hB1
  have HBw := hide hBw1
  clear hC1 hB1 hBw1
  go_wp2_with fail
  refine (unhide H2 _ (unhide HBw)).mono ?_
  rintro e w2 ⟨hc, hl, hr, rfl, hC2, hB2⟩
  have hz2 := hB2.size
  have hblk : w2.heap[w.heap.size]? = some (.cells #[.nilFunc, .nilFunc, .nilFunc] 110 (0, 0)) := by
    rw [hB2.block _ (by omega), (unhide HB1).block _ (by simp)]
    exact heap_alloc_new _ _
  have f0 := frozen_of_row w2 w.heap.size 0 _ _ hblk
  have f1 := frozen_of_row w2 w.heap.size 1 _ _ hblk
  have f2 := frozen_of_row w2 w.heap.size 2 _ _ hblk
  have c0 : w2.cell? ⟨w.heap.size, 0, none⟩ = some .nilFunc := heap_row hblk
  have c1' : w2.cell? ⟨w.heap.size, 1, none⟩ = some .nilFunc := heap_row hblk
  have c2' : w2.cell? ⟨w.heap.size, 2, none⟩ = some .nilFunc := heap_row hblk
  have HBLK := hide hblk
  have HC2 := hide hC2
  have HB2 := hide hB2
  have HFIN : Hid (∀ v3, (((w2.setCell ⟨w.heap.size, 0, none⟩ (CV gc gl gr)).setCell ⟨w.heap.size, 1, none⟩ (CV hc hl hr)).setCell ⟨w.heap.size, 2, none⟩ v3).heap[w.heap.size]? = some (.cells #[CV gc gl gr, CV hc hl hr, v3] 110 (0, 0)) ∧ CIs (fun g => w.heap.size ≤ g ∨ g = b1 ∨ g = b2) (((w2.setCell ⟨w.heap.size, 0, none⟩ (CV gc gl gr)).setCell ⟨w.heap.size, 1, none⟩ (CV hc hl hr)).setCell ⟨w.heap.size, 2, none⟩ v3) gc gl gr rb (some ⟨b1, o1, none⟩) n1 c1 l1 ∧ CIs (fun g => w.heap.size ≤ g ∨ g = b1 ∨ g = b2) (((w2.setCell ⟨w.heap.size, 0, none⟩ (CV gc gl gr)).setCell ⟨w.heap.size, 1, none⟩ (CV hc hl hr)).setCell ⟨w.heap.size, 2, none⟩ v3) hc hl hr rb (some ⟨b2, o2, none⟩) n2 c2 l2 ∧ Below w.heap.size w (((w2.setCell ⟨w.heap.size, 0, none⟩ (CV gc gl gr)).setCell ⟨w.heap.size, 1, none⟩ (CV hc hl hr)).setCell ⟨w.heap.size, 2, none⟩ v3)) := by
    intro v3
    have g1 := grown_setCell w2 w.heap.size 0 (CV gc gl gr)
    have g2 := grown_setCell (w2.setCell ⟨w.heap.size, 0, none⟩ (CV gc gl gr)) w.heap.size 1 (CV hc hl hr)
    have g3 := grown_setCell ((w2.setCell ⟨w.heap.size, 0, none⟩ (CV gc gl gr)).setCell ⟨w.heap.size, 1, none⟩ (CV hc hl hr)) w.heap.size 2 v3
    have gg := grown_trans (grown_trans g1 g2) g3
    have bw2 : Below w.heap.size w w2 := (unhide HBw).trans (hB2.mono (by omega))
    refine ⟨?_, ?_, ?_, bw2.grown gg (by omega) (fun j e => by rw [← Option.some.inj e]; exact Nat.le_refl _)⟩
    · rw [heap_setCell_same _ _ 2 _ _ _ (heap_setCell_same _ _ 1 _ _ _ (heap_setCell_same _ _ 0 _ _ _ hblk))]
      rfl
    · have k1 := (unhide HC1).keep (W' := w2) hz2 (fun g hg _ => hB2.block g hg)
      have k2 := k1.keep (W' := ((w2.setCell ⟨w.heap.size, 0, none⟩ (CV gc gl gr)).setCell ⟨w.heap.size, 1, none⟩ (CV hc hl hr)).setCell ⟨w.heap.size, 2, none⟩ v3) gg.size (fun g hg hb => gg.block g hg (fun e => by
        have e := Option.some.inj e
        simp only [World.size_alloc] at hb
        omega))
      exact k2.more (fun g hb => by simp only [World.size_alloc] at hb; omega)
    · have k2 := hC2.keep (W' := ((w2.setCell ⟨w.heap.size, 0, none⟩ (CV gc gl gr)).setCell ⟨w.heap.size, 1, none⟩ (CV hc hl hr)).setCell ⟨w.heap.size, 2, none⟩ v3) gg.size (fun g hg hb => gg.block g hg (fun e => by
        have e := Option.some.inj e
        omega))
      exact k2.more (fun g hb => by omega)
  clear hC2 hB2 hblk
  go_wp2
  obtain ⟨z1, z2, z3, z4⟩ := unhide HFIN (.func (.func 34) #[.pointer (some ⟨rb, 0, none⟩)] #[])
  refine bodyPost_ret (v := .agg #[CV gc gl gr, CV hc hl hr, .func (.func 34) #[.pointer (some ⟨rb, 0, none⟩)] #[]]) ?_ rfl ⟨gc, gl, gr, hc, hl, hr, rfl, z2, z3, z4⟩
  exact results_cell_row rfl _ _ _ _ _ _ _ rfl z1 Try.underlying110 rfl (by kernel_rfl)

/-- the sink that puts behind a row: what was put so far -/
structure PJ (Bx : Nat → Prop) (B rb : Nat) (S : List Bool) (l1 l2 : List Int) (gc gl gr hc hl hr b1 o1 n1 c1 b2 o2 n2 c2 : Nat) (No : Nat → Prop) (is : List It) (W : World) : Prop where
  row : RIs (fun g => No g ∨ Bx g) B W rb (S ++ putIs l1 l2 is)
  ca : CIs Bx W gc gl gr rb (some ⟨b1, o1, none⟩) n1 c1 l1
  cb : CIs Bx W hc hl hr rb (some ⟨b2, o2, none⟩) n2 c2 l2
  bl : ∀ g, Bx g → g < W.heap.size
theorem CIs.bound {Bx : Nat → Prop} {W : World} {gc gl gr rb : Nat} {a : Option Addr} {len cap : Nat} {l : List Int} (h : CIs Bx W gc gl gr rb a len cap l) : CIs (fun g => Bx g ∧ g < W.heap.size) W gc gl gr rb a len cap l := by
  obtain ⟨gk, b, o, h1, h2, h3, h4, h5, h6⟩ := h.ex
  exact ⟨⟨gk, b, o, h1, ⟨h2.1, h2.2, h2.1⟩, ⟨h3.1, h3.2, h3.1⟩, h4, h5, h6⟩, h.bl, h.br, ⟨h.bx.1.1, h.bx.1.2, h.bx.1.1⟩, ⟨h.bx.2.1.1, h.bx.2.1.2, h.bx.2.1.1⟩, ⟨h.bx.2.2.1, h.bx.2.2.2, h.bx.2.2.1⟩⟩
theorem enters_any {f : Nat} {fn : Func} {c : Code} (hf : Try.prog.funcs[f]? = some fn) (hname : (fn.name == "runtime.NumGoroutine") = false) (hb : fn.body = some c) : ∀ (args : Array Value) (w : World), (callFunc f args).run Try.prog w = .ok (.enter f args) w := enters_of hf hname hb
theorem code_len' (l : List Int) (hG : Good l) (q : Nat) (hq : q < l.length) : (codeT l q).length ≤ 15 := by rw [code_len l hG]; have := hG.ok q hq; omega
theorem putIs_len (l1 l2 : List Int) (hG1 : Good l1) (hG2 : Good l2) : ∀ is : List It, Has l1 l2 is → (∀ i ∈ is, VI i) → (putIs l1 l2 is).length ≤ 15 * is.length
  | [], _, _ => by simp [putIs]
  | i :: is, h, hv => by
    have ih := putIs_len l1 l2 hG1 hG2 is (Has.app (x := [i]) (y := is) h).2 (fun j hj => hv j (by simp [hj]))
    have e : putIs l1 l2 (i :: is) = putI l1 l2 i ++ putIs l1 l2 is := by simp [putIs]
    rw [e, List.length_append, List.length_cons]
    have : (putI l1 l2 i).length ≤ 15 := by
      cases i with
      | sym k => exact code_len' l1 hG1 k (h.1 k (by simp)).1
      | far k => exact code_len' l2 hG2 k (h.2 k (by simp)).1
      | rest n s =>
        have := (hv _ (by simp : It.rest n s ∈ _)).2
        show (numBits n s).length ≤ 15
        rw [numBits_length]; omega
    omega
theorem put_snk (Bx : Nat → Prop) (B rb : Nat) (S : List Bool) (l1 l2 : List Int) (gc gl gr hc hl hr b1 o1 n1 c1 b2 o2 n2 c2 : Nat) (all : List It) (hl1 : l1.length = n1) (hl2 : l2.length = n2) (hG1 : Good l1) (hG2 : Good l2) (hall : Has l1 l2 all) (hvi : ∀ i ∈ all, VI i) (hS : S.length + 15 * all.length ≤ 300000) :
    Snk (PJ Bx B rb S l1 l2 gc gl gr hc hl hr b1 o1 n1 c1 b2 o2 n2 c2) B 98 98 34 #[.pointer (some ⟨gc, 0, none⟩), .pointer (some ⟨gl, 0, none⟩), .pointer (some ⟨gr, 0, none⟩)] #[.pointer (some ⟨hc, 0, none⟩), .pointer (some ⟨hl, 0, none⟩), .pointer (some ⟨hr, 0, none⟩)] #[.pointer (some ⟨rb, 0, none⟩)] all := by
  have step : ∀ {No : Nat → Prop} {is R : List It} {i : It} {W W' : World}, is ++ i :: R = all → PJ Bx B rb S l1 l2 gc gl gr hc hl hr b1 o1 n1 c1 b2 o2 n2 c2 No is W → Rp (fun g => No g ∨ Bx g) B W rb (S ++ putIs l1 l2 is ++ putI l1 l2 i) W' → PJ Bx B rb S l1 l2 gc gl gr hc hl hr b1 o1 n1 c1 b2 o2 n2 c2 No (is ++ [i]) W' ∧ Below B W W' ∧ Kp No W W' := by
    intro No is R i W W' he hJ hR
    refine ⟨⟨?_, ?_, ?_, fun g h => Nat.lt_of_lt_of_le (hJ.bl g h) hR.below.size⟩, hR.below, hR.kp.weaken (fun g h => .inl h)⟩
    · have e : putIs l1 l2 (is ++ [i]) = putIs l1 l2 is ++ putI l1 l2 i := by rw [putIs_app]; simp [putIs]
      rw [e, ← List.append_assoc]
      exact hR.is
    · exact hJ.ca.keep hR.below.size (fun g hg hb => hR.kp g hg (.inr hb))
    · exact hJ.cb.keep hR.below.size (fun g hg hb => hR.kp g hg (.inr hb))
  have hlen : ∀ {is R : List It} {i : It}, is ++ i :: R = all → (S ++ putIs l1 l2 is).length ≤ 300000 := by
    intro is R i he
    have h1 : Has l1 l2 is := by rw [← he] at hall; exact hall.app.1
    have h2 : ∀ j ∈ is, VI j := fun j hj => hvi j (by rw [← he]; simp [hj])
    have h3 := putIs_len l1 l2 hG1 hG2 is h1 h2
    have h4 := congrArg List.length he
    rw [List.length_append, List.length_cons] at h4
    rw [List.length_append]
    omega
  refine ⟨enters_any Try.func98 (by kernel_rfl) rfl, enters_any Try.func98 (by kernel_rfl) rfl, enters_any Try.func34 (by kernel_rfl) rfl, ?_, ?_, ?_, ?_⟩
  · intro No No' is W W1 hJ hB hn
    refine ⟨hJ.row.grow hB (fun g e => ?_), hJ.ca.keep hB.size (fun g hg _ => hB.block g hg), hJ.cb.keep hB.size (fun g hg _ => hB.block g hg), fun g h => Nat.lt_of_lt_of_le (hJ.bl g h) hB.size⟩
    rcases e with e | e
    · rcases hn g e with h | h
      · exact .inl (.inl h)
      · exact .inr h
    · exact .inl (.inr e)
  · intro No is R k W he hJ hNo
    have hk := hall.1 k (by rw [← he]; simp)
    have := code_any Bx (fun g => No g ∨ Bx g) B gc gl gr rb (some ⟨b1, o1, none⟩) n1 c1 l1 k (S ++ putIs l1 l2 is) W hJ.ca hl1 hG1 (by omega) hk.2 hJ.row (hlen he) (fun g hg e => ?_)
    · refine this.mono ?_
      rintro e W' ⟨rfl, hR⟩
      exact ⟨rfl, step he hJ hR⟩
    · rcases e with e | e
      · exact hNo g hg e
      · have := hJ.bl g e; omega
  · intro No is R k W he hJ hNo
    have hk := hall.2 k (by rw [← he]; simp)
    have := code_any Bx (fun g => No g ∨ Bx g) B hc hl hr rb (some ⟨b2, o2, none⟩) n2 c2 l2 k (S ++ putIs l1 l2 is) W hJ.cb hl2 hG2 (by omega) hk.2 hJ.row (hlen he) (fun g hg e => ?_)
    · refine this.mono ?_
      rintro e W' ⟨rfl, hR⟩
      exact ⟨rfl, step he hJ hR⟩
    · rcases e with e | e
      · exact hNo g hg e
      · have := hJ.bl g e; omega
  · intro No is R n s W he hJ hNo
    have hv := hvi (.rest n s) (by rw [← he]; simp)
    have hs : s ≤ 10 := hv.2
    have hp : 2 ^ s ≤ 2 ^ 10 := Nat.pow_le_pow_right (by decide) hs
    have hn : n < 65536 := Nat.lt_of_lt_of_le (Nat.lt_of_lt_of_le hv.1 hp) (by decide)
    refine (rput_any (fun g => No g ∨ Bx g) B rb n s (S ++ putIs l1 l2 is) W hJ.row hn (by omega) (hlen he) (fun g hg e => ?_)).mono ?_
    · rcases e with e | e
      · exact hNo g hg e
      · have := hJ.bl g e; omega
    · rintro e W' ⟨rfl, hR⟩
      exact ⟨rfl, step he hJ hR⟩
end Go.Proofs.Ytoiioemkibfdcac
