/-
  A Dynamic block: the shorter one of two plans.
-/
import Derived.Test.YtfoaaamcpknjnadGreatQ43
import Derived.Test.YtfoaaamcpknjnadGreatQ45
import Derived.Deep.CutBlock
import Derived.Test.YtfoaaamcpknjnadGreatQ26
import Derived.Test.YtfoaaamcpknjnadGreatQ0
namespace Go.Proofs.YtfoaaamcpknjnadGreat
open Go.RowKit
set_option linter.unusedVariables false
set_option maxRecDepth 100000

theorem tokens_new (a : Option Addr) (n cap : Nat) (bs : List Nat) (w : World) (hl : bs.length = n) (hn : n ≤ 3000) (hcap : n ≤ cap) (hB : BytesIn w a bs) (hx : ∀ j, bs.getD j 0 < 256) (L : Nat) (hL : Hid ((toks bs).length = L)) :
    Calls Tryz.prog 43 #[.slice a n cap] w fun e w' => ∃ a1 c1, e = .returned (.tuple #[.slice a1 L c1, .int .i64 0]) ∧ TokIn w' a1 (toks bs) ∧ (∀ b o, a1 = some ⟨b, o, none⟩ → toks bs ≠ [] → w.heap.size ≤ b ∧ b < w'.heap.size) ∧ Below w.heap.size w w' := by
  by_cases h0 : n = 0
  · subst h0
    obtain rfl : bs = [] := List.eq_nil_of_length_eq_zero hl
    obtain rfl : 0 = L := unhide hL
    refine (tokens_none a cap w).mono ?_
    rintro e w' ⟨rfl, h⟩
    exact ⟨none, 0, rfl, .inl rfl, (fun b o e => by cases e), h⟩
  · obtain ⟨b, o, rfl, hb, hBy⟩ := bytesIn_some hB (by omega)
    refine (tokens_some b o n cap bs w hl hn hcap hb hBy hx).mono ?_
    rintro e w' ⟨v, rfl, hO, h⟩
    obtain ⟨h1, a1, c1, rfl, h2⟩ := TokIn.ofOwn hO
    rw [unhide hL] at hO ⊢
    refine ⟨a1, c1, rfl, h2, fun b o e _ => ?_, h⟩
    subst e
    exact hO.lt b rfl

theorem planPut_new (No : Nat → Prop) (B rb : Nat) (S : List Bool) (w : World) (h : RIs No B w rb S) (hNo : ∀ g, w.heap.size ≤ g → ¬ No g) (a : Option Addr) (len cap b1 n1 c1 b2 n2 c2 : Nat) (ts : List Tk) (l1 l2 : List Int) (W : World) (hP : PlanIs W a len b1 n1 b2 n2 ts l1 l2) (hB : Below w.heap.size w W) (h1 : w.heap.size ≤ b1) (h2 : w.heap.size ≤ b2) (ha : ∀ b o, a = some ⟨b, o, none⟩ → ts ≠ [] → No b ∨ w.heap.size ≤ b) (hS : S.length + 60 * len ≤ 277000) :
    Calls Tryz.prog 67 #[.agg #[.slice a len cap, .slice (some ⟨b1, 0, none⟩) n1 c1, .slice (some ⟨b2, 0, none⟩) n2 c2], .pointer (some ⟨rb, 0, none⟩)] W fun e w' => e = .returned (.tuple #[]) ∧ (planB l1 l2 ts).length ≤ 2300 + 60 * len ∧ Rp No B w rb (S ++ planB l1 l2 ts) w' := by
  have hz := hB.size
  have hba := h.base
  have hlt := h.lt
  have m1 := hP.m1
  have m2 := hP.m2
  refine (planPut_any (fun g => No g ∨ (w.heap.size ≤ g ∧ g < W.heap.size)) B rb a len cap b1 n1 c1 b2 n2 c2 ts l1 l2 S W (h.grow hB (fun g e => by rcases e with e | e; exact .inl e; exact .inr e.1)) hP (fun b o e hne => ?_) (.inr ⟨h1, m1⟩) (.inr ⟨h2, m2⟩) (fun g hg e => ?_) hS).mono ?_
  · rcases ha b o e hne with h3 | h3
    · exact .inl h3
    · rcases hP.tok with h4 | ⟨b', o', e', hb', _⟩
      · exact absurd h4 hne
      · rw [e'] at e
        cases e
        exact .inr ⟨h3, hb'⟩
  · rcases e with e | e
    · exact hNo g (by omega) e
    · omega
  · rintro e w' ⟨rfl, ho, hR⟩
    refine ⟨rfl, ?_, hR.is.grow (Below.refl _ _) (fun g e => .inl (.inl e)), (hB.mono (by omega)).trans hR.below, fun g hg hn => (hR.kp g (by omega) (.inl hn)).trans (hB.block g hg)⟩
    have := planB_len hP.d hP.tv ho
    rw [hP.tl] at this
    exact this

set_option maxHeartbeats 2000000 in
theorem putDynamic_any (No : Nat → Prop) (B rb : Nat) (a at' : Option Addr) (n cap len ct : Nat) (bs : List Nat) (S : List Bool) (w : World) (h : RIs No B w rb S) (hl : bs.length = n) (hn : n ≤ 3000) (hB : BytesIn w a bs) (hx : ∀ j, bs.getD j 0 < 256) (hT : TokIn w at' (toks bs)) (htl : (toks bs).length = len) (hlen : len ≤ n) (hTn : ∀ b o, at' = some ⟨b, o, none⟩ → toks bs ≠ [] → No b) (hNo : ∀ g, w.heap.size ≤ g → ¬ No g) (hS : S.length + 60 * n ≤ 277000) :
    Calls Tryz.prog 45 #[.pointer (some ⟨rb, 0, none⟩), .slice a n cap, .slice at' len ct] w fun e w' => e = .returned (.tuple #[]) ∧ (dynB bs).length ≤ 2300 + 60 * n ∧ Rp No B w rb (S ++ dynB bs) w' := by
  have hrb := h.lt
  have hba := h.base
  have HSH := hide (shortest_any at' len ct (toks bs) w htl (by omega) (toks_vt hx (by omega)) hT)
  have HEV := hide (fun W (hW : Below w.heap.size w W) => even_any a n cap bs W hl hn (hB.below hW (Nat.le_refl _)) hx)
  have HH := hide h
  have HTn := hide hTn
  have HNo := hide hNo
  have HTT := hide hT
  have HL := hide hl
  have HTL := hide htl
  have hdy : dynB bs = if (planB evenA evenB (evenT bs)).length < (planB (symD (toks bs)) (farD (toks bs)) (toks bs)).length then planB evenA evenB (evenT bs) else planB (symD (toks bs)) (farD (toks bs)) (toks bs) := by unfold dynB; congr
  have HDY := hide hdy
  have HVE := hide (even_dyn hx)
  have HVV := hide (evenT_vt hx)
  have HVT := hide (toks_vt hx (by omega : bs.length ≤ 3000))
  clear h hTn hNo hT hB hx hl htl hdy
  obtain ⟨ts, hts⟩ : ∃ ts, toks bs = ts := ⟨_, rfl⟩
  obtain ⟨es, hes⟩ : ∃ es, evenT bs = es := ⟨_, rfl⟩
  obtain ⟨A1, hA1⟩ : ∃ A1, symD ts = A1 := ⟨_, rfl⟩
  obtain ⟨A2, hA2⟩ : ∃ A2, farD ts = A2 := ⟨_, rfl⟩
  rw [hts] at HSH HTn HTT HDY HTL HVT
  rw [hes] at HEV HDY HVE HVV
  rw [hA1] at HSH HDY
  rw [hA2] at HSH HDY
  have hel : es.length = n := by rw [← hes, evenT_length]; exact unhide HL
  obtain ⟨E1, hE1⟩ : ∃ E1, evenA = E1 := ⟨_, rfl⟩
  obtain ⟨E2, hE2⟩ : ∃ E2, evenB = E2 := ⟨_, rfl⟩
  rw [hE1] at HEV HDY HVE
  rw [hE2] at HEV HDY HVE
  clear hts hes hA1 hA2 hE1 hE2
  go_enter Tryz.func45, Tryz.ntmps45
  go_wp2_with fail
  refine (unhide HSH).mono ?_
  rintro e w1 ⟨b1, n1, b2, n2, rfl, hP1, hb1, hb2, hB1⟩
  have HP1 := hide hP1
  have HB1 := hide hB1
  have hz1 := hB1.size
  clear hP1 hB1 HSH
  go_wp2_with fail
  refine (unhide HEV _ ((unhide HB1).alloc hz1 _)).mono ?_
  rintro e w2 ⟨a3, c3, b3, b4, rfl, hP3, hb3, hb4, ha3, hB2⟩
  have hz2 := hB2.size
  simp only [World.size_alloc] at hz2 hb3 hb4 ha3
  have HP2 : Hid (PlanIs w2 at' len b1 n1 b2 n2 ts A1 A2) := hide (((unhide HP1).below ((Below.refl w1.heap.size w1).alloc (Nat.le_refl _) _)).below hB2)
  have hg1 : w2.heap[w1.heap.size]? = some (.cells #[.slice at' len ct, .slice (some ⟨b1, 0, none⟩) n1 286, .slice (some ⟨b2, 0, none⟩) n2 30] 127 (0, 0)) := (hB2.block _ (by simp)).trans (heap_alloc_new _ _)
  have HBW : Hid (Below w.heap.size w w2) := hide (((unhide HB1).alloc hz1 _).trans (hB2.mono (by simp; omega)))
  have HP3 := hide hP3
  have HA3 := hide ha3
  have HG1 := hide hg1
  clear hP3 hB2 HP1 HB1 HEV ha3 hg1
  have HPN := hide (fun a1 l1 c1 x1 y1 z1 x2 y2 z2 t1 q1 q2 (W : World) hP hW k1 k2 ka kS => planPut_new No B rb S w (unhide HH) (unhide HNo) a1 l1 c1 x1 y1 z1 x2 y2 z2 t1 q1 q2 W hP hW k1 k2 ka kS)
  obtain ⟨eL, heL⟩ : ∃ eL, (planB E1 E2 es).length = eL := ⟨_, rfl⟩
  obtain ⟨sL, hsL⟩ : ∃ sL, (planB A1 A2 ts).length = sL := ⟨_, rfl⟩
  go_upto_region 2 with (fail)
  generalize hW3 : w2.alloc _ = W3
  have hz3 : w2.heap.size < W3.heap.size := by rw [← hW3]; simp
  have hg7 : W3.heap[w2.heap.size]? = some (.cells #[.slice a3 n c3, .slice (some ⟨b3, 0, none⟩) 257 257, .slice (some ⟨b4, 0, none⟩) 1 1] 127 (0, 0)) := by rw [← hW3]; exact heap_alloc_new _ _
  have hB3 : Below w2.heap.size w2 W3 := by rw [← hW3]; exact (Below.refl w2.heap.size w2).alloc (Nat.le_refl _) _
  have hg6 := (hB3.block _ (by omega)).trans (unhide HG1)
  have HPA := hide ((unhide HP2).below hB3)
  have HPE := hide ((unhide HP3).below hB3)
  have HB3 := hide ((unhide HBW).trans (hB3.mono (by omega)))
  clear hW3 hB3 HP2 HP3 HBW HG1
  generalize hg7n : w2.heap.size = g7 at *
  generalize hg6n : w1.heap.size = g6 at *
  have lt7 : g7 < W3.heap.size := hz3
  have lt6 : g6 < W3.heap.size := by omega
  have ne67 : g6 ≠ g7 := by omega
  clear hg7n hg6n
  have HCE : Hid (∀ W, Below W3.heap.size W3 W → W.heap[g6]? = some (.cells #[.slice at' len ct, .slice (some ⟨b1, 0, none⟩) n1 286, .slice (some ⟨b2, 0, none⟩) n2 30] 127 (0, 0)) ∧ W.heap[g7]? = some (.cells #[.slice a3 n c3, .slice (some ⟨b3, 0, none⟩) 257 257, .slice (some ⟨b4, 0, none⟩) 1 1] 127 (0, 0))) := fun W hW => ⟨(hW.block _ lt6).trans hg6, (hW.block _ lt7).trans hg7⟩
  have x0 : W3.cell? ⟨g6, 0, none⟩ = some (.slice at' len ct) := heap_row hg6
  have x1 : W3.cell? ⟨g6, 1, none⟩ = some (.slice (some ⟨b1, 0, none⟩) n1 286) := heap_row hg6
  have x2 : W3.cell? ⟨g6, 2, none⟩ = some (.slice (some ⟨b2, 0, none⟩) n2 30) := heap_row hg6
  have y0 : W3.cell? ⟨g7, 0, none⟩ = some (.slice a3 n c3) := heap_row hg7
  have y1 : W3.cell? ⟨g7, 1, none⟩ = some (.slice (some ⟨b3, 0, none⟩) 257 257) := heap_row hg7
  have y2 : W3.cell? ⟨g7, 2, none⟩ = some (.slice (some ⟨b4, 0, none⟩) 1 1) := heap_row hg7
  clear hg6 hg7
  have HBE := hide (fun k => planBits_any a3 n c3 b3 257 257 b4 1 1 es E1 E2 (W3.drewN k) ((unhide HPE).below (below_drewN (Below.refl _ _) k)))
  have HBA := hide (fun (W : World) (hW : Below W3.heap.size W3 W) => planBits_any at' len ct b1 n1 286 b2 n2 30 ts A1 A2 W ((unhide HPA).below hW))
  rw [heL] at HBE
  rw [hsL] at HBA
  have HEL := hide heL
  have HSL := hide hsL
  clear heL hsL
  go_cut [16] (fun v wc => v = .bool (decide (eL < sL)) ∧ Hid (Below W3.heap.size W3 wc))
  case first =>
    go_region_with (first | (go_at_call 66; refine (unhide HBA _ (unhide HWZ)).mono ?_; rintro e wy ⟨rfl, ho2, hb2⟩; have HWY := hide ((unhide HWZ).trans (hb2.mono (unhide HWZ).size)); clear ho2 hb2) | (go_at_call 66; refine (unhide HBE _).mono ?_; rintro e wz ⟨rfl, ho1, hb1'⟩; have HWZ := hide ((below_drewN (Below.refl W3.heap.size W3) _).trans hb1'); obtain ⟨r6, r7⟩ := unhide HCE wz (unhide HWZ); have u0 : wz.cell? ⟨g6, 0, none⟩ = some (.slice at' len ct) := heap_row r6; have u1 : wz.cell? ⟨g6, 1, none⟩ = some (.slice (some ⟨b1, 0, none⟩) n1 286) := heap_row r6; have u2 : wz.cell? ⟨g6, 2, none⟩ = some (.slice (some ⟨b2, 0, none⟩) n2 30) := heap_row r6; clear ho1 hb1' r6 r7))
    all_goals go_wp2_with fail
    all_goals go_meet
    all_goals exact ⟨rfl, HWY⟩
  case rest =>
    obtain ⟨rfl, hbw⟩ := hcut
    obtain ⟨r6, r7⟩ := unhide HCE wc (unhide hbw)
    have hzB := (unhide HB3).size
    have hzc := (unhide hbw).size
    have HB4 := hide ((unhide HB3).trans ((unhide hbw).mono hzB))
    clear x0 x1 x2 y0 y1 y2 HBE HBA HCE
    by_cases hlt : eL < sL
    · have hd := decide_eq_true hlt
      rw [hd]
      have HDE : Hid (dynB bs = planB E1 E2 es) := hide (by rw [unhide HDY, unhide HEL, unhide HSL, if_pos hlt])
      obtain ⟨t1, t2, t3, t4⟩ := three_set r6 (.slice a3 n c3) (.slice (some ⟨b3, 0, none⟩) 257 257) (.slice (some ⟨b4, 0, none⟩) 1 1)
      have HK : Hid (PlanIs (((wc.setCell ⟨g6, 0, none⟩ (.slice a3 n c3)).setCell ⟨g6, 1, none⟩ (.slice (some ⟨b3, 0, none⟩) 257 257)).setCell ⟨g6, 2, none⟩ (.slice (some ⟨b4, 0, none⟩) 1 1)) a3 n b3 257 b4 1 es E1 E2 ∧ Below w.heap.size w (((wc.setCell ⟨g6, 0, none⟩ (.slice a3 n c3)).setCell ⟨g6, 1, none⟩ (.slice (some ⟨b3, 0, none⟩) 257 257)).setCell ⟨g6, 2, none⟩ (.slice (some ⟨b4, 0, none⟩) 1 1))) := by
        have hPc := (unhide HPE).below (unhide hbw)
        refine ⟨hPc.keep (by omega) (fun b o ea hne hb => ?_) (t2 b3 hPc.m1 (by omega)) (t2 b4 hPc.m2 (by omega)), t4 (unhide HB4) (by omega)⟩
        have := unhide HA3 b o ea hne
        exact t2 b hb (by omega)
      have x0 : wc.cell? ⟨g6, 0, none⟩ = some (.slice at' len ct) := heap_row r6
      have x1 : wc.cell? ⟨g6, 1, none⟩ = some (.slice (some ⟨b1, 0, none⟩) n1 286) := heap_row r6
      have x2 : wc.cell? ⟨g6, 2, none⟩ = some (.slice (some ⟨b2, 0, none⟩) n2 30) := heap_row r6
      have f0 := frozen_of_row wc g6 0 _ _ r6
      have f1 := frozen_of_row wc g6 1 _ _ r6
      have f2 := frozen_of_row wc g6 2 _ _ r6
      have y0 : wc.cell? ⟨g7, 0, none⟩ = some (.slice a3 n c3) := heap_row r7
      have y1 : wc.cell? ⟨g7, 1, none⟩ = some (.slice (some ⟨b3, 0, none⟩) 257 257) := heap_row r7
      have y2 : wc.cell? ⟨g7, 2, none⟩ = some (.slice (some ⟨b4, 0, none⟩) 1 1) := heap_row r7
      clear t1 t2 t3 t4 r6 r7 hd hlt
      go_wp2_with fail
      refine (unhide HPN a3 n c3 b3 257 257 b4 1 1 es E1 E2 _ (unhide HK).1 (unhide HK).2 (by omega) (by omega) (fun b o e hne => .inr (by have := unhide HA3 b o e hne; omega)) hS).mono ?_
      rintro e w9 ⟨rfl, hp, hR⟩
      have HF := hide (And.intro hp hR)
      clear hp hR
      go_wp2
      go_end0
      rw [unhide HDE]
      exact ⟨rfl, unhide HF⟩
    · have hd := decide_eq_false hlt
      rw [hd]
      have HDE : Hid (dynB bs = planB A1 A2 ts) := hide (by rw [unhide HDY, unhide HEL, unhide HSL, if_neg hlt])
      have HK := hide ((unhide HPA).below (unhide hbw))
      have x0 : wc.cell? ⟨g6, 0, none⟩ = some (.slice at' len ct) := heap_row r6
      have x1 : wc.cell? ⟨g6, 1, none⟩ = some (.slice (some ⟨b1, 0, none⟩) n1 286) := heap_row r6
      have x2 : wc.cell? ⟨g6, 2, none⟩ = some (.slice (some ⟨b2, 0, none⟩) n2 30) := heap_row r6
      clear r6 r7 hd hlt
      go_wp2_with fail
      refine (unhide HPN at' len ct b1 n1 286 b2 n2 30 ts A1 A2 _ (unhide HK) (unhide HB4) hb1 hb2 (fun b o e hne => .inl (unhide HTn b o e hne)) (by omega)).mono ?_
      rintro e w9 ⟨rfl, hp, hR⟩
      have HF := hide (And.intro hp hR)
      clear hp hR
      go_wp2
      go_end0
      rw [unhide HDE]
      exact ⟨rfl, by have := (unhide HF).1; omega, (unhide HF).2⟩
end Go.Proofs.YtfoaaamcpknjnadGreat

/-
  One block of a part behind a row.
-/
namespace Go.Proofs.YtfoaaamcpknjnadGreat
open Go.RowKit
set_option linter.unusedVariables false
set_option maxRecDepth 100000

theorem Rp.down {No No' : Nat → Prop} {B rb : Nat} {w w2 w3 w' : World} {S S' : List Bool} (h : Rp No B w rb S w2) (hB : Below w2.heap.size w2 w3) (hR : Rp No' B w3 rb S' w') (hle : ∀ g, No g → No' g) : Rp No B w rb S' w' := by
  have hz := h.below.size
  have hz3 := hB.size
  have hlt := h.is.lt
  have hba := h.is.base
  refine ⟨hR.is.grow (Below.refl _ _) (fun g e => .inl (hle g e)), h.below.trans ((hB.mono (by omega)).trans hR.below), fun g hg hn => ?_⟩
  rw [hR.kp g (by omega) (hle g hn), hB.block g (by omega)]
  exact h.kp g hg hn
theorem fix_len {bs : List Nat} (hx : ∀ j, bs.getD j 0 < 256) (hl : bs.length ≤ 3000) : (fixBits (toks bs)).length ≤ 15 + 60 * bs.length := by
  have hV := toks_vt hx hl
  have h1 := putIs_len fixA fixB fixA_good fixB_good (itsOf (toks bs)) (fix_has hV) (itsOf_vi hV)
  have h2 := itsOf_len (toks bs)
  have h3 := toks_len bs
  unfold fixBits
  omega
theorem stor_len (S : List Bool) (bs : List Nat) : (storB S bs).length ≤ S.length + 40 + 8 * bs.length := by
  have := freeN_lt S.length
  unfold storB
  simp only [List.length_append, List.length_replicate, numBits_length, rowB_length]
  omega

set_option maxHeartbeats 2000000 in
theorem putBlock_any (No : Nat → Prop) (B rb : Nat) (a : Option Addr) (n cap kind : Nat) (last : Bool) (bs : List Nat) (S : List Bool) (w : World) (h : RIs No B w rb S) (hl : bs.length = n) (hn : n ≤ 3000) (hcap : n ≤ cap) (hnil : a = none → cap = 0) (hk : kind ≤ 2) (hB : BytesIn w a bs) (hx : ∀ j, bs.getD j 0 < 256) (hTn : ∀ b o, a = some ⟨b, o, none⟩ → bs ≠ [] → No b) (hNo : ∀ g, w.heap.size ≤ g → ¬ No g) (hS2 : S.length + 60 * n ≤ 276000) :
    Calls Tryz.prog 27 #[.pointer (some ⟨rb, 0, none⟩), .slice a n cap, .int .i64 (kind : Int), .bool last] w fun e w' => e = .returned (.tuple #[]) ∧ (blkB S bs kind last).length ≤ S.length + 2400 + 60 * n ∧ Rp No B w rb (blkB S bs kind last) w' := by
  obtain ⟨S1, hS1⟩ : ∃ S1, S ++ [last] = S1 := ⟨_, rfl⟩
  obtain ⟨S2, hS2e⟩ : ∃ S2, S1 ++ numBits kind 2 = S2 := ⟨_, rfl⟩
  have l1 : S1.length = S.length + 1 := by rw [← hS1]; simp
  have l2 : S2.length = S.length + 3 := by rw [← hS2e, List.length_append, numBits_length, l1]
  have hblk : blkB S bs kind last = if kind = 0 then storB S2 bs else if kind = 1 then S2 ++ fixBits (toks bs) else S2 ++ dynB bs := by unfold blkB; rw [hS1, hS2e]
  have HP1 : Hid (Calls Tryz.prog 41 #[.pointer (some ⟨rb, 0, none⟩), .int .i64 (if last then 1 else 0), .int .i64 1] w fun e w' => e = .returned (.tuple #[]) ∧ Rp No B w rb S1 w') := by
    rw [← hS1]
    cases last with
    | true => exact rput_any No B rb 1 1 S w h (by decide) (by decide) (by omega) hNo
    | false => exact rput_any No B rb 0 1 S w h (by decide) (by decide) (by omega) hNo
  have HP2 : Hid (∀ w1, Rp No B w rb S1 w1 → Calls Tryz.prog 41 #[.pointer (some ⟨rb, 0, none⟩), .int .i64 (kind : Int), .int .i64 2] w1 fun e w' => e = .returned (.tuple #[]) ∧ Rp No B w rb S2 w') := fun w1 r => by
    refine (rput_any No B rb kind 2 S1 w1 r.is (by omega) (by decide) (by omega) (fun g hg => hNo g (by have := r.below.size; omega))).mono ?_
    rintro e w' ⟨rfl, r2⟩
    rw [hS2e] at r2
    exact ⟨rfl, r.trans r2⟩
  have HBY : Hid (∀ w2, Rp No B w rb S2 w2 → BytesIn w2 a bs) := fun w2 r => bytes_kp hB r.below.size (fun b o e hne hb => r.kp b hb (hTn b o e hne))
  have HST : Hid (∀ w2, Rp No B w rb S2 w2 → Calls Tryz.prog 42 #[.pointer (some ⟨rb, 0, none⟩), .slice a n cap] w2 fun e w' => e = .returned (.tuple #[]) ∧ Rp No B w rb (storB S2 bs) w') := fun w2 r => by
    refine (putStored_any No B rb a n cap bs S2 w2 r.is hl hn hnil (unhide HBY w2 r) hx hTn (fun g hg => hNo g (by have := r.below.size; omega)) (by omega)).mono ?_
    rintro e w' ⟨rfl, r2⟩
    exact ⟨rfl, r.trans r2⟩
  obtain ⟨L, hL⟩ : ∃ L, (toks bs).length = L := ⟨_, rfl⟩
  have hLn : L ≤ n := by have := toks_len bs; omega
  have HTK : Hid (∀ w2, Rp No B w rb S2 w2 → Calls Tryz.prog 43 #[.slice a n cap] w2 fun e w' => ∃ a1 c1, e = .returned (.tuple #[.slice a1 L c1, .int .i64 0]) ∧ TokIn w' a1 (toks bs) ∧ (∀ b o, a1 = some ⟨b, o, none⟩ → toks bs ≠ [] → w2.heap.size ≤ b ∧ b < w'.heap.size) ∧ Below w2.heap.size w2 w') := fun w2 r => tokens_new a n cap bs w2 hl hn hcap (unhide HBY w2 r) hx L (hide hL)
  have HNN : Hid (∀ (w2 w3 : World), Rp No B w rb S2 w2 → Below w2.heap.size w2 w3 → RIs (fun g => No g ∨ (w2.heap.size ≤ g ∧ g < w3.heap.size)) B w3 rb S2 ∧ ∀ g, w3.heap.size ≤ g → ¬ (No g ∨ (w2.heap.size ≤ g ∧ g < w3.heap.size))) := fun w2 w3 r hb => by
    refine ⟨r.is.grow hb (fun g e => by rcases e with e | e; exact .inl e; exact .inr e.1), fun g hg e => ?_⟩
    have := hb.size
    have := r.below.size
    rcases e with e | e
    · exact hNo g (by omega) e
    · omega
  have HFX : Hid (∀ (w2 w3 : World) (a1 : Option Addr) (c1 : Nat), Rp No B w rb S2 w2 → Below w2.heap.size w2 w3 → TokIn w3 a1 (toks bs) → (∀ b o, a1 = some ⟨b, o, none⟩ → toks bs ≠ [] → w2.heap.size ≤ b ∧ b < w3.heap.size) → Calls Tryz.prog 44 #[.pointer (some ⟨rb, 0, none⟩), .slice a1 L c1] w3 fun e w' => e = .returned (.tuple #[]) ∧ Rp No B w rb (S2 ++ fixBits (toks bs)) w') := fun w2 w3 a1 c1 r hb ht ha => by
    obtain ⟨q1, q2⟩ := unhide HNN w2 w3 r hb
    refine (putFixed_any _ B rb a1 L c1 (toks bs) S2 w3 q1 hL (by omega) (toks_vt hx (by omega)) ht (fun b o e hne => .inr (ha b o e hne)) q2 (by omega)).mono ?_
    rintro e w' ⟨rfl, r2⟩
    exact ⟨rfl, r.down hb r2 (fun g hg => .inl hg)⟩
  have HDN : Hid (∀ (w2 w3 : World) (a1 : Option Addr) (c1 : Nat), Rp No B w rb S2 w2 → Below w2.heap.size w2 w3 → TokIn w3 a1 (toks bs) → (∀ b o, a1 = some ⟨b, o, none⟩ → toks bs ≠ [] → w2.heap.size ≤ b ∧ b < w3.heap.size) → Calls Tryz.prog 45 #[.pointer (some ⟨rb, 0, none⟩), .slice a n cap, .slice a1 L c1] w3 fun e w' => e = .returned (.tuple #[]) ∧ (dynB bs).length ≤ 2300 + 60 * n ∧ Rp No B w rb (S2 ++ dynB bs) w') := fun w2 w3 a1 c1 r hb ht ha => by
    obtain ⟨q1, q2⟩ := unhide HNN w2 w3 r hb
    refine (putDynamic_any _ B rb a a1 n cap L c1 bs S2 w3 q1 hl hn ((unhide HBY w2 r).below hb (Nat.le_refl _)) hx ht hL hLn (fun b o e hne => .inr (ha b o e hne)) q2 (by omega)).mono ?_
    rintro e w' ⟨rfl, hp, r2⟩
    exact ⟨rfl, hp, r.down hb r2 (fun g hg => .inl hg)⟩
  have HLF := hide (fix_len hx (by omega : bs.length ≤ 3000))
  have HLS := hide (stor_len S2 bs)
  have HL := hide hl
  rw [hblk]
  obtain ⟨FB, hFB⟩ : ∃ FB, fixBits (toks bs) = FB := ⟨_, rfl⟩
  obtain ⟨DB, hDB⟩ : ∃ DB, dynB bs = DB := ⟨_, rfl⟩
  obtain ⟨SB, hSB⟩ : ∃ SB, storB S2 bs = SB := ⟨_, rfl⟩
  rw [hFB] at HFX HLF ⊢
  rw [hDB] at HDN ⊢
  rw [hSB] at HST HLS ⊢
  clear hblk hB hTn hNo hnil h hx HNN HBY hl hFB hDB hSB hS1 hS2e
  have hkk : kind = 0 ∨ kind = 1 ∨ kind = 2 := by omega
  go_enter Tryz.func27, Tryz.ntmps27
  go_upto_if 10 with (fail)
  go_cut [] (fun wc => Hid (Rp No B w rb S1 wc))
  case first =>
    cases last with
    | true =>
      go_wp2_with fail
      refine (unhide HP1).mono ?_
      rintro e w1 ⟨rfl, r⟩
      have HR := hide r
      clear r
      go_wp2
      go_meet
      exact HR
    | false =>
      go_wp2_with fail
      refine (unhide HP1).mono ?_
      rintro e w1 ⟨rfl, r⟩
      have HR := hide r
      clear r
      go_wp2
      go_meet
      exact HR
  case rest =>
    have HR1 := hcut
    clear hcut
    go_wp2_with fail
    refine (unhide HP2 wc (unhide HR1)).mono ?_
    rintro e w2 ⟨rfl, r2⟩
    have HR2 := hide r2
    clear r2 HP1 HP2
    rcases hkk with rfl | rfl | rfl
    · go_wp2_with fail
      refine (unhide HST w2 (unhide HR2)).mono ?_
      rintro e w3 ⟨rfl, r3⟩
      have HR3 := hide r3
      clear r3
      go_wp2
      refine bodyPost_ret (results_none rfl _ _ _) rfl ⟨rfl, ?_⟩
      exact ⟨by have := unhide HLS; rw [unhide HL] at this; omega, unhide HR3⟩
    · go_wp2_with fail
      refine (unhide HTK w2 (unhide HR2)).mono ?_
      rintro e w3 ⟨a1, c1, rfl, ht, ha, hb⟩
      have HC := hide (unhide HFX w2 w3 a1 c1 (unhide HR2) hb ht ha)
      clear ht ha hb
      go_wp2_with fail
      refine (unhide HC).mono ?_
      rintro e w4 ⟨rfl, r4⟩
      have HR4 := hide r4
      clear r4
      go_wp2
      go_end0
      refine ⟨rfl, ?_⟩
      exact ⟨by have := unhide HLF; rw [unhide HL] at this; omega, unhide HR4⟩
    · go_wp2_with fail
      refine (unhide HTK w2 (unhide HR2)).mono ?_
      rintro e w3 ⟨a1, c1, rfl, ht, ha, hb⟩
      have HC := hide (unhide HDN w2 w3 a1 c1 (unhide HR2) hb ht ha)
      clear ht ha hb
      go_wp2_with fail
      refine (unhide HC).mono ?_
      rintro e w4 ⟨rfl, hp, r4⟩
      have HR4 := hide (And.intro hp r4)
      clear r4 hp
      go_wp2
      go_end0
      refine ⟨rfl, ?_⟩
      exact ⟨by have := (unhide HR4).1; omega, (unhide HR4).2⟩
end Go.Proofs.YtfoaaamcpknjnadGreat

/-
  Parts, each in its slice.
-/
namespace Go.Proofs.YtfoaaamcpknjnadGreat
open Go.RowKit
set_option linter.unusedVariables false

/-- the parts, each in its slice -/
structure PartsIn (w : World) (b o : Nat) (A : Nat → Option Addr) (C : Nat → Nat) (bss : List (List Nat)) : Prop where
  lt : b < w.heap.size
  cell : ∀ j, j < bss.length → w.cell? ⟨b, o + j, none⟩ = some (.slice (A j) (bss.getD j []).length (C j))
  byt : ∀ j, j < bss.length → BytesIn w (A j) (bss.getD j [])
  cap : ∀ j, j < bss.length → (bss.getD j []).length ≤ C j
  nil : ∀ j, j < bss.length → A j = none → C j = 0
  big : ∀ j, j < bss.length → (bss.getD j []).length + (if j = 0 then 0 else 3000) ≤ 9223372036854775807
  val : ∀ j i, (bss.getD j []).getD i 0 < 256
end Go.Proofs.YtfoaaamcpknjnadGreat

/-
  What Pack is given, checked.
-/
namespace Go.Proofs.YtfoaaamcpknjnadGreat
open Go.RowKit
set_option linter.unusedVariables false
set_option maxRecDepth 100000

/-- what is wrong with parts of these lengths and their kinds, from the i-th on, behind t bytes -/
def chkP : List Nat → List Int → Nat → Nat → Int
  | [], _, _, _ => 0
  | n :: r, ks, i, t => if 3000 < t + n ∨ 40 ≤ i then 2 else if ks.headD 0 = 0 ∨ ks.headD 0 = 1 ∨ ks.headD 0 = 2 then chkP r ks.tail (i + 1) (t + n) else 3
def errP (ns : List Nat) (ks : List Int) : Int := if ns.length = 0 ∨ ks.length ≠ ns.length then 4 else chkP ns ks 0 0

theorem getD_drop {α : Type} (l : List α) (d : α) {k : Nat} (hk : k < l.length) : l.drop k = l.getD k d :: l.drop (k + 1) := by
  rw [List.drop_eq_getElem_cons hk]
  simp [List.getD, hk]

set_option maxHeartbeats 1000000 in
theorem bcheck_any (b o cp : Nat) (bk : Option Addr) (np nk ck : Nat) (A : Nat → Option Addr) (C : Nat → Nat) (bss : List (List Nat)) (ks : List Int) (w : World) (hp : bss.length = np) (hkl : ks.length = nk) (hP : bss = [] ∨ PartsIn w b o A C bss) (hK : RowIn .i64 w bk ks) (ap : Option Addr) (hap : bss ≠ [] → ap = some ⟨b, o, none⟩) (E : Int) (hE : Hid (errP (bss.map List.length) ks = E)) :
    Calls Tryz.prog 26 #[.slice ap np cp, .slice bk nk ck] w fun e w' => e = .returned (.int .i64 E) ∧ w' = w := by
  have hml : (bss.map List.length).length = np := by rw [List.length_map]; exact hp
  by_cases h0 : np = 0
  · subst h0
    have hE4 : E = 4 := by rw [← unhide hE]; unfold errP; rw [if_pos (.inl hml)]
    subst hE4
    clear hP hK hap
    go_enter Tryz.func26, Tryz.ntmps26
    go_wp2
    go_ret
    exact ⟨rfl, rfl⟩
  · have hne : bss ≠ [] := fun e => h0 (by rw [← hp, e]; rfl)
    obtain rfl := hap hne
    have hPI : PartsIn w b o A C bss := by rcases hP with h | h; exact absurd h hne; exact h
    have hb0 : ((np : Int) == 0) = false := by rw [beq_eq_false_iff_ne]; omega
    by_cases hkk : nk = np
    · subst hkk
      have hbk : ∃ b2 o2, bk = some ⟨b2, o2, none⟩ ∧ Row .i64 w b2 o2 ks := by
        rcases hK with h | ⟨b2, o2, e, _, h⟩
        · exact absurd (by rw [← hkl, h]; rfl) h0
        · exact ⟨b2, o2, e, h⟩
      obtain ⟨b2, o2, rfl, hrow⟩ := hbk
      have HE0 : Hid (chkP (bss.map List.length) ks 0 0 = E) := hide (by
        have := unhide hE
        unfold errP at this
        rw [if_neg (by rintro (h | h); exact h0 (by omega); exact h (by omega))] at this
        exact this)
      have hbb : (((nk : Int) == (nk : Int))) = true := by simp
      have HC := hide hPI.cell
      have HBG := hide hPI.big
      have HR := hide hrow
      have HP := hide hp
      have HK := hide hkl
      clear hP hK hPI hrow hE hml hap hne hp hkl hbb
      go_enter Tryz.func26, Tryz.ntmps26
      go_wp2
      go_loop [5, 20] (fun v5 v20 => ∃ k t : Nat, k ≤ nk ∧ t ≤ 3000 ∧ (k = 0 → t = 0) ∧ v5 = .int .i64 (t : Int) ∧ v20 = .int .i64 (k : Int) ∧ Hid (chkP ((bss.map List.length).drop k) (ks.drop k) k t = E)) (fun _ v20 => nk - (intOf v20).toNat)
      case atStart => exact ⟨0, 0, Nat.zero_le _, by decide, fun _ => rfl, rfl, rfl, HE0⟩
      case round =>
        obtain ⟨k, t, hk, ht, ht0, rfl, rfl, hc⟩ := hrel
        by_cases hlt : k < nk
        · have c1 := unhide HC k (by rw [unhide HP]; exact hlt)
          have hbg := unhide HBG k (by rw [unhide HP]; exact hlt)
          have c2 := unhide HR k (by rw [unhide HK]; exact hlt)
          have hd1 := getD_drop (bss.map List.length) 0 (k := k) (by rw [List.length_map, unhide HP]; exact hlt)
          have hd2 := getD_drop ks 0 (k := k) (by rw [unhide HK]; exact hlt)
          have hgl : (bss.map List.length).getD k 0 = (bss.getD k []).length := by
            have hk2 : k < bss.length := by rw [unhide HP]; exact hlt
            simp [List.getD, hk2]
          rw [hgl] at hd1
          obtain ⟨n, hn⟩ : ∃ n, (bss.getD k []).length = n := ⟨_, rfl⟩
          obtain ⟨x, hx⟩ : ∃ x, ks.getD k 0 = x := ⟨_, rfl⟩
          rw [hn] at c1 hbg hd1
          rw [hx] at c2 hd2
          have hstep : chkP ((bss.map List.length).drop k) (ks.drop k) k t = if 3000 < t + n ∨ 40 ≤ k then 2 else if x = 0 ∨ x = 1 ∨ x = 2 then chkP ((bss.map List.length).drop (k + 1)) (ks.drop (k + 1)) (k + 1) (t + n) else 3 := by rw [hd1, hd2, chkP]; rfl
          have hc' := unhide hc
          rw [hstep] at hc'
          have hltI : (k : Int) < (nk : Int) := by omega
          have hsum : t + n ≤ 9223372036854775807 := by
            by_cases e : k = 0
            · rw [if_pos e] at hbg
              have := ht0 e
              omega
            · rw [if_neg e] at hbg
              omega
          clear hbg ht0 hc hd1 hd2 hgl hn hx hstep
          generalize A k = ak at *
          generalize C k = cc at *
          by_cases h1 : 3000 < t + n
          · rw [if_pos (.inl h1)] at hc'
            subst hc'
            have h1I : (3000 : Int) < (t : Int) + (n : Int) ∨ (40 : Int) ≤ (k : Int) := .inl (by omega)
            clear h1
            go_wp2
            all_goals go_ret
            all_goals exact ⟨rfl, rfl⟩
          · have h1I : ¬ (3000 : Int) < (t : Int) + (n : Int) := by omega
            by_cases h2 : 40 ≤ k
            · rw [if_pos (.inr h2)] at hc'
              subst hc'
              have h2I : (3000 : Int) < (t : Int) + (n : Int) ∨ (40 : Int) ≤ (k : Int) := .inr (by omega)
              clear h1 h2 h1I
              go_wp2
              all_goals go_ret
              all_goals exact ⟨rfl, rfl⟩
            · have h2I : ¬ ((3000 : Int) < (t : Int) + (n : Int) ∨ (40 : Int) ≤ (k : Int)) := by omega
              rw [if_neg (by omega)] at hc'
              by_cases hx3 : x = 0 ∨ x = 1 ∨ x = 2
              · rw [if_pos hx3] at hc'
                have HC' := hide hc'
                clear hc'
                rcases hx3 with rfl | rfl | rfl
                all_goals go_wp2
                all_goals go_round
                all_goals first | exact ⟨k + 1, t + n, by omega, by omega, fun e => absurd e (by omega), by go_num, by go_num, HC'⟩ | (simp [intOf]; omega)
              · rw [if_neg hx3] at hc'
                subst hc'
                have x0 : (x == 0) = false := by rw [beq_eq_false_iff_ne]; exact fun e => hx3 (.inl e)
                have x1 : (x == 1) = false := by rw [beq_eq_false_iff_ne]; exact fun e => hx3 (.inr (.inl e))
                have x2 : (x == 2) = false := by rw [beq_eq_false_iff_ne]; exact fun e => hx3 (.inr (.inr e))
                have x3 : ((x != 0) = true ∧ (x != 1) = true) ∧ (x != 2) = true := ⟨⟨by simp [bne, x0], by simp [bne, x1]⟩, by simp [bne, x2]⟩
                clear hx3
                go_wp2
                all_goals first | (go_ret; exact ⟨rfl, rfl⟩) | (exfalso; rename_i h9; rcases h9 with (h9 | h9) | h9 <;> simp [bne, x0, x1, x2] at h9)
        · obtain rfl : k = nk := by omega
          have hE2 : E = 0 := by
            rw [← unhide hc, List.drop_eq_nil_of_le (by rw [List.length_map, unhide HP]; exact Nat.le_refl _)]
            rfl
          subst hE2
          clear hc
          go_wp2
          go_ret
          exact ⟨rfl, rfl⟩
    · have hE4 : E = 4 := by rw [← unhide hE]; unfold errP; rw [if_pos (.inr (by omega))]
      subst hE4
      have hbn : ((nk : Int) == (np : Int)) = false := by rw [beq_eq_false_iff_ne]; omega
      clear hP hK hPI hap hne
      go_enter Tryz.func26, Tryz.ntmps26
      go_wp2
      go_ret
      exact ⟨rfl, rfl⟩
end Go.Proofs.YtfoaaamcpknjnadGreat
