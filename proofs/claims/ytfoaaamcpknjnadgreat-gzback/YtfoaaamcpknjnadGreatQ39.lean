/-
  What bits.isSize and bits.fits answer, for whatever numbers.
-/
import Derived.Test.YtfoaaamcpknjnadGreatQ1
import Derived.Test.YtfoaaamcpknjnadGreatQ0
import Derived.Test.YtfoaaamcpknjnadGreatQ4
import Derived.Test.YtfoaaamcpknjnadGreatQ26
import Derived.Test.YtfoaaamcpknjnadGreatQ7
import Derived.Test.YtfoaaamcpknjnadGreatQ38
import Derived.Laws.EntriesVeiled
namespace Go.Proofs.YtfoaaamcpknjnadGreat
open Go.RowKit
set_option linter.unusedVariables false

def sizeB (s : Int) : Bool := decide (0 ≤ s ∧ s ≤ 16)
def fitsB (n s : Int) : Bool := decide (0 ≤ s ∧ s ≤ 16 ∧ 0 ≤ n ∧ n < 2 ^ s.toNat)

theorem sizeB_true {s : Int} (h : sizeB s = true) : 0 ≤ s ∧ s ≤ 16 := of_decide_eq_true h
theorem sizeB_false {s : Int} (h : sizeB s = false) : ¬ (0 ≤ s ∧ s ≤ 16) := of_decide_eq_false h
theorem fitsB_true {n s : Int} (h : fitsB n s = true) : 0 ≤ s ∧ s ≤ 16 ∧ 0 ≤ n ∧ n < 2 ^ s.toNat := of_decide_eq_true h
theorem fitsB_false {n s : Int} (h : fitsB n s = false) : ¬ (0 ≤ s ∧ s ≤ 16 ∧ 0 ≤ n ∧ n < 2 ^ s.toNat) := of_decide_eq_false h

theorem isSize_any (s : Int) (w : World) :
    Calls Tryz.prog 152 #[.int .i64 s] w fun e w' => e = .returned (.bool (sizeB s)) ∧ w' = w := by
  by_cases h1 : 0 ≤ s
  · by_cases h2 : s ≤ 16
    · have hd : sizeB s = true := decide_eq_true ⟨h1, h2⟩
      rw [hd]
      clear hd
      go_enter Tryz.func152, Tryz.ntmps152
      go_wp2
      go_ret
      exact ⟨by simp, rfl⟩
    · have hd : sizeB s = false := decide_eq_false (by omega)
      rw [hd]
      clear hd
      go_enter Tryz.func152, Tryz.ntmps152
      go_wp2
      go_ret
      exact ⟨by simp, rfl⟩
  · have hd : sizeB s = false := decide_eq_false (by omega)
    rw [hd]
    clear hd
    go_enter Tryz.func152, Tryz.ntmps152
    go_wp2
    go_ret
    exact ⟨rfl, rfl⟩

theorem wrap_pow {s : Int} (h : s ≤ 16) : wrap64 (2 ^ s.toNat) = 2 ^ s.toNat := by
  have h1 : s.toNat ≤ 16 := by omega
  have h2 : (2 : Int) ^ s.toNat ≤ 2 ^ 16 := by
    have := Nat.pow_le_pow_right (n := 2) (by decide) h1
    exact_mod_cast this
  have h3 : (0 : Int) ≤ 2 ^ s.toNat := by
    have := Nat.zero_le (2 ^ s.toNat)
    exact_mod_cast this
  unfold wrap64; omega

theorem fits_any (n s : Int) (w : World) :
    Calls Tryz.prog 141 #[.int .i64 n, .int .i64 s] w fun e w' => e = .returned (.bool (fitsB n s)) ∧ w' = w := by
  by_cases h1 : sizeB s = true
  · obtain ⟨h0, h2⟩ := sizeB_true h1
    by_cases h3 : 0 ≤ n
    · go_enter Tryz.func141, Tryz.ntmps141
      go_wp2_with (go_at_call 152; refine (isSize_any _ _).mono ?_; rintro e w' ⟨rfl, rfl⟩)
      go_ret
      refine ⟨ret_bool ?_, rfl⟩
      rw [wrap_pow h2]
      simp [fitsB, h0, h2, h3]
    · have hd : fitsB n s = false := decide_eq_false (by omega)
      rw [hd]
      clear hd
      go_enter Tryz.func141, Tryz.ntmps141
      go_wp2_with (go_at_call 152; refine (isSize_any _ _).mono ?_; rintro e w' ⟨rfl, rfl⟩)
      go_ret
      exact ⟨rfl, rfl⟩
  · have h4 : sizeB s = false := by simpa using h1
    have hd : fitsB n s = false := decide_eq_false (by have := sizeB_false h4; omega)
    rw [hd]
    clear hd h1
    go_enter Tryz.func141, Tryz.ntmps141
    go_wp2_with (go_at_call 152; refine (isSize_any _ _).mono ?_; rintro e w' ⟨rfl, rfl⟩)
    go_ret
    exact ⟨rfl, rfl⟩
end Go.Proofs.YtfoaaamcpknjnadGreat

/-
  bits.Turn.
-/
namespace Go.Proofs.YtfoaaamcpknjnadGreat
open Go.RowKit
set_option linter.unusedVariables false

theorem turn_no (n s : Int) (w : World) (h : fitsB n s = false) :
    Calls Tryz.prog 113 #[.int .i64 n, .int .i64 s] w fun e w' => e = .returned (.tuple #[.int .i64 0, .int .i64 3]) ∧ w' = w := by
  go_enter Tryz.func113, Tryz.ntmps113
  go_wp2_with (go_at_call 141; refine (fits_any _ _ _).mono ?_; rintro e w' ⟨rfl, rfl⟩)
  go_ret2
  exact ⟨rfl, rfl⟩

theorem turnL_lt16 (n : Nat) {k : Nat} (h : k < 16) : turnL n k < 32768 := Nat.lt_of_lt_of_le (turnL_lt n k) (Nat.pow_le_pow_right (j := 15) (by decide) (by omega))

theorem turn_yes (n s : Nat) (w : World) (h : fitsB n s = true) (hs : s ≤ 16) (hn : n < 65536) :
    Calls Tryz.prog 113 #[.int .i64 n, .int .i64 s] w fun e w' => e = .returned (.tuple #[.int .i64 (turnL n s : Nat), .int .i64 0]) ∧ w' = w := by
  go_enter Tryz.func113, Tryz.ntmps113
  go_wp2_with (go_at_call 141; refine (fits_any _ _ _).mono ?_; rintro e w' ⟨rfl, rfl⟩)
  go_loop [6, 13] (fun t i => ∃ k : Nat, k ≤ s ∧ i = .int .i64 k ∧ t = .int .i64 (turnL n k : Nat)) (fun _ i => s - (intOf i).toNat)
  case atStart => exact ⟨0, Nat.zero_le _, rfl, rfl⟩
  case round =>
    obtain ⟨k, hk, rfl, rfl⟩ := hrel
    by_cases hlt : k < s
    · have hb := turnL_lt16 n (k := k) (by omega)
      have hst := turn_step (turnL n k) n k (by omega) (by omega)
      have H : Hid (turnL n (k + 1) = turnL n k * 2 ||| n / 2 ^ k % 2) := rfl
      have HS := hide hst
      clear hst
      generalize turnL n k = m at *
      go_wp2
      go_round
      case rel => exact ⟨k + 1, by omega, by go_num, by rw [H.out, unhide HS]⟩
      case measure => simp [intOf]; omega
    · have e : k = s := by omega
      subst e
      go_wp2
      go_ret2
      exact ⟨rfl, rfl⟩
end Go.Proofs.YtfoaaamcpknjnadGreat

/-
  The bits of a code: the number turned round.
-/
namespace Go.Proofs.YtfoaaamcpknjnadGreat
open Go.RowKit
set_option linter.unusedVariables false
set_option maxRecDepth 100000

/-- the bits of a number turned round are those of the number, the highest first -/
theorem numBits_turn : ∀ n c, numBits (turnL c n) n = hb c n := by
  intro n c
  apply List.ext_getElem
  · rw [numBits_length, hb_length]
  · intro i h1 h2
    rw [numBits_length] at h1
    have e1 : (numBits (turnL c n) n).getD i false = (numBits (turnL c n) n)[i]'(by rw [numBits_length]; exact h1) := by simp [List.getD, numBits_length, h1]
    rw [← e1, numBits_getD, decide_eq_true h1, Bool.true_and, turnL_bit, decide_eq_true h1, Bool.true_and]
    exact (hb_at n c i h1 h2).symm
where
  hb_at : ∀ n c i (h : i < n) (h2 : i < (hb c n).length), (hb c n)[i] = c.testBit (n - 1 - i)
  | 0, c, i, h, _ => by omega
  | n + 1, c, i, h, h2 => by
    by_cases e : i = n
    · subst e
      have : (hb c (i + 1))[i]'h2 = decide (c % 2 = 1) := by
        have hl := hb_length i (c / 2)
        simp only [hb]
        rw [List.getElem_append_right (by omega)]
        simp [hl]
      rw [this]
      rw [show i + 1 - 1 - i = 0 by omega, Nat.testBit_zero]
    · have hl := hb_length n (c / 2)
      have : (hb c (n + 1))[i]'h2 = (hb (c / 2) n)[i]'(by omega) := by
        simp only [hb]
        rw [List.getElem_append_left (by omega)]
      rw [this, hb_at n (c / 2) i (by omega) (by omega), show n + 1 - 1 - i = (n - 1 - i) + 1 by omega, Nat.testBit_succ]
end Go.Proofs.YtfoaaamcpknjnadGreat

/-
  coder, and what it answers.
-/
namespace Go.Proofs.YtfoaaamcpknjnadGreat
open Go.RowKit
set_option linter.unusedVariables false
set_option maxRecDepth 100000

/-- what a coder reads: its three boxes, the codes, the lengths; all in blocks of Bx -/
structure CIs (Bx : Nat → Prop) (W : World) (gc gl gr rb : Nat) (a : Option Addr) (len cap : Nat) (l : List Int) : Prop where
  ex : ∃ gk b o, a = some ⟨b, o, none⟩ ∧ (b < W.heap.size ∧ Bx b) ∧ (gk < W.heap.size ∧ Bx gk) ∧ W.cell? ⟨gc, 0, none⟩ = some (.slice (some ⟨gk, 0, none⟩) len len) ∧ Row .i64 W b o l ∧ ∀ j, j < len → W.cell? ⟨gk, j, none⟩ = some (.int .i64 (codeN l j : Nat))
  bl : W.cell? ⟨gl, 0, none⟩ = some (.slice a len cap)
  br : W.cell? ⟨gr, 0, none⟩ = some (.pointer (some ⟨rb, 0, none⟩))
  bx : (gc < W.heap.size ∧ Bx gc) ∧ (gl < W.heap.size ∧ Bx gl) ∧ (gr < W.heap.size ∧ Bx gr)
theorem CIs.keep {Bx : Nat → Prop} {W W' : World} {gc gl gr rb : Nat} {a : Option Addr} {len cap : Nat} {l : List Int} (h : CIs Bx W gc gl gr rb a len cap l) (hs : W.heap.size ≤ W'.heap.size) (hk : ∀ g, g < W.heap.size → Bx g → W'.heap[g]? = W.heap[g]?) : CIs Bx W' gc gl gr rb a len cap l := by
  have hc : ∀ {g j : Nat} {v : Value}, g < W.heap.size ∧ Bx g → W.cell? ⟨g, j, none⟩ = some v → W'.cell? ⟨g, j, none⟩ = some v := fun {g j v} hg hv => by
    rw [World.cell?_of_block (w := W) (a := ⟨g, j, none⟩) (hk g hg.1 hg.2)]; exact hv
  have up : ∀ {g : Nat}, g < W.heap.size ∧ Bx g → g < W'.heap.size ∧ Bx g := fun hg => ⟨Nat.lt_of_lt_of_le hg.1 hs, hg.2⟩
  obtain ⟨gk, b, o, h1, h2, h3, h4, h5, h6⟩ := h.ex
  exact ⟨⟨gk, b, o, h1, up h2, up h3, hc h.bx.1 h4, fun j hj => hc h2 (h5 j hj), fun j hj => hc h3 (h6 j hj)⟩, hc h.bx.2.1 h.bl, hc h.bx.2.2 h.br, up h.bx.1, up h.bx.2.1, up h.bx.2.2⟩
theorem CIs.more {Bx Bx' : Nat → Prop} {W : World} {gc gl gr rb : Nat} {a : Option Addr} {len cap : Nat} {l : List Int} (h : CIs Bx W gc gl gr rb a len cap l) (hk : ∀ g, Bx g → Bx' g) : CIs Bx' W gc gl gr rb a len cap l := by
  obtain ⟨gk, b, o, h1, h2, h3, h4, h5, h6⟩ := h.ex
  exact ⟨⟨gk, b, o, h1, ⟨h2.1, hk _ h2.2⟩, ⟨h3.1, hk _ h3.2⟩, h4, h5, h6⟩, h.bl, h.br, ⟨h.bx.1.1, hk _ h.bx.1.2⟩, ⟨h.bx.2.1.1, hk _ h.bx.2.1.2⟩, ⟨h.bx.2.2.1, hk _ h.bx.2.2.2⟩⟩

abbrev CV (gc gl gr : Nat) : Value := .func (.func 112) #[] #[.pointer (some ⟨gc, 0, none⟩), .pointer (some ⟨gl, 0, none⟩), .pointer (some ⟨gr, 0, none⟩)]

set_option maxHeartbeats 2000000 in
theorem code_any (Bx No : Nat → Prop) (B gc gl gr rb : Nat) (a : Option Addr) (len cap : Nat) (l : List Int) (q : Nat) (S : List Bool) (W : World) (hC : CIs Bx W gc gl gr rb a len cap l) (hl : l.length = len) (hG : Good l) (hq : q < len) (hpos : 0 < l.getD q 0) (h : RIs No B W rb S) (hS : S.length ≤ 300000) (hNo : ∀ g, W.heap.size ≤ g → ¬ No g) :
    Calls Tryz.prog 112 #[.int .i64 (q : Int), .pointer (some ⟨gc, 0, none⟩), .pointer (some ⟨gl, 0, none⟩), .pointer (some ⟨gr, 0, none⟩)] W fun e w' => e = .returned (.tuple #[]) ∧ Rp No B W rb (S ++ codeT l q) w' := by
  obtain ⟨gk, b, o, rfl, hb, hgk, c1, hrow, hcod⟩ := hC.ex
  have c2 := hC.bl
  have c3 := hC.br
  have hlen := hG.len
  obtain ⟨m, hm⟩ := Int.eq_ofNat_of_zero_le (hG.ok q (by omega)).1
  have hm15 := (hG.ok q (by omega)).2
  have c4 := hrow q (by omega)
  have c5 := hcod q hq
  rw [hm] at c4 hm15 hpos
  have hlt := (code_lt l hG (by omega) hm (by omega)).2.2
  have HT : Hid (S ++ codeT l q = S ++ numBits (turnL (codeN l q) m) m) := hide (by unfold codeT; rw [hm, Int.toNat_natCast, numBits_turn])
  have hp15 : 2 ^ m ≤ 2 ^ 15 := Nat.pow_le_pow_right (by decide) (by omega)
  have hp15' : (2 : Nat) ^ 15 = 32768 := by decide
  have hcl : codeN l q < 32768 := by omega
  have hfit : fitsB (codeN l q : Nat) (m : Nat) = true := decide_eq_true ⟨by omega, by omega, by omega, by rw [Int.toNat_natCast]; exact_mod_cast hlt⟩
  have HTN := hide (fun W => turn_yes (codeN l q) m W hfit (by omega) (by omega))
  have htl := turnL_lt16 (codeN l q) (k := m) (by omega)
  have HPT := hide (fun (k x : Nat) (hx : x < 65536) => rput_any No B rb x m S (W.drewN k) (h.drewN k) hx (by omega) hS hNo)
  have HRD := hide (fun k => h.drew k)
  rw [unhide HT]
  have hqI : (q : Int) < (len : Int) := by omega
  clear hC hrow hcod hlt hfit HT h hNo hG hm hp15 hp15'
  generalize codeN l q = cq at *
  generalize turnL cq m = tq at *
  go_enter Tryz.func112, Tryz.ntmps112
  go_wp2
  go_quiet ((go_at_call 113; refine Calls.quiet_of_same (unhide HTN _)))
  go_wp2
  go_region_with (go_at_call 41; refine (unhide HPT _ _ (by omega)).mono ?_; rintro e w2 ⟨rfl, hR⟩)
  all_goals try go_wp2
  all_goals go_end0
  all_goals trace_state
  all_goals exact ⟨rfl, (unhide HRD _).trans hR⟩
end Go.Proofs.YtfoaaamcpknjnadGreat

/-
  putter: a sink that puts all behind a row; coder made.
-/
namespace Go.Proofs.YtfoaaamcpknjnadGreat
open Go.RowKit
set_option linter.unusedVariables false
set_option maxRecDepth 100000

theorem coder_any (b o rb len cap : Nat) (l : List Int) (w : World) (hl : l.length = len) (hlen : 1 ≤ len) (hb : b < w.heap.size) (hR : Row .i64 w b o l) (hG : Good l) :
    Calls Tryz.prog 85 #[.pointer (some ⟨rb, 0, none⟩), .slice (some ⟨b, o, none⟩) len cap] w fun e w' => ∃ gc gl gr, e = .returned (CV gc gl gr) ∧ CIs (fun g => w.heap.size ≤ g ∨ g = b) w' gc gl gr rb (some ⟨b, o, none⟩) len cap l ∧ Below w.heap.size w w' := by
  have HR := hide hR
  have HG := hide hG
  have HL := hide hl
  clear hR hG hl
  go_enter Tryz.func85, Tryz.ntmps85
  go_wp2_with fail
  refine (codes_ok (some ⟨b, o, none⟩) len cap l _ (unhide HL) (RowIn.alloc (RowIn.alloc (.inr ⟨b, o, rfl, hb, unhide HR⟩) _) _) (unhide HG)).mono ?_
  rintro e w1 ⟨g, rfl, hO, hB, hg⟩
  have hz := hB.size
  simp only [World.size_alloc] at hz hg
  have HF : Hid (CIs (fun g => w.heap.size ≤ g ∨ g = b) (w1.alloc (.cells #[.slice (some ⟨g, 0, none⟩) len len] 37)) w1.heap.size (w.heap.size + 1) w.heap.size rb (some ⟨b, o, none⟩) len cap l ∧ Below w.heap.size w (w1.alloc (.cells #[.slice (some ⟨g, 0, none⟩) len len] 37))) := by
    have b0 := (Below.refl w.heap.size w).alloc (Nat.le_refl _) (.cells #[.pointer (some ⟨rb, 0, none⟩)] 59)
    have b1 := b0.alloc (by simp) (.cells #[.slice (some ⟨b, o, none⟩) len cap] 37)
    have b2 := b1.trans (hB.mono (by simp; omega))
    have b3 := b2.alloc (by omega) (.cells #[.slice (some ⟨g, 0, none⟩) len len] 37)
    have hgl := (hO.lt g rfl).2
    refine ⟨⟨⟨g, b, o, rfl, ⟨by simp; omega, .inr rfl⟩, ⟨by simp; omega, .inl (by omega)⟩, by simp, fun j hj => (b3.cell (p := ⟨b, _, none⟩) hb).trans (unhide HR j hj), ?_⟩, ?_, ?_, ⟨by simp, .inl (by omega)⟩, ⟨by simp; omega, .inl (by omega)⟩, ⟨by simp; omega, .inl (by omega)⟩⟩, b3⟩
    · intro j hj
      rw [World.cell?_alloc_past _ _ _ (by simpa using hgl)]
      rw [hO.cellAt j (by omega)]
      have hc := codL_length l len
      have hcl : j < (codL l len).length := by rw [hc, unhide HL]; exact hj
      have := codL_at l (j := j) (by rw [unhide HL]; exact hj) len
      rw [if_pos hj] at this
      rw [← this]
      simp [i64s, List.getD, hcl]
    · rw [World.cell?_alloc_past _ _ _ (by show w.heap.size + 1 < _; omega), hB.cell (p := ⟨w.heap.size + 1, 0, none⟩) (by simp only [World.size_alloc]; omega)]
      simp
    · rw [World.cell?_alloc_past _ _ _ (by show w.heap.size < _; omega), hB.cell (p := ⟨w.heap.size, 0, none⟩) (by simp only [World.size_alloc]; omega)]
      simp
  clear hO hB hg
  go_wp2
  go_ret
  exact ⟨_, _, _, rfl, unhide HF⟩

set_option maxHeartbeats 1000000 in
theorem putter_any (b1 o1 n1 c1 b2 o2 n2 c2 rb : Nat) (l1 l2 : List Int) (w : World) (hl1 : l1.length = n1) (hl2 : l2.length = n2) (hn1 : 1 ≤ n1) (hn2 : 1 ≤ n2) (hb1 : b1 < w.heap.size) (hb2 : b2 < w.heap.size) (hR1 : Row .i64 w b1 o1 l1) (hR2 : Row .i64 w b2 o2 l2) (hG1 : Good l1) (hG2 : Good l2) :
    Calls Tryz.prog 63 #[.pointer (some ⟨rb, 0, none⟩), .slice (some ⟨b1, o1, none⟩) n1 c1, .slice (some ⟨b2, o2, none⟩) n2 c2] w fun e w' => ∃ gc gl gr hc hl hr, e = .returned (.agg #[CV gc gl gr, CV hc hl hr, .func (.func 41) #[.pointer (some ⟨rb, 0, none⟩)] #[]]) ∧ CIs (fun g => w.heap.size ≤ g ∨ g = b1 ∨ g = b2) w' gc gl gr rb (some ⟨b1, o1, none⟩) n1 c1 l1 ∧ CIs (fun g => w.heap.size ≤ g ∨ g = b1 ∨ g = b2) w' hc hl hr rb (some ⟨b2, o2, none⟩) n2 c2 l2 ∧ Below w.heap.size w w' := by
  obtain ⟨wz, hwz⟩ : ∃ wz, wz = w.heap.size := ⟨_, rfl⟩
  have H1 := hide (fun (W : World) (hB : Below w.heap.size w W) => coder_any b1 o1 rb n1 c1 l1 W hl1 hn1 (Nat.lt_of_lt_of_le hb1 hB.size) (fun j hj => (hB.cell (p := ⟨b1, _, none⟩) hb1).trans (hR1 j hj)) hG1)
  have H2 := hide (fun (W : World) (hB : Below w.heap.size w W) => coder_any b2 o2 rb n2 c2 l2 W hl2 hn2 (Nat.lt_of_lt_of_le hb2 hB.size) (fun j hj => (hB.cell (p := ⟨b2, _, none⟩) hb2).trans (hR2 j hj)) hG2)
  clear hR1 hR2 hG1 hG2
  go_enter Tryz.func63, Tryz.ntmps63
  go_wp2_with fail
  refine (unhide H1 _ ((Below.refl w.heap.size w).alloc (Nat.le_refl _) _)).mono ?_
  rintro e w1 ⟨gc, gl, gr, rfl, hC1, hB1⟩
  have hz1 := hB1.size
  simp only [World.size_alloc] at hz1
  have hBw1 : Below w.heap.size w w1 := ((Below.refl w.heap.size w).alloc (Nat.le_refl _) _).trans (hB1.mono (by simp))
  have HC1 := hide hC1
  have HB1 := hide hB1
  have HBw := hide hBw1
  clear hC1 hB1 hBw1
  go_wp2_with fail
  refine (unhide H2 _ (unhide HBw)).mono ?_
  rintro e w2 ⟨hc, hl, hr, rfl, hC2, hB2⟩
  have hz2 := hB2.size
  have hblk : w2.heap[w.heap.size]? = some (.cells #[.nilFunc, .nilFunc, .nilFunc] 124 (0, 0)) := by
    rw [hB2.block _ (by omega), (unhide HB1).block _ (by simp)]
    exact heap_alloc_new _ _
  have f0 := frozen_of_row w2 w.heap.size 0 _ _ hblk
  have f1 := frozen_of_row w2 w.heap.size 1 _ _ hblk
  have f2 := frozen_of_row w2 w.heap.size 2 _ _ hblk
  have c0 : w2.cell? ⟨w.heap.size, 0, none⟩ = some .nilFunc := heap_row hblk
  have c1' : w2.cell? ⟨w.heap.size, 1, none⟩ = some .nilFunc := heap_row hblk
  have c2' : w2.cell? ⟨w.heap.size, 2, none⟩ = some .nilFunc := heap_row hblk
  have HBLK := hide hblk
  have HC2 := hide hC2
  have HB2 := hide hB2
  have HFIN : Hid (∀ v3, (((w2.setCell ⟨w.heap.size, 0, none⟩ (CV gc gl gr)).setCell ⟨w.heap.size, 1, none⟩ (CV hc hl hr)).setCell ⟨w.heap.size, 2, none⟩ v3).heap[w.heap.size]? = some (.cells #[CV gc gl gr, CV hc hl hr, v3] 124 (0, 0)) ∧ CIs (fun g => w.heap.size ≤ g ∨ g = b1 ∨ g = b2) (((w2.setCell ⟨w.heap.size, 0, none⟩ (CV gc gl gr)).setCell ⟨w.heap.size, 1, none⟩ (CV hc hl hr)).setCell ⟨w.heap.size, 2, none⟩ v3) gc gl gr rb (some ⟨b1, o1, none⟩) n1 c1 l1 ∧ CIs (fun g => w.heap.size ≤ g ∨ g = b1 ∨ g = b2) (((w2.setCell ⟨w.heap.size, 0, none⟩ (CV gc gl gr)).setCell ⟨w.heap.size, 1, none⟩ (CV hc hl hr)).setCell ⟨w.heap.size, 2, none⟩ v3) hc hl hr rb (some ⟨b2, o2, none⟩) n2 c2 l2 ∧ Below w.heap.size w (((w2.setCell ⟨w.heap.size, 0, none⟩ (CV gc gl gr)).setCell ⟨w.heap.size, 1, none⟩ (CV hc hl hr)).setCell ⟨w.heap.size, 2, none⟩ v3)) := by
    intro v3
    have g1 := grown_setCell w2 w.heap.size 0 (CV gc gl gr)
    have g2 := grown_setCell (w2.setCell ⟨w.heap.size, 0, none⟩ (CV gc gl gr)) w.heap.size 1 (CV hc hl hr)
    have g3 := grown_setCell ((w2.setCell ⟨w.heap.size, 0, none⟩ (CV gc gl gr)).setCell ⟨w.heap.size, 1, none⟩ (CV hc hl hr)) w.heap.size 2 v3
    have gg := grown_trans (grown_trans g1 g2) g3
    have bw2 : Below w.heap.size w w2 := (unhide HBw).trans (hB2.mono (by omega))
    refine ⟨?_, ?_, ?_, bw2.grown gg (by omega) (fun j e => by rw [← Option.some.inj e]; exact Nat.le_refl _)⟩
    · rw [heap_setCell_same _ _ 2 _ _ _ (heap_setCell_same _ _ 1 _ _ _ (heap_setCell_same _ _ 0 _ _ _ hblk))]
      rfl
    · have k1 := (unhide HC1).keep (W' := w2) hz2 (fun g hg _ => hB2.block g hg)
      have k2 := k1.keep (W' := ((w2.setCell ⟨w.heap.size, 0, none⟩ (CV gc gl gr)).setCell ⟨w.heap.size, 1, none⟩ (CV hc hl hr)).setCell ⟨w.heap.size, 2, none⟩ v3) gg.size (fun g hg hb => gg.block g hg (fun e => by
        have e := Option.some.inj e
        simp only [World.size_alloc] at hb
        omega))
      exact k2.more (fun g hb => by simp only [World.size_alloc] at hb; omega)
    · have k2 := hC2.keep (W' := ((w2.setCell ⟨w.heap.size, 0, none⟩ (CV gc gl gr)).setCell ⟨w.heap.size, 1, none⟩ (CV hc hl hr)).setCell ⟨w.heap.size, 2, none⟩ v3) gg.size (fun g hg hb => gg.block g hg (fun e => by
        have e := Option.some.inj e
        omega))
      exact k2.more (fun g hb => by omega)
  clear hC2 hB2 hblk
  go_wp2
  obtain ⟨z1, z2, z3, z4⟩ := unhide HFIN (.func (.func 41) #[.pointer (some ⟨rb, 0, none⟩)] #[])
  refine bodyPost_ret (v := .agg #[CV gc gl gr, CV hc hl hr, .func (.func 41) #[.pointer (some ⟨rb, 0, none⟩)] #[]]) ?_ rfl ⟨gc, gl, gr, hc, hl, hr, rfl, z2, z3, z4⟩
  exact results_cell_row rfl _ _ _ _ _ _ _ rfl z1 Tryz.underlying124 rfl (by kernel_rfl)

/-- the sink that puts behind a row: what was put so far -/
structure PJ (Bx : Nat → Prop) (B rb : Nat) (S : List Bool) (l1 l2 : List Int) (gc gl gr hc hl hr b1 o1 n1 c1 b2 o2 n2 c2 : Nat) (No : Nat → Prop) (is : List It) (W : World) : Prop where
  row : RIs (fun g => No g ∨ Bx g) B W rb (S ++ putIs l1 l2 is)
  ca : CIs Bx W gc gl gr rb (some ⟨b1, o1, none⟩) n1 c1 l1
  cb : CIs Bx W hc hl hr rb (some ⟨b2, o2, none⟩) n2 c2 l2
  bl : ∀ g, Bx g → g < W.heap.size
theorem CIs.bound {Bx : Nat → Prop} {W : World} {gc gl gr rb : Nat} {a : Option Addr} {len cap : Nat} {l : List Int} (h : CIs Bx W gc gl gr rb a len cap l) : CIs (fun g => Bx g ∧ g < W.heap.size) W gc gl gr rb a len cap l := by
  obtain ⟨gk, b, o, h1, h2, h3, h4, h5, h6⟩ := h.ex
  exact ⟨⟨gk, b, o, h1, ⟨h2.1, h2.2, h2.1⟩, ⟨h3.1, h3.2, h3.1⟩, h4, h5, h6⟩, h.bl, h.br, ⟨h.bx.1.1, h.bx.1.2, h.bx.1.1⟩, ⟨h.bx.2.1.1, h.bx.2.1.2, h.bx.2.1.1⟩, ⟨h.bx.2.2.1, h.bx.2.2.2, h.bx.2.2.1⟩⟩
theorem enters_any {f : Nat} {fn : Func} {c : Code} (hf : Tryz.prog.funcs[f]? = some fn) (hname : (fn.name == "runtime.NumGoroutine") = false) (hb : fn.body = some c) : ∀ (args : Array Value) (w : World), (callFunc f args).run Tryz.prog w = .ok (.enter f args) w := enters_of hf hname hb
theorem code_len' (l : List Int) (hG : Good l) (q : Nat) (hq : q < l.length) : (codeT l q).length ≤ 15 := by rw [code_len l hG]; have := hG.ok q hq; omega
theorem putIs_len (l1 l2 : List Int) (hG1 : Good l1) (hG2 : Good l2) : ∀ is : List It, Has l1 l2 is → (∀ i ∈ is, VI i) → (putIs l1 l2 is).length ≤ 15 * is.length
  | [], _, _ => by simp [putIs]
  | i :: is, h, hv => by
    have ih := putIs_len l1 l2 hG1 hG2 is (Has.app (x := [i]) (y := is) h).2 (fun j hj => hv j (by simp [hj]))
    have e : putIs l1 l2 (i :: is) = putI l1 l2 i ++ putIs l1 l2 is := by simp [putIs]
    rw [e, List.length_append, List.length_cons]
    have : (putI l1 l2 i).length ≤ 15 := by
      cases i with
      | sym k => exact code_len' l1 hG1 k (h.1 k (by simp)).1
      | far k => exact code_len' l2 hG2 k (h.2 k (by simp)).1
      | rest n s =>
        have := (hv _ (by simp : It.rest n s ∈ _)).2
        show (numBits n s).length ≤ 15
        rw [numBits_length]; omega
    omega
theorem put_snk (Bx : Nat → Prop) (B rb : Nat) (S : List Bool) (l1 l2 : List Int) (gc gl gr hc hl hr b1 o1 n1 c1 b2 o2 n2 c2 : Nat) (all : List It) (hl1 : l1.length = n1) (hl2 : l2.length = n2) (hG1 : Good l1) (hG2 : Good l2) (hall : Has l1 l2 all) (hvi : ∀ i ∈ all, VI i) (hS : S.length + 15 * all.length ≤ 300000) :
    Snk (PJ Bx B rb S l1 l2 gc gl gr hc hl hr b1 o1 n1 c1 b2 o2 n2 c2) B 112 112 41 #[.pointer (some ⟨gc, 0, none⟩), .pointer (some ⟨gl, 0, none⟩), .pointer (some ⟨gr, 0, none⟩)] #[.pointer (some ⟨hc, 0, none⟩), .pointer (some ⟨hl, 0, none⟩), .pointer (some ⟨hr, 0, none⟩)] #[.pointer (some ⟨rb, 0, none⟩)] all := by
  have step : ∀ {No : Nat → Prop} {is R : List It} {i : It} {W W' : World}, is ++ i :: R = all → PJ Bx B rb S l1 l2 gc gl gr hc hl hr b1 o1 n1 c1 b2 o2 n2 c2 No is W → Rp (fun g => No g ∨ Bx g) B W rb (S ++ putIs l1 l2 is ++ putI l1 l2 i) W' → PJ Bx B rb S l1 l2 gc gl gr hc hl hr b1 o1 n1 c1 b2 o2 n2 c2 No (is ++ [i]) W' ∧ Below B W W' ∧ Kp No W W' := by
    intro No is R i W W' he hJ hR
    refine ⟨⟨?_, ?_, ?_, fun g h => Nat.lt_of_lt_of_le (hJ.bl g h) hR.below.size⟩, hR.below, hR.kp.weaken (fun g h => .inl h)⟩
    · have e : putIs l1 l2 (is ++ [i]) = putIs l1 l2 is ++ putI l1 l2 i := by rw [putIs_app]; simp [putIs]
      rw [e, ← List.append_assoc]
      exact hR.is
    · exact hJ.ca.keep hR.below.size (fun g hg hb => hR.kp g hg (.inr hb))
    · exact hJ.cb.keep hR.below.size (fun g hg hb => hR.kp g hg (.inr hb))
  have hlen : ∀ {is R : List It} {i : It}, is ++ i :: R = all → (S ++ putIs l1 l2 is).length ≤ 300000 := by
    intro is R i he
    have h1 : Has l1 l2 is := by rw [← he] at hall; exact hall.app.1
    have h2 : ∀ j ∈ is, VI j := fun j hj => hvi j (by rw [← he]; simp [hj])
    have h3 := putIs_len l1 l2 hG1 hG2 is h1 h2
    have h4 := congrArg List.length he
    rw [List.length_append, List.length_cons] at h4
    rw [List.length_append]
    omega
  refine ⟨enters_any Tryz.func112 (by kernel_rfl) rfl, enters_any Tryz.func112 (by kernel_rfl) rfl, enters_any Tryz.func41 (by kernel_rfl) rfl, ?_, ?_, ?_, ?_⟩
  · intro No No' is W W1 hJ hB hn
    refine ⟨hJ.row.grow hB (fun g e => ?_), hJ.ca.keep hB.size (fun g hg _ => hB.block g hg), hJ.cb.keep hB.size (fun g hg _ => hB.block g hg), fun g h => Nat.lt_of_lt_of_le (hJ.bl g h) hB.size⟩
    rcases e with e | e
    · rcases hn g e with h | h
      · exact .inl (.inl h)
      · exact .inr h
    · exact .inl (.inr e)
  · intro No is R k W he hJ hNo
    have hk := hall.1 k (by rw [← he]; simp)
    have := code_any Bx (fun g => No g ∨ Bx g) B gc gl gr rb (some ⟨b1, o1, none⟩) n1 c1 l1 k (S ++ putIs l1 l2 is) W hJ.ca hl1 hG1 (by omega) hk.2 hJ.row (hlen he) (fun g hg e => ?_)
    · refine this.mono ?_
      rintro e W' ⟨rfl, hR⟩
      exact ⟨rfl, step he hJ hR⟩
    · rcases e with e | e
      · exact hNo g hg e
      · have := hJ.bl g e; omega
  · intro No is R k W he hJ hNo
    have hk := hall.2 k (by rw [← he]; simp)
    have := code_any Bx (fun g => No g ∨ Bx g) B hc hl hr rb (some ⟨b2, o2, none⟩) n2 c2 l2 k (S ++ putIs l1 l2 is) W hJ.cb hl2 hG2 (by omega) hk.2 hJ.row (hlen he) (fun g hg e => ?_)
    · refine this.mono ?_
      rintro e W' ⟨rfl, hR⟩
      exact ⟨rfl, step he hJ hR⟩
    · rcases e with e | e
      · exact hNo g hg e
      · have := hJ.bl g e; omega
  · intro No is R n s W he hJ hNo
    have hv := hvi (.rest n s) (by rw [← he]; simp)
    have hs : s ≤ 10 := hv.2
    have hp : 2 ^ s ≤ 2 ^ 10 := Nat.pow_le_pow_right (by decide) hs
    have hn : n < 65536 := Nat.lt_of_lt_of_le (Nat.lt_of_lt_of_le hv.1 hp) (by decide)
    refine (rput_any (fun g => No g ∨ Bx g) B rb n s (S ++ putIs l1 l2 is) W hJ.row hn (by omega) (hlen he) (fun g hg e => ?_)).mono ?_
    · rcases e with e | e
      · exact hNo g hg e
      · have := hJ.bl g e; omega
    · rintro e W' ⟨rfl, hR⟩
      exact ⟨rfl, step he hJ hR⟩
end Go.Proofs.YtfoaaamcpknjnadGreat
