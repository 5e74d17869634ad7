/-
  coder, and what it answers.
-/
import Derived.Test.YtoiioemkibfdcacBlk1
import Derived.Test.YtoiioemkibfdcacTurn1
import Derived.Test.YtoiioemkibfdcacPBase
import Derived.Test.YtoiioemkibfdcacCode4
namespace Go.Proofs.Ytoiioemkibfdcac
open Go.RowKit
set_option linter.unusedVariables false
set_option maxRecDepth 100000

/-- what a coder reads: its three boxes, the codes, the lengths; all in blocks of Bx -/
structure CIs (Bx : Nat → Prop) (W : World) (gc gl gr rb : Nat) (a : Option Addr) (len cap : Nat) (l : List Int) : Prop where
  ex : ∃ gk b o, a = some ⟨b, o, none⟩ ∧ (b < W.heap.size ∧ Bx b) ∧ (gk < W.heap.size ∧ Bx gk) ∧ W.cell? ⟨gc, 0, none⟩ = some (.slice (some ⟨gk, 0, none⟩) len len) ∧ Row .i64 W b o l ∧ ∀ j, j < len → W.cell? ⟨gk, j, none⟩ = some (.int .i64 (codeN l j : Nat))
  bl : W.cell? ⟨gl, 0, none⟩ = some (.slice a len cap)
  br : W.cell? ⟨gr, 0, none⟩ = some (.pointer (some ⟨rb, 0, none⟩))
  bx : (gc < W.heap.size ∧ Bx gc) ∧ (gl < W.heap.size ∧ Bx gl) ∧ (gr < W.heap.size ∧ Bx gr)
theorem CIs.keep {Bx : Nat → Prop} {W W' : World} {gc gl gr rb : Nat} {a : Option Addr} {len cap : Nat} {l : List Int} (h : CIs Bx W gc gl gr rb a len cap l) (hs : W.heap.size ≤ W'.heap.size) (hk : ∀ g, g < W.heap.size → Bx g → W'.heap[g]? = W.heap[g]?) : CIs Bx W' gc gl gr rb a len cap l := by
  have hc : ∀ {g j : Nat} {v : Value}, g < W.heap.size ∧ Bx g → W.cell? ⟨g, j, none⟩ = some v → W'.cell? ⟨g, j, none⟩ = some v := fun {g j v} hg hv => by
    rw [World.cell?_of_block (w := W) (a := ⟨g, j, none⟩) (hk g hg.1 hg.2)]; exact hv
  have up : ∀ {g : Nat}, g < W.heap.size ∧ Bx g → g < W'.heap.size ∧ Bx g := fun hg => ⟨Nat.lt_of_lt_of_le hg.1 hs, hg.2⟩
  obtain ⟨gk, b, o, h1, h2, h3, h4, h5, h6⟩ := h.ex
  exact ⟨⟨gk, b, o, h1, up h2, up h3, hc h.bx.1 h4, fun j hj => hc h2 (h5 j hj), fun j hj => hc h3 (h6 j hj)⟩, hc h.bx.2.1 h.bl, hc h.bx.2.2 h.br, up h.bx.1, up h.bx.2.1, up h.bx.2.2⟩
theorem CIs.more {Bx Bx' : Nat → Prop} {W : World} {gc gl gr rb : Nat} {a : Option Addr} {len cap : Nat} {l : List Int} (h : CIs Bx W gc gl gr rb a len cap l) (hk : ∀ g, Bx g → Bx' g) : CIs Bx' W gc gl gr rb a len cap l := by
  obtain ⟨gk, b, o, h1, h2, h3, h4, h5, h6⟩ := h.ex
  exact ⟨⟨gk, b, o, h1, ⟨h2.1, hk _ h2.2⟩, ⟨h3.1, hk _ h3.2⟩, h4, h5, h6⟩, h.bl, h.br, ⟨h.bx.1.1, hk _ h.bx.1.2⟩, ⟨h.bx.2.1.1, hk _ h.bx.2.1.2⟩, ⟨h.bx.2.2.1, hk _ h.bx.2.2.2⟩⟩

abbrev CV (gc gl gr : Nat) : Value := .func (.func 98) #[] #[.pointer (some ⟨gc, 0, none⟩), .pointer (some ⟨gl, 0, none⟩), .pointer (some ⟨gr, 0, none⟩)]

set_option maxHeartbeats 2000000 in
theorem code_any (Bx No : Nat → Prop) (B gc gl gr rb : Nat) (a : Option Addr) (len cap : Nat) (l : List Int) (q : Nat) (S : List Bool) (W : World) (hC : CIs Bx W gc gl gr rb a len cap l) (hl : l.length = len) (hG : Good l) (hq : q < len) (hpos : 0 < l.getD q 0) (h : RIs No B W rb S) (hS : S.length ≤ 300000) (hNo : ∀ g, W.heap.size ≤ g → ¬ No g) :
    Calls Try.prog 98 #[.int .i64 (q : Int), .pointer (some ⟨gc, 0, none⟩), .pointer (some ⟨gl, 0, none⟩), .pointer (some ⟨gr, 0, none⟩)] W fun e w' => e = .returned (.tuple #[]) ∧ Rp No B W rb (S ++ codeT l q) w' := by
  obtain ⟨gk, b, o, rfl, hb, hgk, c1, hrow, hcod⟩ := hC.ex
  have c2 := hC.bl
  have c3 := hC.br
  have hlen := hG.len
  obtain ⟨m, hm⟩ := Int.eq_ofNat_of_zero_le (hG.ok q (by omega)).1
  have hm15 := (hG.ok q (by omega)).2
  have c4 := hrow q (by omega)
  have c5 := hcod q hq
  rw [hm] at c4 hm15 hpos
  have hlt := (code_lt l hG (by omega) hm (by omega)).2.2
  have HT : Hid (S ++ codeT l q = S ++ numBits (turnL (codeN l q) m) m) := hide (by unfold codeT; rw [hm, Int.toNat_natCast, numBits_turn])
  have hp15 : 2 ^ m ≤ 2 ^ 15 := Nat.pow_le_pow_right (by decide) (by omega)
  have hp15' : (2 : Nat) ^ 15 = 32768 := by decide
  have hcl : codeN l q < 32768 := by omega
  have hfit : fitsB (codeN l q : Nat) (m : Nat) = true := decide_eq_true ⟨by omega, by omega, by omega, by rw [Int.toNat_natCast]; exact_mod_cast hlt⟩
  have HTN := hide (fun W => turn_yes (codeN l q) m W hfit (by omega) (by omega))
  have htl := turnL_lt16 (codeN l q) (k := m) (by omega)
  have HPT := hide (fun (k x : Nat) (hx : x < 65536) => rput_any No B rb x m S (W.drewN k) (h.drewN k) hx (by omega) hS hNo)
  have HRD := hide (fun k => h.drew k)
  rw [unhide HT]
  have hqI : (q : Int) < (len : Int) := by omega
  clear hC hrow hcod hlt hfit HT h hNo hG hm hp15 hp15'
  generalize codeN l q = cq at *
  generalize turnL cq m = tq at *
  go_enter Try.func98, Try.ntmps98
  go_wp2
  go_quiet ((go_at_call 99; refine Calls.quiet_of_same (unhide HTN _)))
  go_wp2
  go_region_with (go_at_call 34; refine (unhide HPT _ _ (by omega)).mono ?_; rintro e w2 ⟨rfl, hR⟩)
  all_goals try go_wp2
  all_goals go_end0
  all_goals trace_state
  all_goals exact ⟨rfl, (unhide HRD _).trans hR⟩
end Go.Proofs.Ytoiioemkibfdcac
