/-
  Package inflate: a decoder of any lengths; what is newer than a point; the reader's rows stay where they are.
-/
import Derived.Test.YtfoaaamcpknjnahIun0
namespace Go.Proofs.Ytfoaaamcpknjnah
open Go.RowKit
set_option linter.unusedVariables false
set_option maxRecDepth 100000

theorem decoder_err (b : Nat) (a : Option Addr) (len cap : Nat) (l : List Int) (w : World) (hl : l.length = len) (hM : len ≤ 1000000) (hR : RowIn .i64 w a l) (he : errL l ≠ 0) :
    Calls Try.prog 87 #[.pointer (some ⟨b, 0, none⟩), .slice a len cap] w fun e w' => e = Flt (errL l) ∧ Below w.heap.size w w' := by
  have HC := hide (codes_err a len cap l (w.alloc (.cells #[.pointer (some ⟨b, 0, none⟩)] 86)) hl (by omega) (hR.alloc _) he)
  have HA : Hid (Below w.heap.size w (w.alloc (.cells #[.pointer (some ⟨b, 0, none⟩)] 86))) := hide ((Below.refl _ _).alloc (Nat.le_refl _) _)
  have hb : (errL l != 0) = true := by rw [bne_iff_ne]; exact he
  obtain ⟨E, hE⟩ : ∃ E, errL l = E := ⟨_, rfl⟩
  rw [hE] at HC hb ⊢
  clear hE he hR hl
  go_enter Try.func87, Try.ntmps87
  go_wp2_with fail
  refine (unhide HC).mono ?_
  rintro e w1 ⟨rfl, hB1⟩
  have HB1 : Hid (Below w.heap.size w w1) := hide ((unhide HA).trans (hB1.mono (by simp)))
  clear hB1
  go_wp2_with fail
  refine (giveUp_any E w1).mono ?_
  rintro e w2 ⟨rfl, rfl⟩
  go_wp2
  exact ⟨rfl, rfl, unhide HB1⟩

/-- a decoder is made, or the lengths are refused -/
def Deco (b : Nat) (l : List Int) (w : World) (e : Ending) (w' : World) : Prop :=
  Below w.heap.size w w' ∧ ((errL l = 0 ∧ ∃ gr gm mb nn, e = .returned (DV gr gm) ∧ w.heap.size ≤ gr ∧ w.heap.size ≤ gm ∧ w.heap.size ≤ mb ∧ mb < w'.heap.size ∧ DIs w' gr gm mb nn b l) ∨ (errL l ≠ 0 ∧ e = Flt (errL l)))
theorem decoder_any (b : Nat) (a : Option Addr) (len cap : Nat) (l : List Int) (w : World) (hl : l.length = len) (hM : len ≤ 1000000) (hR : RowIn .i64 w a l) :
    Calls Try.prog 87 #[.pointer (some ⟨b, 0, none⟩), .slice a len cap] w fun e w' => Deco b l w e w' := by
  by_cases he : errL l = 0
  · refine (decoder_ok b a len cap l w hl hR (errL_good he)).mono ?_
    rintro e w' ⟨gr, gm, mb, nn, h1, h2, h3, h4, h5, h6, h7⟩
    exact ⟨h7, .inl ⟨he, gr, gm, mb, nn, h1, h2, h3, h4, h5, h6⟩⟩
  · refine (decoder_err b a len cap l w hl hM hR he).mono ?_
    rintro e w' ⟨h1, h2⟩
    exact ⟨h2, .inr ⟨he, h1⟩⟩

/-- what must stay, and all that is newer than N -/
def NJ (No : Nat → Prop) (N : Nat) : Nat → Prop := fun g => No g ∨ N ≤ g
/-- what must stay, and all from N up to M -/
def NK (No : Nat → Prop) (N M : Nat) : Nat → Prop := fun g => No g ∨ (N ≤ g ∧ g < M)
theorem IIs.back {No1 No2 : Nat → Prop} {B b : Nat} {w w' : World} {R f1 f2 g1 g2 : Value} {u u' : US} (h1 : IIs No1 B w b R f1 f2 u) (h2 : IIs No2 B w' b R g1 g2 u') (hK : KeptB b w w') : IIs No1 B w' b R g1 g2 u' := by
  obtain ⟨ov, kv, a2, a3, a4, a5, a6, a7, a8, a9⟩ := h1.rows
  obtain ⟨ov', kv', b2, b3, b4, b5, b6, b7, b8, b9⟩ := h2.rows
  have e2 : ov' = ov := by
    have := (b2.symm.trans (hK 2 (by decide))).trans a2
    exact Option.some.inj this
  have e3 : kv' = kv := by
    have := (b3.symm.trans (hK 3 (by decide))).trans a3
    exact Option.some.inj this
  subst e2
  subst e3
  exact ⟨h1.base, h1.no, ov', kv', b4, b5, b6, b7, a8, a9⟩
theorem IIs.newer {No : Nat → Prop} {B b : Nat} {w : World} {R f1 f2 : Value} {u : US} (h : IIs No B w b R f1 f2 u) : IIs (NJ No w.heap.size) B w b R f1 f2 u :=
  h.more (fun e => by
    rcases e with e | e
    · exact h.no e
    · have := h.lt; omega) (fun g hg => hg)
theorem IIs.weak {No No' : Nat → Prop} {B b : Nat} {w : World} {R f1 f2 : Value} {u : US} (h : IIs No B w b R f1 f2 u) (hn : ∀ g, No' g → No g) : IIs No' B w b R f1 f2 u :=
  h.more (fun e => h.no (hn b e)) (fun g hg => .inl (hn g hg))
theorem Rd.wide {w : World} {No No' : Nat → Prop} {a : Option Addr} {n : Nat} {bs : List Nat} (h : Rd w No a n bs) (hn : ∀ g, No g → No' g) : Rd w No' a n bs := ⟨h.len, h.few, h.byt, h.val, fun b' o' e1 e2 => hn _ (h.no b' o' e1 e2)⟩
theorem bl_of {No : Nat → Prop} {B : Nat} {w w' : World} (h : Below w.heap.size w w') (hB : B ≤ w.heap.size) : Bl No B w w' := ⟨h.mono hB, fun g hg _ => h.block g hg⟩
theorem IIs.past {No : Nat → Prop} {B b : Nat} {w w' : World} {R f1 f2 : Value} {u : US} (h : IIs No B w b R f1 f2 u) (hB : Below w.heap.size w w') : IIs No B w' b R f1 f2 u := by
  obtain ⟨ov, kv, h1, h2, h3, h4⟩ := h.ex
  exact ⟨h.base, h.no, ov, kv, (hB.block b h.lt).trans h1, own_kp h2 (fun g hg => hB.block g (h2.lt g hg).2), own_kp h3 (fun g hg => hB.block g (h3.lt g hg).2), h4⟩

/-- the reader behind a reading that was begun in w and left its rows where they were; No stays -/
structure Rk (No : Nat → Prop) (B : Nat) (w : World) (b : Nat) (R f1 f2 : Value) (u : US) (w' : World) : Prop where
  is : IIs (NJ No w.heap.size) B w' b R f1 f2 u
  bl : Bl No B w w'
theorem Rk.refl {No : Nat → Prop} {B b : Nat} {w : World} {R f1 f2 : Value} {u : US} (h : IIs No B w b R f1 f2 u) : Rk No B w b R f1 f2 u w := ⟨h.newer, Bl.refl _ _ _⟩
/-- a step that leaves all that is newer -/
theorem Rk.num {No : Nat → Prop} {B b : Nat} {w w1 w2 : World} {R f1 f2 : Value} {u v : US} (h : Rk No B w b R f1 f2 u w1) (k : IUp (NJ No w.heap.size) B w1 b R f1 f2 v w2) : Rk No B w b R f1 f2 v w2 := ⟨k.is, h.bl.trans ⟨k.below, k.kp.weaken (fun _ h => .inl h)⟩⟩
/-- a step that makes new things alone -/
theorem Rk.past {No : Nat → Prop} {B b : Nat} {w w1 w2 : World} {R f1 f2 : Value} {u : US} (h : Rk No B w b R f1 f2 u w1) (k : Below w1.heap.size w1 w2) : Rk No B w b R f1 f2 u w2 := ⟨h.is.past k, h.bl.trans (bl_of k (Nat.le_trans h.is.base (Nat.le_of_lt h.is.lt)))⟩
theorem Rk.drewN {No : Nat → Prop} {B b : Nat} {w w1 : World} {R f1 f2 : Value} {u : US} (h : Rk No B w b R f1 f2 u w1) (q : Nat) : Rk No B w b R f1 f2 u (w1.drewN q) := h.past (below_drewN (Below.refl _ _) q)
/-- what such a reading gives -/
def GotR (No : Nat → Prop) (B : Nat) (w : World) (b : Nat) (R f1 f2 : Value) (u : US) (e : Ending) (w' : World) (Q : Prop) : Prop :=
  (u.e = 0 ∧ Q ∧ Rk No B w b R f1 f2 u w') ∨ (u.e ≠ 0 ∧ e = Flt u.e ∧ Bl No B w w')
end Go.Proofs.Ytfoaaamcpknjnah
