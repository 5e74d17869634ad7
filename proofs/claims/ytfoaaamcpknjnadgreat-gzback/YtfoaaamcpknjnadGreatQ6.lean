/-
  Package inflate: what a reading gives up by; the reader in memory; how a number is read.
-/
import Derived.Test.YtfoaaamcpknjnadGreatQ5
import Derived.Test.YtfoaaamcpknjnadGreatQ1
import Derived.Deep.DeepCutAuto
import Derived.Test.YtfoaaamcpknjnadGreatQ2
namespace Go.Proofs.YtfoaaamcpknjnadGreat
open Go.RowKit
set_option linter.unusedVariables false
set_option maxRecDepth 100000

abbrev Flt (x : Int) : Ending := .panicked [{ v := .iface 99 (.agg #[.int .i64 x]), recovered := false }]
theorem giveUp_any (x : Int) (w : World) : Calls Tryz.prog 73 #[.int .i64 x] w fun e w' => e = Flt x ∧ w' = w := by
  go_enter Tryz.func73, Tryz.ntmps73
  go_wp2
  exact ⟨rfl, rfl, rfl⟩

def icells (R : Value) (f1 f2 : Value) (u : US) (ov kv : Value) : Array Value := #[R, .int .i64 (u.p : Int), ov, kv, f1, f2]
/-- block b holds the reader, which reads the slice R and is at u; No: what must stay -/
structure IIs (No : Nat → Prop) (B : Nat) (w : World) (b : Nat) (R f1 f2 : Value) (u : US) : Prop where
  base : B ≤ b
  no : ¬ No b
  ex : ∃ ov kv, w.heap[b]? = some (.cells (icells R f1 f2 u ov kv) 68 (0, 0)) ∧ w.ownsRow (b + 1) 5 1 ov u.out.length (u8s u.out) ∧ w.ownsRow (b + 1) 3 1 kv u.ks.length (i64s u.ks) ∧ (ov.ownBlock = none ∨ ov.ownBlock ≠ kv.ownBlock) ∧ (∀ g, ov.ownBlock = some g → ¬ No g) ∧ (∀ g, kv.ownBlock = some g → ¬ No g)
structure IUp (No : Nat → Prop) (B : Nat) (w : World) (b : Nat) (R f1 f2 : Value) (u : US) (w' : World) : Prop where
  is : IIs No B w' b R f1 f2 u
  below : Below B w w'
  kp : Kp No w w'
theorem IIs.lt {No : Nat → Prop} {B b : Nat} {w : World} {R f1 f2 : Value} {u : US} (h : IIs No B w b R f1 f2 u) : b < w.heap.size := by
  obtain ⟨ov, kv, h1, _⟩ := h.ex
  exact (Array.getElem?_eq_some_iff.1 h1).1
theorem IIs.cell {No : Nat → Prop} {B b : Nat} {w : World} {R f1 f2 : Value} {u : US} (h : IIs No B w b R f1 f2 u) : w.cell? ⟨b, 0, none⟩ = some R ∧ w.cell? ⟨b, 1, none⟩ = some (.int .i64 (u.p : Int)) ∧ ∀ j, w.frozen? ⟨b, j, none⟩ = false := by
  obtain ⟨ov, kv, h1, _⟩ := h.ex
  exact ⟨heap_row h1, heap_row h1, fun j => frozen_of_row w b j _ _ h1⟩
theorem IUp.refl {No : Nat → Prop} {B b : Nat} {w : World} {R f1 f2 : Value} {u : US} (h : IIs No B w b R f1 f2 u) : IUp No B w b R f1 f2 u w := ⟨h, Below.refl _ _, Kp.refl _ _⟩
theorem IUp.trans {No : Nat → Prop} {B b : Nat} {w w1 w2 : World} {R f1 f2 g1 g2 : Value} {u v : US} (h : IUp No B w b R f1 f2 u w1) (k : IUp No B w1 b R g1 g2 v w2) : IUp No B w b R g1 g2 v w2 := ⟨k.is, h.below.trans k.below, h.kp.trans k.kp h.below.size⟩
theorem IIs.grown {No : Nat → Prop} {B b : Nat} {w w' : World} {R f1 f2 : Value} {u : US} (h : IIs No B w b R f1 f2 u) (hg : w.grownBy w' none) : IIs No B w' b R f1 f2 u := by
  obtain ⟨ov, kv, h1, h2, h3, h4⟩ := h.ex
  exact ⟨h.base, h.no, ov, kv, (hg.block b h.lt (by simp)).trans h1, own_kept h2 hg, own_kept h3 hg, h4⟩
theorem IUp.drewN {No : Nat → Prop} {B b : Nat} {w w' : World} {R f1 f2 : Value} {u : US} (h : IUp No B w b R f1 f2 u w') (q : Nat) : IUp No B w b R f1 f2 u (w'.drewN q) :=
  ⟨h.is.grown ⟨rfl, rfl, rfl, Nat.le_refl _, fun _ _ _ => rfl⟩, below_drewN h.below q, h.kp⟩
/-- one of the reader's own cells is written -/
theorem IIs.set {No : Nat → Prop} {B b : Nat} {w : World} {R f1 f2 g1 g2 : Value} {u : US} (h : IIs No B w b R f1 f2 u) (i : Nat) (v : Value) (u' : US) (ho : u'.out = u.out) (hk : u'.ks = u.ks) (hc : ∀ ov kv, (icells R f1 f2 u ov kv).setIfInBounds i v = icells R g1 g2 u' ov kv) : IUp No B w b R g1 g2 u' (w.setCell ⟨b, i, none⟩ v) := by
  obtain ⟨ov, kv, h1, h2, h3, h4, h5, h6⟩ := h.ex
  have hg := grown_setCell w b i v
  have hne : ∀ {e size n : Nat} {x : Value} {xs : List Value}, w.ownsRow (b + 1) e size x n xs → x.ownBlock = none ∨ x.ownBlock ≠ some b := fun {e size n x xs} ho => by
    cases hx : x.ownBlock with
    | none => exact .inl rfl
    | some g =>
      refine .inr (fun e => ?_)
      have := (ho.lt g hx).1
      cases e
      omega
  refine ⟨⟨h.base, h.no, ov, kv, ?_, by rw [ho]; exact h2.kept hg (hne h2), by rw [hk]; exact h3.kept hg (hne h3), h4, h5, h6⟩, ?_, ?_⟩
  · rw [heap_setCell_same w b i _ _ _ h1, hc]
  · exact (Below.refl B w).grown hg (Nat.le_trans h.base (Nat.le_of_lt h.lt)) (fun g e => by cases e; exact h.base)
  · exact (Kp.refl No w).grown hg (Nat.le_refl _) (fun g e => by cases e; exact h.no)
theorem IIs.setP {No : Nat → Prop} {B b : Nat} {w : World} {R f1 f2 : Value} {u : US} (h : IIs No B w b R f1 f2 u) (q : Nat) : IUp No B w b R f1 f2 { u with p := q } (w.setCell ⟨b, 1, none⟩ (.int .i64 (q : Int))) := h.set 1 _ _ rfl rfl (fun _ _ => rfl)

/-- what stays, also where a reading gives up -/
structure Bl (No : Nat → Prop) (B : Nat) (w w' : World) : Prop where
  below : Below B w w'
  kp : Kp No w w'
theorem Bl.refl (No : Nat → Prop) (B : Nat) (w : World) : Bl No B w w := ⟨Below.refl _ _, Kp.refl _ _⟩
theorem Bl.trans {No : Nat → Prop} {B : Nat} {w w1 w2 : World} (h : Bl No B w w1) (k : Bl No B w1 w2) : Bl No B w w2 := ⟨h.below.trans k.below, h.kp.trans k.kp h.below.size⟩
theorem Bl.drewN {No : Nat → Prop} {B : Nat} {w w1 : World} (h : Bl No B w w1) (q : Nat) : Bl No B w (w1.drewN q) := ⟨below_drewN h.below q, h.kp⟩
theorem Bl.weaken {No No' : Nat → Prop} {B : Nat} {w w1 : World} (h : Bl No' B w w1) (hn : ∀ g, No g → No' g) : Bl No B w w1 := ⟨h.below, h.kp.weaken hn⟩
theorem IUp.bl {No : Nat → Prop} {B b : Nat} {w w' : World} {R f1 f2 : Value} {u : US} (h : IUp No B w b R f1 f2 u w') : Bl No B w w' := ⟨h.below, h.kp⟩

/-- what comes of a reading: a value, and where the reader is then; or it gives up -/
def Got (No : Nat → Prop) (B : Nat) (w : World) (b : Nat) (R f1 f2 : Value) (v : Value) (u : US) (e : Ending) (w' : World) : Prop :=
  (u.e = 0 ∧ e = .returned v ∧ IUp No B w b R f1 f2 u w') ∨ (u.e ≠ 0 ∧ e = Flt u.e ∧ Bl No B w w')

/-- but for the place, the reader's own cells are as they were -/
def KeptB (b : Nat) (w w' : World) : Prop := ∀ j, j ≠ 1 → w'.cell? ⟨b, j, none⟩ = w.cell? ⟨b, j, none⟩
def GotK (No : Nat → Prop) (B : Nat) (w : World) (b : Nat) (R f1 f2 : Value) (v : Value) (u : US) (e : Ending) (w' : World) : Prop :=
  (u.e = 0 ∧ e = .returned v ∧ IUp No B w b R f1 f2 u w' ∧ KeptB b w w') ∨ (u.e ≠ 0 ∧ e = Flt u.e ∧ Bl No B w w')
theorem GotK.got {No : Nat → Prop} {B b : Nat} {w w' : World} {R f1 f2 v : Value} {u : US} {e : Ending} (h : GotK No B w b R f1 f2 v u e w') : Got No B w b R f1 f2 v u e w' := by
  rcases h with ⟨h1, h2, h3, _⟩ | h
  · exact .inl ⟨h1, h2, h3⟩
  · exact .inr h

theorem ibit_step (x r : Nat) (hx : x < 256) : bits .and .i64 (wrap64 ((x : Int) / 2 ^ r)) 1 = ((x / 2 ^ r % 2 : Nat) : Int) := by
  have e : ((x : Int) / 2 ^ r) = ((x / 2 ^ r : Nat) : Int) := by push_cast; rfl
  have h : x / 2 ^ r ≤ x := Nat.div_le_self _ _
  have h1 : wrap64 ((x : Int) / 2 ^ r) = ((x / 2 ^ r : Nat) : Int) := by
    rw [e]
    generalize x / 2 ^ r = y at *
    unfold wrap64; omega
  rw [h1]
  have h2 := i64_bit (x / 2 ^ r) 0 (by omega)
  simpa using h2
theorem bit_num (bs : List Nat) (p : Nat) : bs.getD (p / 8) 0 / 2 ^ (p % 8) % 2 = if bitAt bs p then 1 else 0 := by
  unfold bitAt
  exact bit_div _ _

/-- the bytes that the reader reads -/
structure Rd (w : World) (No : Nat → Prop) (a : Option Addr) (n : Nat) (bs : List Nat) : Prop where
  len : bs.length = n
  few : n ≤ 6000
  byt : BytesIn w a bs
  val : ∀ j, bs.getD j 0 < 256
  no : ∀ b o, a = some ⟨b, o, none⟩ → bs ≠ [] → No b
theorem Rd.keep {w w' : World} {No : Nat → Prop} {a : Option Addr} {n : Nat} {bs : List Nat} (h : Rd w No a n bs) (hs : w.heap.size ≤ w'.heap.size) (hk : Kp No w w') : Rd w' No a n bs := by
  refine ⟨h.len, h.few, ?_, h.val, h.no⟩
  by_cases e : bs = []
  · exact .inl e
  · rcases h.byt with h1 | ⟨b, o, e1, hb, hB⟩
    · exact absurd h1 e
    · exact .inr ⟨b, o, e1, by omega, fun j hj => (World.cell?_of_block (w := w) (a := ⟨b, _, none⟩) (hk b hb (h.no b o e1 e))).trans (hB j hj)⟩

set_option maxHeartbeats 1000000 in
theorem rbit_any (No : Nat → Prop) (B b : Nat) (a : Option Addr) (n cap : Nat) (bs : List Nat) (f1 f2 : Value) (u : US) (w : World) (h : IIs No B w b (.slice a n cap) f1 f2 u) (hR : Rd w No a n bs) (hp : u.p ≤ 8 * n) (he : u.e = 0) :
    Calls Tryz.prog 68 #[.pointer (some ⟨b, 0, none⟩)] w fun e w' => GotK No B w b (.slice a n cap) f1 f2 (.int .i64 (if bitAt bs u.p then 1 else 0)) (if u.p = 8 * n then { u with e := 7 } else { u with p := u.p + 1 }) e w' := by
  obtain ⟨c0, c1, fr⟩ := h.cell
  have fr1 := fr 1
  have hfew := hR.few
  have H := hide h
  have HR := hide hR
  clear h hR fr
  obtain ⟨p, hpp⟩ : ∃ p, u.p = p := ⟨_, rfl⟩
  rw [hpp] at c1 hp ⊢
  have HPP := hide hpp
  have HE := hide he
  clear hpp he
  obtain ⟨vb, hvb⟩ : ∃ vb : Int, (if bitAt bs p then (1 : Int) else 0) = vb := ⟨_, rfl⟩
  rw [hvb]
  have HVB := hide hvb
  clear hvb
  by_cases h0 : p = 8 * n
  · have hb : ((p : Int) == 8 * (n : Int)) = true := by rw [beq_iff_eq]; omega
    rw [if_pos h0]
    obtain ⟨u7, hu7⟩ : ∃ u7 : US, ({ p := p, out := u.out, ks := u.ks, e := 7 } : US) = u7 := ⟨_, rfl⟩
    rw [hu7]
    have HU := hide hu7
    clear h0 hu7
    go_enter Tryz.func68, Tryz.ntmps68
    go_wp2
    go_quiet (fail)
    go_wp2_with fail
    refine (giveUp_any 7 _).mono ?_
    rintro e w2 ⟨rfl, rfl⟩
    go_wp2
    refine ⟨rfl, .inr ⟨by rw [← unhide HU]; exact (by decide : (7 : Int) ≠ 0), by rw [← unhide HU], (Bl.refl _ _ _).drewN _⟩⟩
  · have hb : ((p : Int) == 8 * (n : Int)) = false := by rw [beq_eq_false_iff_ne]; omega
    rw [if_neg h0]
    obtain ⟨u7, hu7⟩ : ∃ u7 : US, ({ p := p + 1, out := u.out, ks := u.ks, e := u.e } : US) = u7 := ⟨_, rfl⟩
    rw [hu7]
    have HU := hide hu7
    clear hu7
    obtain ⟨b2, o2, rfl, hb2, hBy⟩ := bytesIn_some (unhide HR).byt (by rw [(unhide HR).len]; omega)
    have hj : p / 8 < bs.length := by rw [(unhide HR).len]; omega
    have c3 := hBy _ hj
    have hx1 := (unhide HR).val (p / 8)
    have hj2 : (p : Int) / 8 < (n : Int) := by omega
    have HBN := hide (bit_num bs p)
    clear hBy hj
    generalize bs.getD (p / 8) 0 = x at *
    go_enter Tryz.func68, Tryz.ntmps68
    go_wp2
    go_quiet (fail)
    go_wp2
    go_quiet (fail)
    go_wp2
    go_ret
    refine .inl ⟨by rw [← unhide HU]; exact unhide HE, ret_int ?_, ?_, ?_⟩
    · rw [← unhide HVB]
      refine (ibit_step x (p % 8) hx1).trans ?_
      rw [unhide HBN]
      split <;> rfl
    · rw [← unhide HU]
      have key : ∀ q : Nat, IUp No B w b (.slice (some ⟨b2, o2, none⟩) n cap) f1 f2 { p := p + 1, out := u.out, ks := u.ks, e := u.e } ((w.drewN q).setCell ⟨b, 1, none⟩ (.int .i64 ((p : Int) + 1))) := fun q => by
        have hs := ((unhide H).grown (w' := w.drewN q) ⟨rfl, rfl, rfl, Nat.le_refl _, fun _ _ _ => rfl⟩).setP (p + 1)
        rw [show ((p + 1 : Nat) : Int) = (p : Int) + 1 by omega] at hs
        exact ((IUp.refl (unhide H)).drewN q).trans hs
      exact key _
    · intro j hj
      exact World.cell?_setCell_other _ _ _ _ (by intro e; exact hj (by cases e; rfl))

theorem numOf_next (row : List Bool) (p i : Nat) (h : p + i < row.length) : numOf ((row.drop p).take (i + 1)) = numOf ((row.drop p).take i) + 2 ^ i * (if row.getD (p + i) false then 1 else 0) := by
  have hl : ((row.drop p).take i).length = i := by rw [List.length_take, List.length_drop]; omega
  have e : (row.drop p).take (i + 1) = (row.drop p).take i ++ [row.getD (p + i) false] := by
    rw [List.take_add_one, List.getElem?_drop]
    simp [List.getD, h]
  rw [e, numOf_append, hl]
  cases row.getD (p + i) false <;> simp [numOf]
theorem or_next (m i x : Nat) (hm : m < 2 ^ i) (hi : i ≤ 16) (hx : x < 2) : bits .or .i64 (m : Int) ((x : Int) * 2 ^ i) = ((m + 2 ^ i * x : Nat) : Int) := by
  have hp : 2 ^ i ≤ 2 ^ 16 := Nat.pow_le_pow_right (by decide) hi
  have e : ((x : Int) * 2 ^ i) = ((2 ^ i * x : Nat) : Int) := by push_cast; rw [Int.mul_comm]
  have h2 : 2 ^ i * x ≤ 2 ^ i * 1 := Nat.mul_le_mul_left _ (by omega)
  have h3 : (2 : Nat) ^ 16 = 65536 := by decide
  rw [e, i64_or_nat _ _ (by omega) (by omega)]
  have := Nat.two_pow_add_eq_or_of_lt (i := i) (b := m) hm x
  rw [Nat.or_comm, ← this, Nat.add_comm]

/-- how the reading of a number goes, behind i bits -/
def numU (row : List Bool) (size : Nat) (u : US) : US := (uget row size u).2

set_option maxHeartbeats 1000000 in
theorem numberK_any (No : Nat → Prop) (B b : Nat) (a : Option Addr) (n cap size : Nat) (bs : List Nat) (f1 f2 : Value) (u : US) (w : World) (h : IIs No B w b (.slice a n cap) f1 f2 u) (hR : Rd w No a n bs) (hp : u.p ≤ 8 * n) (he : u.e = 0) (hs : size ≤ 16) (r : Nat) (v : US) (hr : Hid (uget (rowB bs n) size u = (r, v))) :
    Calls Tryz.prog 47 #[.pointer (some ⟨b, 0, none⟩), .int .i64 (size : Int)] w fun e w' => GotK No B w b (.slice a n cap) f1 f2 (.int .i64 (r : Int)) v e w' := by
  have hrl := rowB_length bs n
  have H := hide h
  have HR := hide hR
  have HE := hide he
  have hfew := hR.few
  clear h hR he
  obtain ⟨p, hpp⟩ : ∃ p, u.p = p := ⟨_, rfl⟩
  rw [hpp] at hp
  have HPP := hide hpp
  have hUV : Hid ((8 * n < p + size → v = { p := p, out := u.out, ks := u.ks, e := 7 }) ∧ (p + size ≤ 8 * n → r = numOf (((rowB bs n).drop p).take size) ∧ v = { u with p := p + size })) := by
    have := unhide hr
    unfold uget at this
    rw [if_pos (unhide HE), hrl, hpp] at this
    constructor
    · intro h1
      rw [if_pos h1] at this
      exact (Prod.mk.inj this).2.symm
    · intro h1
      rw [if_neg (by omega)] at this
      exact ⟨(Prod.mk.inj this).1.symm, (Prod.mk.inj this).2.symm⟩
  clear hpp hrl
  go_enter Tryz.func47, Tryz.ntmps47
  go_wp2
  go_loopw [5, 8] (fun v5 v8 wr => ∃ i m : Nat, i ≤ size ∧ p + i ≤ 8 * n ∧ v8 = .int .i64 (i : Int) ∧ v5 = .int .i64 (m : Int) ∧ Hid (m = numOf (((rowB bs n).drop p).take i)) ∧ Hid (IUp No B w b (.slice a n cap) f1 f2 { u with p := p + i } wr ∧ KeptB b w wr)) (fun _ v8 _ => size - (intOf v8).toNat)
  case atStart => exact ⟨0, 0, Nat.zero_le _, by omega, rfl, rfl, hide (by simp [numOf]), hide (by
    have := IUp.refl (unhide H)
    rw [← unhide HPP]
    exact ⟨this, fun _ _ => rfl⟩)⟩
  case round =>
    obtain ⟨i, m, hi, hpi, rfl, rfl, hm, hI⟩ := hrel
    by_cases hlt : i < size
    · have hiI : (i : Int) < (size : Int) := by omega
      have hIs := (unhide hI).1.is
      have HB := hide (rbit_any No B b a n cap bs f1 f2 { u with p := p + i } wr hIs ((unhide HR).keep (unhide hI).1.below.size (unhide hI).1.kp) hpi (unhide HE))
      have hxx : ∃ x : Nat, (if bitAt bs (p + i) then (1 : Int) else 0) = (x : Int) ∧ x < 2 ∧ x = (if (rowB bs n).getD (p + i) false then 1 else 0) := by
        by_cases hq : p + i < 8 * n
        · rw [rowB_getD bs n (p + i) hq]
          cases bitAt bs (p + i)
          · exact ⟨0, rfl, by decide, rfl⟩
          · exact ⟨1, rfl, by decide, rfl⟩
        · have e1 : (rowB bs n).getD (p + i) false = false := by
            simp only [List.getD]
            rw [List.getElem?_eq_none (by rw [rowB_length]; omega)]
            rfl
          by_cases hb : bitAt bs (p + i) = true
          · exfalso
            unfold bitAt at hb
            have : bs.getD ((p + i) / 8) 0 = 0 := by
              simp only [List.getD]
              rw [List.getElem?_eq_none (by rw [(unhide HR).len]; omega)]
              rfl
            rw [this] at hb
            simp at hb
          · rw [if_neg hb, e1]
            exact ⟨0, rfl, by decide, rfl⟩
      obtain ⟨x, hx1, hx2, hx3⟩ := hxx
      rw [hx1] at HB
      have hml : m < 2 ^ i := by
        rw [unhide hm]
        refine Nat.lt_of_lt_of_le (numOf_lt _) (Nat.pow_le_pow_right (by decide) ?_)
        rw [List.length_take]
        exact Nat.min_le_left _ _
      have hor := or_next m i x hml (by omega) hx2
      have hw : wrap64 ((x : Int) * 2 ^ i) = (x : Int) * 2 ^ i := by
        have hp16 : 2 ^ i ≤ 2 ^ 16 := Nat.pow_le_pow_right (by decide) (by omega)
        have h16 : (2 : Nat) ^ 16 = 65536 := by decide
        have e : ((x : Int) * 2 ^ i) = ((x * 2 ^ i : Nat) : Int) := by push_cast; rfl
        have h2 : x * 2 ^ i ≤ 1 * 2 ^ i := Nat.mul_le_mul_right _ (by omega)
        rw [e]
        generalize x * 2 ^ i = y at *
        unfold wrap64
        omega
      have HOR : Hid (bits .or .i64 (m : Int) (wrap64 ((x : Int) * 2 ^ i)) = ((m + 2 ^ i * x : Nat) : Int)) := hide (by rw [hw]; exact hor)
      clear hw hor
      have HX3 := hide hx3
      have HML := hide hml
      clear hIs hx1 hx3 hml
      go_wp2_with fail
      refine (unhide HB).mono ?_
      rintro e w2 hg
      rcases hg with ⟨e0, rfl, hU, hK⟩ | ⟨e0, rfl, hBl⟩
      · have hne : ¬ p + i = 8 * n := fun hh => by
          rw [if_pos hh] at e0
          exact absurd e0 (show ¬ (7 : Int) = 0 by decide)
        rw [if_neg hne] at hU
        have HU := hide (And.intro ((unhide hI).1.trans hU) (fun j hj => (hK j hj).trans ((unhide hI).2 j hj) : KeptB b w w2))
        have HM : Hid (m + 2 ^ i * x = numOf (((rowB bs n).drop p).take (i + 1))) := hide (by rw [numOf_next _ _ _ (by rw [rowB_length]; omega), ← unhide hm, ← unhide HX3])
        have hp8 : p + i < 8 * n := by omega
        clear e0 hU hne hm hK
        go_wp2
        go_roundw
        case rel => exact ⟨i + 1, m + 2 ^ i * x, by omega, by omega, by go_num, by rw [unhide HOR], HM, by rw [← Nat.add_assoc]; exact HU⟩
        case measure => simp [intOf]; omega
      · have hne : p + i = 8 * n := by
          by_cases hh : p + i = 8 * n
          · exact hh
          · rw [if_neg hh] at e0
            exact absurd (unhide HE) e0
        rw [if_pos hne]
        have HF : Hid (v = { p := p, out := u.out, ks := u.ks, e := 7 }) := hide ((unhide hUV).1 (by omega))
        have HBl := hide ((unhide hI).1.bl.trans hBl)
        clear e0 hBl hne hm hI HB
        go_wp2
        refine ⟨rfl, .inr ⟨by rw [unhide HF]; exact (by decide : (7 : Int) ≠ 0), by rw [unhide HF], unhide HBl⟩⟩
    · obtain rfl : i = size := by omega
      have HF : Hid (GotK No B w b (.slice a n cap) f1 f2 (.int .i64 (r : Int)) v (.returned (.int .i64 (m : Int))) wr) := by
        obtain ⟨_, h2⟩ := unhide hUV
        obtain ⟨h3, h4⟩ := h2 hpi
        refine .inl ⟨by rw [h4]; exact unhide HE, by rw [h3, unhide hm], by rw [h4]; exact (unhide hI).1, (unhide hI).2⟩
      clear hm hI
      go_wp2
      go_ret
      exact unhide HF

theorem number_any (No : Nat → Prop) (B b : Nat) (a : Option Addr) (n cap size : Nat) (bs : List Nat) (f1 f2 : Value) (u : US) (w : World) (h : IIs No B w b (.slice a n cap) f1 f2 u) (hR : Rd w No a n bs) (hp : u.p ≤ 8 * n) (he : u.e = 0) (hs : size ≤ 16) (r : Nat) (v : US) (hr : Hid (uget (rowB bs n) size u = (r, v))) :
    Calls Tryz.prog 47 #[.pointer (some ⟨b, 0, none⟩), .int .i64 (size : Int)] w fun e w' => Got No B w b (.slice a n cap) f1 f2 (.int .i64 (r : Int)) v e w' := (numberK_any No B b a n cap size bs f1 f2 u w h hR hp he hs r v hr).mono (fun _ _ h => h.got)
end Go.Proofs.YtfoaaamcpknjnadGreat

/-
  What code.count answers: how many places have each length, or the first error.
-/
namespace Go.Proofs.YtfoaaamcpknjnadGreat
open Go.RowKit
set_option linter.unusedVariables false

theorem count_many (a : Option Addr) (len cap : Nat) (w : World) (hm : 288 < len) (hM : len ≤ 9223372036854775807) :
    Calls Tryz.prog 139 #[.slice a len cap] w fun e w' => e = .returned (.tuple #[.agg (arr fun _ => 0), .int .i64 2]) ∧ Below w.heap.size w w' := by
  go_enter Tryz.func139, Tryz.ntmps139
  have HR := hide (Arr.new w (fun _ => 0) rfl)
  go_wp2_with (refine store_arr rfl (.tmp 2) (.tmp 10) rfl _ _ (fun _ => 0) rfl rfl (unhide HR) ?_)
  have HY := hide ((unhide HR).setRow (fun _ => 0))
  exact bodyPost_ret (ret_arr_tmp rfl _ _ _ _ rfl (unhide HY)) rfl ⟨rfl, below_setRow ((Below.refl _ _).alloc (Nat.le_refl _) _) (Nat.le_refl _) _⟩

/-- the loop of count, up to where a length may not be, or to its end -/
theorem count_bad (a : Option Addr) (len cap : Nat) (l : List Int) (w : World) (hl : l.length = len) (hm : len ≤ 288) (hR : RowIn .i64 w a l) (j0 : Nat) (hj0 : j0 < len) (hbad : okLen (l.getD j0 0) = false) (hf : ∀ j, j < j0 → okLen (l.getD j 0) = true) :
    Calls Tryz.prog 139 #[.slice a len cap] w fun e w' => e = .returned (.tuple #[.agg (arr fun _ => 0), .int .i64 3]) ∧ Below w.heap.size w w' := by
  obtain ⟨b, o, rfl, hb, hR⟩ : ∃ b o, a = some ⟨b, o, none⟩ ∧ b < w.heap.size ∧ Row .i64 w b o l := by
    rcases hR with rfl | h
    · simp at hl; omega
    · exact h
  go_enter Tryz.func139, Tryz.ntmps139
  go_wp2
  simp only [zero16]
  have HR0 := hide ((Arr.new w (fun _ => 0) rfl).alloc (.cells (arr (fun _ => 0)) 204))
  have HC0 := hide (Arr.new (w.alloc (.cells (arr (fun _ => 0)) 204)) (fun _ => 0) (b := w.heap.size + 1) (by simp))
  have HB0 := hide (((Below.refl w.heap.size w).alloc (Nat.le_refl _) (.cells (arr (fun _ => 0)) 204)).alloc (by simp) (.cells (arr (fun _ => 0)) 204))
  have HRow := hide hR
  have HL := hide hl
  clear hR
  go_loopw [13] (fun i wr => ∃ k : Nat, k ≤ j0 ∧ i = .int .i64 k ∧ Arr wr w.heap.size (fun _ => 0) ∧ Arr wr (w.heap.size + 1) (cnt (l.take k)) ∧ Below w.heap.size w wr) (fun i _ => len - (intOf i).toNat)
  case atStart => exact ⟨0, by omega, rfl, unhide HR0, unhide HC0, unhide HB0⟩
  case round =>
    obtain ⟨k, hk, rfl, hA, hC, hB⟩ := hrel
    have HA := hide hA
    have HC := hide hC
    have HB := hide hB
    have hlk : k < l.length := by omega
    have c1 := (hB.cell (p := ⟨b, o + k, none⟩) hb).trans (unhide HRow k hlk)
    by_cases hlt : k < j0
    · have hok := hf k hlt
      obtain ⟨n, hn⟩ := Int.eq_ofNat_of_zero_le (okLen_true hok).1
      have hn15 := (okLen_true hok).2
      have HX := hide hn
      rw [hn] at c1 hn15
      have hn16 : n < 16 := by omega
      have c2 := hC.cell hn16
      have f2 := hC.frozen n
      have hle := cnt_le (l.take k) n
      have hle2 : (l.take k).length ≤ 288 := by simp; omega
      clear hA hC hB hf hbad hok hn HR0 HC0 HB0
      go_wp2
      go_roundw
      case rel => exact ⟨k + 1, by omega, by go_num, (unhide HA).other (by simp) _, by rw [← cnt_next l hlk (unhide HX)]; exact (unhide HC).set _ _, (unhide HB).setCell (by simp) _⟩
      case measure => simp [intOf]; omega
    · obtain rfl : k = j0 := by omega
      clear hA hC hB hf HR0 HC0 HB0
      generalize l.getD k 0 = x at *
      have hno := okLen_false hbad
      have hg : x < 0 ∨ 15 < x := by omega
      clear hno hbad
      rcases hg with hg | hg
      · go_wp2_with (refine store_arr rfl (.tmp 2) (.tmp 23) rfl _ _ (fun _ => 0) rfl rfl (unhide HA) ?_)
        have HY := hide ((unhide HA).setRow (fun _ => 0))
        exact bodyPost_ret (ret_arr_tmp rfl _ _ _ _ rfl (unhide HY)) rfl ⟨rfl, below_setRow (unhide HB) (Nat.le_refl _) _⟩
      · have hg0 : ¬ (x < 0) := by omega
        go_wp2_with (refine store_arr rfl (.tmp 2) (.tmp 23) rfl _ _ (fun _ => 0) rfl rfl (unhide HA) ?_)
        have HY := hide ((unhide HA).setRow (fun _ => 0))
        exact bodyPost_ret (ret_arr_tmp rfl _ _ _ _ rfl (unhide HY)) rfl ⟨rfl, below_setRow (unhide HB) (Nat.le_refl _) _⟩

theorem count_good (a : Option Addr) (len cap : Nat) (l : List Int) (w : World) (hl : l.length = len) (hm : len ≤ 288) (hR : RowIn .i64 w a l) (hf : ∀ j, j < len → okLen (l.getD j 0) = true) :
    Calls Tryz.prog 139 #[.slice a len cap] w fun e w' => e = .returned (.tuple #[.agg (arr (if 32768 < takenN (cnt l) 15 then fun _ => 0 else cnt l)), .int .i64 (if 32768 < takenN (cnt l) 15 then 8 else 0)]) ∧ Below w.heap.size w w' := by
  go_enter Tryz.func139, Tryz.ntmps139
  go_wp2
  simp only [zero16]
  have HR0 := hide ((Arr.new w (fun _ => 0) rfl).alloc (.cells (arr (fun _ => 0)) 204))
  have HC0 := hide (Arr.new (w.alloc (.cells (arr (fun _ => 0)) 204)) (fun _ => 0) (b := w.heap.size + 1) (by simp))
  have HB0 := hide (((Below.refl w.heap.size w).alloc (Nat.le_refl _) (.cells (arr (fun _ => 0)) 204)).alloc (by simp) (.cells (arr (fun _ => 0)) 204))
  have HRow := hide hR
  have HL := hide hl
  clear hR
  go_loopw [13] (fun i wr => ∃ k : Nat, k ≤ len ∧ i = .int .i64 k ∧ Arr wr w.heap.size (fun _ => 0) ∧ Arr wr (w.heap.size + 1) (cnt (l.take k)) ∧ Below w.heap.size w wr) (fun i _ => len - (intOf i).toNat)
  case atStart => exact ⟨0, by omega, rfl, unhide HR0, unhide HC0, unhide HB0⟩
  case round =>
    obtain ⟨k, hk, rfl, hA, hC, hB⟩ := hrel
    have HA := hide hA
    have HC := hide hC
    have HB := hide hB
    by_cases hlt : k < len
    · have hlk : k < l.length := by omega
      obtain ⟨b, o, rfl, hb, hR⟩ : ∃ b o, a = some ⟨b, o, none⟩ ∧ b < w.heap.size ∧ Row .i64 w b o l := by
        rcases unhide HRow with rfl | h
        · simp at hlk
        · exact h
      have c1 := (hB.cell (p := ⟨b, o + k, none⟩) hb).trans (hR k hlk)
      have hok := hf k hlt
      obtain ⟨n, hn⟩ := Int.eq_ofNat_of_zero_le (okLen_true hok).1
      have hn15 := (okLen_true hok).2
      have HX := hide hn
      rw [hn] at c1 hn15
      have hn16 : n < 16 := by omega
      have c2 := hC.cell hn16
      have f2 := hC.frozen n
      have hle := cnt_le (l.take k) n
      have hle2 : (l.take k).length ≤ 288 := by simp; omega
      clear hA hC hB hf hok hn HR0 HC0 HB0 hR
      go_wp2
      go_roundw
      case rel => exact ⟨k + 1, by omega, by go_num, (unhide HA).other (by simp) _, by rw [← cnt_next l hlk (unhide HX)]; exact (unhide HC).set _ _, (unhide HB).setCell (by simp) _⟩
      case measure => simp [intOf]; omega
    · obtain rfl : k = len := by omega
      have hz := hC.lt
      have hall : l.take k = l := List.take_of_length_le (by omega)
      have HC1 := HC
      rw [hall] at HC1
      have hcl : ∀ n, cnt l n ≤ 288 := fun n => Nat.le_trans (cnt_le l n) (by omega)
      have HCL := hide hcl
      clear hA hC hB hf HR0 HC0 HB0 HC hall hcl
      go_wp2_with (refine load_arr rfl (.tmp 4) rfl _ (cnt l) rfl (unhide HC1) ?_)
      refine (taken_any (cnt l) wr (unhide HCL)).mono ?_
      rintro e w1 ⟨rfl, hB1⟩
      have HA1 := hide ((unhide HA).below hB1 (by omega))
      have HC2 := hide ((unhide HC1).below hB1 (by omega))
      have HB1 := hide ((unhide HB).trans (hB1.mono (unhide HB).size))
      clear hB1 HA HC1 HB
      by_cases ht : 32768 < takenN (cnt l) 15
      · go_wp2_with (refine store_arr rfl (.tmp 2) (.tmp 33) rfl _ _ (fun _ => 0) rfl rfl (unhide HA1) ?_)
        have HY := hide ((unhide HA1).setRow (fun _ => 0))
        exact bodyPost_ret (ret_arr_tmp rfl _ _ _ _ rfl (unhide HY)) rfl ⟨by first | rfl | (rw [if_pos ht, if_pos ht]; rfl), below_setRow (unhide HB1) (Nat.le_refl _) _⟩
      · go_wp2_with (first | (refine load_arr rfl (.tmp 4) rfl _ (cnt l) rfl (unhide HC2) ?_) | (refine store_arr rfl (.tmp 2) (.tmp 34) rfl _ _ (cnt l) rfl rfl (unhide HA1) ?_))
        have HY := hide ((unhide HA1).setRow (cnt l))
        exact bodyPost_ret (ret_arr_tmp rfl _ _ _ _ rfl (unhide HY)) rfl ⟨by first | rfl | (rw [if_neg ht, if_neg ht]; rfl), below_setRow (unhide HB1) (Nat.le_refl _) _⟩

theorem count_any (a : Option Addr) (len cap : Nat) (l : List Int) (w : World) (hl : l.length = len) (hM : len ≤ 9223372036854775807) (hR : RowIn .i64 w a l) :
    Calls Tryz.prog 139 #[.slice a len cap] w fun e w' => e = .returned (.tuple #[.agg (arr (cntE l)), .int .i64 (errL l)]) ∧ Below w.heap.size w w' := by
  by_cases hm : 288 < len
  · have e : errL l = 2 := by unfold errL; rw [if_pos (by omega)]
    have e2 : cntE l = fun _ => 0 := by unfold cntE; rw [e]; rfl
    rw [e, e2]
    exact count_many a len cap w hm hM
  · rcases first_bad (fun j => okLen (l.getD j 0)) len with hf | ⟨j0, hj0, hbad, hf⟩
    · have hn : ¬ ∃ j, j < l.length ∧ okLen (l.getD j 0) = false := by
        rintro ⟨j, hj, e⟩
        have := hf j (by omega)
        simp only [e] at this
        cases this
      have h := count_good a len cap l w hl (by omega) hR hf
      have e : errL l = if 32768 < takenN (cnt l) 15 then 8 else 0 := by unfold errL; rw [if_neg (by omega), if_neg hn]
      have e2 : cntE l = if 32768 < takenN (cnt l) 15 then fun _ => 0 else cnt l := by
        unfold cntE; rw [e]
        by_cases ht : 32768 < takenN (cnt l) 15
        · simp [ht]
        · simp [ht]
      rw [e, e2]
      exact h
    · have e : errL l = 3 := by unfold errL; rw [if_neg (by omega), if_pos ⟨j0, by omega, hbad⟩]
      have e2 : cntE l = fun _ => 0 := by unfold cntE; rw [e]; rfl
      rw [e, e2]
      exact count_bad a len cap l w hl (by omega) hR j0 hj0 hbad hf
end Go.Proofs.YtfoaaamcpknjnadGreat
