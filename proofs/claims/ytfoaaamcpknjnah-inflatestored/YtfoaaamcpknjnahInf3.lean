/-
  Package inflate: room; what comes to the least number; package layout: the least number of a symbol.
-/
import Derived.Test.YtfoaaamcpknjnahInf2
import Derived.Test.YtfoaaamcpknjnahUnp0
namespace Go.Proofs.Ytfoaaamcpknjnah
open Go.RowKit
set_option linter.unusedVariables false
set_option maxRecDepth 100000

theorem IIs.rows {No : Nat → Prop} {B b : Nat} {w : World} {R f1 f2 : Value} {u : US} (h : IIs No B w b R f1 f2 u) : ∃ ov kv, w.cell? ⟨b, 2, none⟩ = some ov ∧ w.cell? ⟨b, 3, none⟩ = some kv ∧ w.heap[b]? = some (.cells (icells R f1 f2 u ov kv) 91 (0, 0)) ∧ w.ownsRow (b + 1) 5 1 ov u.out.length (u8s u.out) ∧ w.ownsRow (b + 1) 3 1 kv u.ks.length (i64s u.ks) ∧ (ov.ownBlock = none ∨ ov.ownBlock ≠ kv.ownBlock) ∧ (∀ g, ov.ownBlock = some g → ¬ No g) ∧ (∀ g, kv.ownBlock = some g → ¬ No g) := by
  obtain ⟨ov, kv, h1, h2⟩ := h.ex
  exact ⟨ov, kv, heap_row h1, heap_row h1, h1, h2⟩

theorem iroom_any (No : Nat → Prop) (B b m : Nat) (R f1 f2 : Value) (u : US) (w : World) (h : IIs No B w b R f1 f2 u) (ho : u.out.length ≤ 3000) (hm : m ≤ 65535) :
    Calls Try.prog 81 #[.pointer (some ⟨b, 0, none⟩), .int .i64 (m : Int)] w fun e w' => w' = w ∧ ((u.out.length + m ≤ 3000 ∧ e = .returned (.tuple #[])) ∨ (3000 < u.out.length + m ∧ e = Flt 2)) := by
  obtain ⟨ov, kv, c2, c3, hh, hov, hkv, hap, hn1, hn2⟩ := h.rows
  obtain ⟨a, cc, rfl⟩ := own_slice' hov
  clear h hh hov hkv hap hn1 hn2 c3
  have HG := hide (giveUp_any 2 w)
  by_cases hl : u.out.length + m ≤ 3000
  · go_enter Try.func81, Try.ntmps81
    go_wp2
    go_end0
    exact ⟨rfl, .inl ⟨hl, rfl⟩⟩
  · go_enter Try.func81, Try.ntmps81
    go_wp2_with fail
    refine (unhide HG).mono ?_
    rintro e w' ⟨rfl, rfl⟩
    go_wp2
    exact ⟨rfl, rfl, .inr ⟨by omega, rfl⟩⟩

theorem first_key : ∀ g ∈ [2, 4], ∀ s ∈ List.range 41,
    (0 ≤ wrap64 (wrap64 ((s : Int) / (g : Nat)) - 1) → IntKind.i64.wrap (wrap64 ((s : Int) - wrap64 ((g : Int) * wrap64 (wrap64 ((s : Int) / (g : Nat)) - 1))) * 2 ^ min (wrap64 (wrap64 ((s : Int) / (g : Nat)) - 1)).toNat 64) = (((s - g * (s / g - 1)) * 2 ^ (s / g - 1) : Nat) : Int) ∧ wrap64 (wrap64 ((s : Int) / (g : Nat)) - 1) = ((s / g - 1 : Nat) : Int)) ∧
    (wrap64 (wrap64 ((s : Int) / (g : Nat)) - 1) < 0 → IntKind.i64.wrap (wrap64 ((s : Int) - wrap64 0)) = (((s - g * (s / g - 1)) * 2 ^ (s / g - 1) : Nat) : Int) ∧ (0 : Int) = ((s / g - 1 : Nat) : Int)) := by decide +kernel

theorem firstOf_any (s g z : Nat) (w : World) (hg : g = 2 ∨ g = 4) (hs : s ≤ 40) (hz : z = s / g - 1) :
    Calls Try.prog 91 #[.int .i64 (s : Int), .int .i64 (g : Int)] w fun e w' => w' = w ∧ e = .returned (.tuple #[.int .i64 (((s - g * z) * 2 ^ z : Nat) : Int), .int .i64 (z : Int)]) := by
  subst hz
  have HK := hide (first_key g (by rcases hg with rfl | rfl <;> simp) s (by simp; omega))
  go_enter Try.func91, Try.ntmps91
  go_wp2
  all_goals first
    | (obtain ⟨k1, k2⟩ := (unhide HK).1 h
       rw [k1, k2]
       go_ret2
       exact ⟨rfl, rfl⟩)
    | (obtain ⟨k1, k2⟩ := (unhide HK).2 h
       rw [k1]
       go_ret2
       refine ⟨rfl, ?_⟩
       show Ending.returned (.tuple #[.int .i64 (((s - g * (s / g - 1)) * 2 ^ (s / g - 1) : Nat) : Int), .int .i64 0]) = _
       rw [← k2])

/-- how many bytes are the same by a symbol if the rest is nought, and the size of the rest -/
def leastS (s : Nat) : Nat × Nat := if s = 285 then (258, 0) else (3 + ((s - 257) - 4 * ((s - 257) / 4 - 1)) * 2 ^ ((s - 257) / 4 - 1), (s - 257) / 4 - 1)
def leastF (s : Nat) : Nat × Nat := (1 + (s - 2 * (s / 2 - 1)) * 2 ^ (s / 2 - 1), s / 2 - 1)

theorem leastSame_any (s : Nat) (w : World) (h1 : 257 ≤ s) (h2 : s ≤ 285) :
    Calls Try.prog 83 #[.int .i64 (s : Int)] w fun e w' => w' = w ∧ e = .returned (.tuple #[.int .i64 ((leastS s).1 : Int), .int .i64 ((leastS s).2 : Int)]) := by
  by_cases h5 : s = 285
  · subst h5
    go_enter Try.func83, Try.ntmps83
    go_wp2
    go_ret2
    exact ⟨rfl, rfl⟩
  · have HF := hide (firstOf_any (s - 257) 4 _ w (.inr rfl) (by omega) rfl)
    have HL : Hid (leastS s = (3 + ((s - 257) - 4 * ((s - 257) / 4 - 1)) * 2 ^ ((s - 257) / 4 - 1), (s - 257) / 4 - 1)) := hide (by unfold leastS; rw [if_neg h5])
    have hb : ((s - 257) - 4 * ((s - 257) / 4 - 1)) * 2 ^ ((s - 257) / 4 - 1) ≤ 300 := by
      have : ∀ k ∈ List.range 29, (k - 4 * (k / 4 - 1)) * 2 ^ (k / 4 - 1) ≤ 300 := by decide +kernel
      exact this (s - 257) (by simp; omega)
    generalize ((s - 257) - 4 * ((s - 257) / 4 - 1)) * 2 ^ ((s - 257) / 4 - 1) = y at HF HL hb
    generalize (s - 257) / 4 - 1 = z at HF HL
    have e1 : ((s - 257 : Nat) : Int) = (s : Int) - 257 := by omega
    rw [e1] at HF
    go_enter Try.func83, Try.ntmps83
    go_wp2_with fail
    refine (unhide HF).mono ?_
    rintro e w' ⟨rfl, rfl⟩
    go_wp2
    go_ret2
    refine ⟨rfl, ?_⟩
    rw [unhide HL]
    go_num

theorem leastFar_any (s : Nat) (w : World) (h2 : s ≤ 29) :
    Calls Try.prog 92 #[.int .i64 (s : Int)] w fun e w' => w' = w ∧ e = .returned (.tuple #[.int .i64 ((leastF s).1 : Int), .int .i64 ((leastF s).2 : Int)]) := by
  have HF := hide (firstOf_any s 2 _ w (.inl rfl) (by omega) rfl)
  have HL : Hid (leastF s = (1 + (s - 2 * (s / 2 - 1)) * 2 ^ (s / 2 - 1), s / 2 - 1)) := hide rfl
  have hb : (s - 2 * (s / 2 - 1)) * 2 ^ (s / 2 - 1) ≤ 40000 := by
    have : ∀ k ∈ List.range 30, (k - 2 * (k / 2 - 1)) * 2 ^ (k / 2 - 1) ≤ 40000 := by decide +kernel
    exact this s (by simp; omega)
  generalize (s - 2 * (s / 2 - 1)) * 2 ^ (s / 2 - 1) = y at HF HL hb
  generalize s / 2 - 1 = z at HF HL
  go_enter Try.func92, Try.ntmps92
  go_wp2_with fail
  refine (unhide HF).mono ?_
  rintro e w' ⟨rfl, rfl⟩
  go_wp2
  go_ret2
  refine ⟨rfl, ?_⟩
  rw [unhide HL]
  go_num
theorem leastS_is (s : Nat) (h1 : 257 ≤ s) (h2 : s ≤ 285) : leastS s = samesL.getD (s - 257) (0, 0) := by
  have : ∀ k ∈ List.range 29, leastS (k + 257) = samesL.getD k (0, 0) := by decide +kernel
  have := this (s - 257) (by simp; omega)
  rwa [Nat.sub_add_cancel h1] at this
theorem leastF_is (s : Nat) (h2 : s ≤ 29) : leastF s = farsL.getD s (0, 0) := by
  have : ∀ k ∈ List.range 30, leastF k = farsL.getD k (0, 0) := by decide +kernel
  exact this s (by simp; omega)
theorem iget_lt (row : List Bool) (n : Nat) (u : US) : (uget row n u).1 < 2 ^ n := by
  have h0 : 0 < 2 ^ n := Nat.two_pow_pos n
  unfold uget
  split
  · split
    · exact h0
    · exact Nat.lt_of_lt_of_le (numOf_lt _) (Nat.pow_le_pow_right (by decide) (by rw [List.length_take]; exact Nat.min_le_left _ _))
  · exact h0

theorem withRest_any (No : Nat → Prop) (B b : Nat) (a : Option Addr) (n cap size l : Nat) (bs : List Nat) (f1 f2 : Value) (u : US) (w : World) (h : IIs No B w b (.slice a n cap) f1 f2 u) (hR : Rd w No a n bs) (hp : u.p ≤ 8 * n) (he : u.e = 0) (hs : size ≤ 16) (hl : l ≤ 40000) (r : Nat) (v : US) (hr : Hid (uget (rowB bs n) size u = (r, v))) :
    Calls Try.prog 82 #[.pointer (some ⟨b, 0, none⟩), .int .i64 (l : Int), .int .i64 (size : Int)] w fun e w' => Got No B w b (.slice a n cap) f1 f2 (.int .i64 ((l + r : Nat) : Int)) v e w' := by
  have HN := hide (number_any No B b a n cap size bs f1 f2 u w h hR hp he hs r v hr)
  have hrl : r < 65536 := by
    have := iget_lt (rowB bs n) size u
    rw [unhide hr] at this
    exact Nat.lt_of_lt_of_le this (Nat.pow_le_pow_right (j := 16) (by decide) hs)
  clear h hR hp he hs hr
  go_enter Try.func82, Try.ntmps82
  go_wp2_with fail
  refine (unhide HN).mono ?_
  rintro e w2 hg
  rcases hg with ⟨e0, rfl, hU⟩ | ⟨e0, rfl, hBl⟩
  · have HU := hide hU
    clear hU
    go_wp2
    go_ret
    exact .inl ⟨e0, by go_num, unhide HU⟩
  · have HB := hide hBl
    clear hBl
    go_wp2
    exact ⟨rfl, .inr ⟨e0, rfl, unhide HB⟩⟩
end Go.Proofs.Ytfoaaamcpknjnah
