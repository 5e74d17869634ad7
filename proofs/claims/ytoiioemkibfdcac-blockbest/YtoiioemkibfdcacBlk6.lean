/-
  Arrays of numbers; count.
-/
import Derived.Test.YtoiioemkibfdcacBlk3
import Derived.Test.YtoiioemkibfdcacBlk1
import Derived.Laws.Tables
import Derived.Laws.Rows
import Derived.Laws.ResultCell
import Derived.Deep.RegionHeld3
import Derived.Deep.WholeRow
namespace Go.Proofs.Ytoiioemkibfdcac
open Go.RowKit
set_option linter.unusedVariables false
set_option maxRecDepth 100000

/-- block g holds the numbers xs -/
def ARow (T : TypeId) (w : World) (g : Nat) (xs : List Int) : Prop := w.heap[g]? = some (.cells (iv xs).toArray T (0, 0))
theorem ARow.lt {T : TypeId} {w : World} {g : Nat} {xs : List Int} (h : ARow T w g xs) : g < w.heap.size := (Array.getElem?_eq_some_iff.1 h).1
theorem iv_at (xs : List Int) (j : Nat) (hj : j < xs.length) : (iv xs).toArray[j]? = some (.int .i64 (xs.getD j 0)) := by simp [iv, List.getD, hj]
theorem ARow.cell {T : TypeId} {w : World} {g : Nat} {xs : List Int} (h : ARow T w g xs) (j : Nat) (hj : j < xs.length) : w.cell? ⟨g, j, none⟩ = some (.int .i64 (xs.getD j 0)) := (heap_row h).trans (iv_at xs j hj)
theorem ARow.frozen {T : TypeId} {w : World} {g : Nat} {xs : List Int} (h : ARow T w g xs) (j : Nat) : w.frozen? ⟨g, j, none⟩ = false := frozen_of_row w g j _ _ h
theorem ARow.row {T : TypeId} {w : World} {g : Nat} {xs : List Int} (h : ARow T w g xs) : Row .i64 w g 0 xs := fun j hj => by rw [Nat.zero_add]; exact h.cell j hj
theorem ARow.keep {T : TypeId} {w w' : World} {g : Nat} {xs : List Int} (h : ARow T w g xs) (hk : w'.heap[g]? = w.heap[g]?) : ARow T w' g xs := hk.trans h
theorem ARow.set {T : TypeId} {w : World} {g : Nat} {xs : List Int} (h : ARow T w g xs) (i : Nat) (v : Int) : ARow T (w.setCell ⟨g, i, none⟩ (.int .i64 v)) g (xs.set i v) := by
  unfold ARow
  rw [heap_setCell_same w g i _ _ _ h]
  simp [iv, List.map_set]
theorem ARow.new (T : TypeId) (w : World) (xs : List Int) (A : Array Value) (hA : A = (iv xs).toArray) : ARow T (w.alloc (.cells A T)) w.heap.size xs := by
  subst hA; exact heap_alloc_new w _

/-- the sink that counts -/
structure KJ (B gs gf : Nat) (No : Nat → Prop) (is : List It) (W : World) : Prop where
  base : B ≤ gs ∧ B ≤ gf
  ne : gs ≠ gf
  no : ¬ No gs ∧ ¬ No gf
  s : ARow 131 W gs (symC is)
  f : ARow 132 W gf (farC is)
theorem symC_snoc (is : List It) (k : Nat) : symC (is ++ [.sym k]) = bump (symC is) k ∧ farC (is ++ [.sym k]) = farC is := by
  unfold symC farC symK farK bumps
  simp [List.filterMap_append, List.foldl_append]
theorem farC_snoc (is : List It) (k : Nat) : farC (is ++ [.far k]) = bump (farC is) k ∧ symC (is ++ [.far k]) = symC is := by
  unfold symC farC symK farK bumps
  simp [List.filterMap_append, List.foldl_append]
theorem restC_snoc (is : List It) (n s : Nat) : farC (is ++ [.rest n s]) = farC is ∧ symC (is ++ [.rest n s]) = symC is := by
  unfold symC farC symK farK bumps
  simp [List.filterMap_append]
theorem symC_le (is : List It) (k : Nat) : (symC is).getD k 0 ≤ is.length ∧ 0 ≤ (symC is).getD k 0 := by
  by_cases hk : k < 286
  · unfold symC
    rw [bumps_at _ _ k (by simpa using hk), zero_at]
    have h1 := List.count_le_length (a := k) (l := symK is)
    have h2 : (symK is).length ≤ is.length := List.length_filterMap_le _ _
    omega
  · have : (symC is).getD k 0 = 0 := by
      simp only [List.getD]
      rw [List.getElem?_eq_none (by rw [symC_len]; omega)]
      rfl
    omega
theorem farC_le (is : List It) (k : Nat) : (farC is).getD k 0 ≤ is.length ∧ 0 ≤ (farC is).getD k 0 := by
  by_cases hk : k < 30
  · unfold farC
    rw [bumps_at _ _ k (by simpa using hk), zero_at]
    have h1 := List.count_le_length (a := k) (l := farK is)
    have h2 : (farK is).length ≤ is.length := List.length_filterMap_le _ _
    omega
  · have : (farC is).getD k 0 = 0 := by
      simp only [List.getD]
      rw [List.getElem?_eq_none (by rw [farC_len]; omega)]
      rfl
    omega
theorem count1_any (T : TypeId) (g k : Nat) (xs : List Int) (W : World) (hT : T = 131) (h : ARow T W g xs) (hl : xs.length = 286) (hk : k < 286) (hx : 0 ≤ xs.getD k 0 ∧ xs.getD k 0 ≤ 1000000) :
    Calls Try.prog 100 #[.int .i64 (k : Int), .pointer (some ⟨g, 0, none⟩)] W fun e w' => e = .returned (.tuple #[]) ∧ w' = W.setCell ⟨g, k, none⟩ (.int .i64 (xs.getD k 0 + 1)) := by
  have c := h.cell k (by omega)
  have f := h.frozen k
  have hkI : (k : Int) < 286 := by omega
  clear h hT
  generalize xs.getD k 0 = x at *
  go_enter Try.func100, Try.ntmps100
  go_wp2
  go_end0
  exact ⟨rfl, rfl⟩
theorem count2_any (T : TypeId) (g k : Nat) (xs : List Int) (W : World) (hT : T = 132) (h : ARow T W g xs) (hl : xs.length = 30) (hk : k < 30) (hx : 0 ≤ xs.getD k 0 ∧ xs.getD k 0 ≤ 1000000) :
    Calls Try.prog 101 #[.int .i64 (k : Int), .pointer (some ⟨g, 0, none⟩)] W fun e w' => e = .returned (.tuple #[]) ∧ w' = W.setCell ⟨g, k, none⟩ (.int .i64 (xs.getD k 0 + 1)) := by
  have c := h.cell k (by omega)
  have f := h.frozen k
  have hkI : (k : Int) < 30 := by omega
  clear h hT
  generalize xs.getD k 0 = x at *
  go_enter Try.func101, Try.ntmps101
  go_wp2
  go_end0
  exact ⟨rfl, rfl⟩
theorem count3_any (n s : Int) (W : World) : Calls Try.prog 102 #[.int .i64 n, .int .i64 s] W fun e w' => e = .returned (.tuple #[]) ∧ w' = W := by
  go_enter Try.func102, Try.ntmps102
  go_wp2
  go_end0
  exact ⟨rfl, rfl⟩
theorem enters_any' {f : Nat} {fn : Func} {c : Code} (hf : Try.prog.funcs[f]? = some fn) (hname : (fn.name == "runtime.NumGoroutine") = false) (hb : fn.body = some c) : ∀ (args : Array Value) (w : World), (callFunc f args).run Try.prog w = .ok (.enter f args) w := enters_of hf hname hb
theorem KJ.step {B gs gf g k : Nat} {No : Nat → Prop} {is is' : List It} {W : World} {v : Value} (h : KJ B gs gf No is W) (hg : g = gs ∨ g = gf) (hs : ARow 131 (W.setCell ⟨g, k, none⟩ v) gs (symC is')) (hf : ARow 132 (W.setCell ⟨g, k, none⟩ v) gf (farC is')) :
    KJ B gs gf No is' (W.setCell ⟨g, k, none⟩ v) ∧ Below B W (W.setCell ⟨g, k, none⟩ v) ∧ Kp No W (W.setCell ⟨g, k, none⟩ v) := by
  have hgr := grown_setCell W g k v
  have hb := h.base
  have hn := h.no
  have hlt := h.s.lt
  refine ⟨⟨h.base, h.ne, h.no, hs, hf⟩, (Below.refl B W).grown hgr (by omega) (fun j e => by rw [← Option.some.inj e]; rcases hg with e | e <;> rw [e] <;> omega), (Kp.refl No W).grown hgr (Nat.le_refl _) (fun j e => by rw [← Option.some.inj e]; rcases hg with e | e <;> rw [e]; exact hn.1; exact hn.2)⟩
theorem count_snk (B gs gf : Nat) (all : List It) (hvi : ∀ i ∈ all, VI i) (hlen : all.length ≤ 100000) :
    Snk (KJ B gs gf) B 100 101 102 #[.pointer (some ⟨gs, 0, none⟩)] #[.pointer (some ⟨gf, 0, none⟩)] #[] all := by
  have hl : ∀ {is R : List It} {i : It}, is ++ i :: R = all → is.length ≤ 100000 ∧ VI i := by
    intro is R i he
    have h4 := congrArg List.length he
    rw [List.length_append, List.length_cons] at h4
    exact ⟨by omega, hvi i (by rw [← he]; simp)⟩
  refine ⟨enters_any' Try.func100 (by kernel_rfl) rfl, enters_any' Try.func101 (by kernel_rfl) rfl, enters_any' Try.func102 (by kernel_rfl) rfl, ?_, ?_, ?_, ?_⟩
  · intro No No' is W W1 hJ hB hn
    have l1 := hJ.s.lt
    have l2 := hJ.f.lt
    refine ⟨hJ.base, hJ.ne, ⟨fun e => ?_, fun e => ?_⟩, hJ.s.keep (hB.block _ l1), hJ.f.keep (hB.block _ l2)⟩
    · rcases hn gs e with h | h
      · exact hJ.no.1 h
      · omega
    · rcases hn gf e with h | h
      · exact hJ.no.2 h
      · omega
  · intro No is R k W he hJ hNo
    have hk : k < 286 := (hl he).2
    have hle := symC_le is k
    have := (hl he).1
    refine (count1_any _ gs k (symC is) W rfl hJ.s (symC_len is) hk ⟨hle.2, by omega⟩).mono ?_
    rintro e W' ⟨rfl, rfl⟩
    refine ⟨rfl, hJ.step (.inl rfl) ?_ ?_⟩
    · rw [(symC_snoc is k).1]; exact hJ.s.set k _
    · rw [(symC_snoc is k).2]; exact hJ.f.keep ((grown_setCell W gs k _).block gf hJ.f.lt (fun e => hJ.ne (Option.some.inj e).symm))
  · intro No is R k W he hJ hNo
    have hk : k < 30 := (hl he).2
    have hle := farC_le is k
    have := (hl he).1
    refine (count2_any _ gf k (farC is) W rfl hJ.f (farC_len is) hk ⟨hle.2, by omega⟩).mono ?_
    rintro e W' ⟨rfl, rfl⟩
    refine ⟨rfl, hJ.step (.inr rfl) ?_ ?_⟩
    · rw [(farC_snoc is k).2]; exact hJ.s.keep ((grown_setCell W gf k _).block gs hJ.s.lt (fun e => hJ.ne (Option.some.inj e)))
    · rw [(farC_snoc is k).1]; exact hJ.f.set k _
  · intro No is R n s W he hJ hNo
    refine (count3_any n s W).mono ?_
    rintro e W' ⟨rfl, rfl⟩
    refine ⟨rfl, ⟨hJ.base, hJ.ne, hJ.no, ?_, ?_⟩, Below.refl _ _, Kp.refl _ _⟩
    · rw [(restC_snoc is n s).2]; exact hJ.s
    · rw [(restC_snoc is n s).1]; exact hJ.f
end Go.Proofs.Ytoiioemkibfdcac
