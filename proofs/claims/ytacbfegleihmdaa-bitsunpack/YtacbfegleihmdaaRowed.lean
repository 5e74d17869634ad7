/-
  The closed fact that the statements on bits ask for first: it is true.
-/
import Derived.Test.YtacbfegleihmdaaBeq
import Derived.Test.YtacbfegleihmdaaEq
namespace Go.Proofs.Ytacbfegleihmdaa
open Go.RowKit
set_option linter.unusedVariables false

theorem equal_in (a1 a2 : Option Addr) (n1 c1 n2 c2 : Nat) (xs ys : List Int) (w : World) (h1l : xs.length = n1) (h2l : ys.length = n2) (hm1 : n1 ≤ 9223372036854775807) (hm2 : n2 ≤ 9223372036854775807) (h1 : RowIn .i64 w a1 xs) (h2 : RowIn .i64 w a2 ys) :
    Calls Try.prog 7 #[.slice a1 n1 c1, .slice a2 n2 c2] w fun e w' => e = .returned (.bool (xs == ys)) ∧ ∃ q, w' = w.drewN q := by
  by_cases hn : n1 = n2
  · subst hn
    rcases h1 with rfl | ⟨b1, o1, rfl, _, h1⟩
    · obtain rfl : n1 = 0 := by simp at h1l; omega
      obtain rfl : ys = [] := List.eq_nil_of_length_eq_zero h2l
      clear h2
      go_enter Try.func7, Try.ntmps7
      go_wp2
      go_loop [13] (fun i => i = .int .i64 0) (fun i => 0)
      case atStart => exact rfl
      case round =>
        obtain rfl := hrel
        go_wp2
        go_ret
        exact ⟨rfl, 0, rfl⟩
    · rcases h2 with rfl | ⟨b2, o2, rfl, _, h2⟩
      · obtain rfl : n1 = 0 := by simp at h2l; omega
        obtain rfl : xs = [] := List.eq_nil_of_length_eq_zero h1l
        clear h1
        go_enter Try.func7, Try.ntmps7
        go_wp2
        go_loop [13] (fun i => i = .int .i64 0) (fun i => 0)
        case atStart => exact rfl
        case round =>
          obtain rfl := hrel
          go_wp2
          go_ret
          exact ⟨rfl, 0, rfl⟩
      · exact equal_ints b1 o1 n1 c1 b2 o2 n1 c2 xs ys w h1l h2l hm1 hm2 h1 h2
  · have hne : (xs == ys) = false := by
      rw [beq_eq_false_iff_ne]
      intro e
      exact hn (by rw [← h1l, ← h2l, e])
    have hb : ((n1 : Int) != (n2 : Int)) = true := by
      rw [bne_iff_ne]
      omega
    clear h1 h2
    go_enter Try.func7, Try.ntmps7
    go_wp2
    go_ret
    rw [hne]
    exact ⟨rfl, 0, rfl⟩

theorem turn_34 (w : World) : Calls Try.prog 16 #[.int .i64 3, .int .i64 4] w fun e w' => e = .returned (.tuple #[.int .i64 12, .int .i64 0]) ∧ w' = w := by
  have h := turn_yes 3 4 w (by decide) (by omega) (by omega)
  have e : turnL 3 4 = 12 := by decide
  rw [e] at h
  exact h

theorem fit_57 : AllFit [(5, 3), (1, 7)] := by
  intro j hj
  match j, hj with
  | 0, _ => decide
  | 1, _ => decide
theorem size_37 : AllSize [3, 7] := by
  intro j hj
  match j, hj with
  | 0, _ => decide
  | 1, _ => decide

theorem lt_13 : ∀ j, [13, 0].getD j 0 < 256 := by
  intro j
  match j with
  | 0 => decide
  | 1 => decide
  | j + 2 => simp

theorem BytesIn.new (w : World) (xs : List Nat) (t : TypeId) (A : Array Value) (b : Nat) (hb : b = w.heap.size) (hA : A = (u8s xs).toArray) : BytesIn (w.alloc (.cells A t)) (some ⟨b, 0, none⟩) xs := by
  refine .inr ⟨b, 0, rfl, by rw [hb]; simp, ?_⟩
  intro j hj
  rw [World.cell?_alloc_at _ _ _ _ hb, hA]
  simp [u8s, List.getD, hj]
theorem BytesIn.alloc {w : World} {a : Option Addr} {xs : List Nat} (h : BytesIn w a xs) (x : Obj) : BytesIn (w.alloc x) a xs :=
  h.below ((Below.refl w.heap.size w).alloc (Nat.le_refl _) x) (Nat.le_refl _)
theorem RowIn.new (k : IntKind) (w : World) (xs : List Int) (t : TypeId) (A : Array Value) (b : Nat) (hb : b = w.heap.size) (hA : A = (xs.map (Value.int k)).toArray) : RowIn k (w.alloc (.cells A t)) (some ⟨b, 0, none⟩) xs :=
  .inr ⟨b, 0, rfl, by rw [hb]; simp, Row.new k w xs t A b hb hA⟩
theorem RowIn.below {k : IntKind} {w w' : World} {B : Nat} {a : Option Addr} {xs : List Int} (h : RowIn k w a xs) (hB : Below B w w') (hb : w.heap.size ≤ B) : RowIn k w' a xs := by
  rcases h with h | ⟨b, o, h1, h2, h3⟩
  · exact .inl h
  · exact .inr ⟨b, o, h1, Nat.lt_of_lt_of_le h2 hB.size, h3.below hB (by omega)⟩
theorem RowIn.alloc {k : IntKind} {w : World} {a : Option Addr} {xs : List Int} (h : RowIn k w a xs) (x : Obj) : RowIn k (w.alloc x) a xs :=
  h.below ((Below.refl w.heap.size w).alloc (Nat.le_refl _) x) (Nat.le_refl _)

set_option maxHeartbeats 1000000 in
theorem rowed_any (w : World) : Calls Try.prog 11 #[] w fun e w' => e = .returned (.bool true) ∧ Below w.heap.size w w' := by
  have ea : (atL [(5, 3), (1, 7)] 2 + 7) / 8 = 2 := by decide
  have er : rowL [(5, 3), (1, 7)] 2 = [13, 0] := by decide
  have en : numL [13, 0] [3, 7] 2 = [5, 1] := by decide
  have es : sumL [3, 7] 2 = 10 := by decide
  have EA := hide ea
  have ER := hide er
  have EN := hide en
  have ES := hide es
  clear ea er en es
  go_enter Try.func11, Try.ntmps11
  go_wp2_with fail
  refine (pack_yes w.heap.size 0 2 2 [(5, 3), (1, 7)] _ rfl (by omega) (by simp) ?_ fit_57).mono ?_
  · intro j hj
    match j, hj with
    | 0, _ => exact ⟨by simp, by simp⟩
    | 1, _ => exact ⟨by simp, by simp⟩
  rintro e w1 ⟨g, rfl, hO, hB, hg⟩
  rw [unhide EA, unhide ER] at hO
  rw [unhide EA]
  have hBz := hB.size
  have hBW := hide (((Below.refl w.heap.size w).alloc (Nat.le_refl _) _).trans (hB.mono (by simp)))
  have HO := hide hO
  simp only [World.size_alloc] at hBz hg
  clear hO hB
  go_wp2_with fail
  refine (unpack_yes (some ⟨g, 0, none⟩) 2 2 w1.heap.size 0 2 2 [13, 0] [3, 7] _ (by omega) rfl lt_13 ?_ rfl (by omega) (by simp) ?_ size_37 (by rw [unhide ES]; omega)).mono ?_
  · exact BytesIn.own ((unhide HO).alloc _)
  · exact Row.new .i64 _ _ _ _ _ rfl rfl
  rintro e w2 ⟨g2, rfl, hO2, hB2, hg2⟩
  rw [unhide EN] at hO2
  have hBz2 := hB2.size
  have hg1 := ((unhide HO).lt g rfl).2
  have hX2 := hide ((BytesIn.own ((unhide HO).alloc _)).below hB2 (Nat.le_refl _))
  have hB3 := hide (((unhide hBW).alloc (by omega) _).trans (hB2.mono (by simp; omega)))
  simp only [World.size_alloc] at hBz2 hg2
  have HO2 := hide hO2
  clear hB2 hO2
  go_wp2_with fail
  refine (turn_34 _).mono ?_
  rintro e w3 ⟨rfl, rfl⟩
  go_wp2_with fail
  have e1 : (([13, 0] : List Nat) == [13, 0]) = true := by decide
  have e2 : (([5, 1] : List Int) == [5, 1]) = true := by decide
  refine (bequal_in _ _ _ _ _ _ [13, 0] [13, 0] _ rfl rfl lt_13 lt_13 ((unhide hX2).alloc _) (BytesIn.new _ _ _ _ _ rfl rfl)).mono ?_
  rintro e w4 ⟨rfl, rfl⟩
  rw [e1]
  go_wp2_with fail
  refine (equal_in _ _ _ _ _ _ [5, 1] [5, 1] _ rfl rfl (by decide) (by decide) (((RowIn.own (unhide HO2)).alloc _).alloc _) (RowIn.new .i64 _ _ _ _ _ (by simp) rfl)).mono ?_
  rintro e w5 ⟨rfl, q, rfl⟩
  rw [e2]
  go_wp2
  go_ret
  refine ⟨rfl, below_drewN (((unhide hB3).alloc (by omega) _).alloc (by simp; omega) _) q⟩
end Go.Proofs.Ytacbfegleihmdaa
