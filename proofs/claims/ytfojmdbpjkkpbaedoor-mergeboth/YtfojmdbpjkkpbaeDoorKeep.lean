/-
  What stays while others are worked upon; rows of a call's own as rows that are read.
-/
import Derived.Test.YtfojmdbpjkkpbaeDoorIn0
namespace Go.Proofs.YtfojmdbpjkkpbaeDoor
open Go.RowKit
set_option linter.unusedVariables false

theorem heap_row {w : World} {b i : Nat} {cs : Array Value} {t : TypeId} (h : w.heap[b]? = some (.cells cs t (0, 0))) : w.cell? ⟨b, i, none⟩ = cs[i]? := cell_of_row w b i _ _ _ h
/-- what must stay stays -/
def Kp (No : Nat → Prop) (w w' : World) : Prop := ∀ g, g < w.heap.size → No g → w'.heap[g]? = w.heap[g]?
theorem Kp.refl (No : Nat → Prop) (w : World) : Kp No w w := fun _ _ _ => rfl
theorem Kp.trans {No : Nat → Prop} {a b c : World} (h : Kp No a b) (k : Kp No b c) (hs : a.heap.size ≤ b.heap.size) : Kp No a c := fun g hg hn => (k g (by omega) hn).trans (h g hg hn)
theorem Kp.grown {No : Nat → Prop} {a w w' : World} {r : Option Nat} (h : Kp No a w) (hg : w.grownBy w' r) (hs : a.heap.size ≤ w.heap.size) (hr : ∀ j, r = some j → ¬ No j) : Kp No a w' := by
  intro g h1 h2
  rw [hg.block g (by omega) (fun e => hr g e.symm h2)]
  exact h g h1 h2
theorem Bytes.grown {w w' : World} {b o : Nat} {xs : List Nat} {r : Option Nat} (h : Bytes w b o xs) (hg : w.grownBy w' r) (hr : some b ≠ r) : Bytes w' b o xs := fun j hj => hg.cell (h j hj) hr
theorem Kp.weaken {No No' : Nat → Prop} {w w' : World} (h : Kp No' w w') (hn : ∀ g, No g → No' g) : Kp No w w' := fun g h1 h2 => h g h1 (hn g h2)
theorem own_kp {w w' : World} {B e size n : Nat} {v : Value} {xs : List Value} (h : w.ownsRow B e size v n xs) (hk : ∀ g, v.ownBlock = some g → w'.heap[g]? = w.heap[g]?) : w'.ownsRow B e size v n xs := by
  refine ⟨h.1, ?_⟩
  rcases h.2 with h1 | ⟨g, cap, cur, h1, h2, h3, h4⟩
  · exact .inl h1
  · exact .inr ⟨g, cap, cur, h1, h2, (hk g (by rw [h1]; rfl)).trans h3, h4⟩
theorem own_mono {w : World} {B B' e size n : Nat} {v : Value} {xs : List Value} (h : w.ownsRow B e size v n xs) (hB : B' ≤ B) : w.ownsRow B' e size v n xs := by
  refine ⟨h.1, ?_⟩
  rcases h.2 with h1 | ⟨g, cap, cur, h1, h2, h3⟩
  · exact .inl h1
  · exact .inr ⟨g, cap, cur, h1, Nat.le_trans hB h2, h3⟩
theorem own_shape {w : World} {B e size n : Nat} {v : Value} {xs : List Value} (h : w.ownsRow B e size v n xs) (hn : 0 < n) : ∃ g cap, v = .slice (some ⟨g, 0, none⟩) n cap ∧ B ≤ g ∧ g < w.heap.size := by
  rcases h.2 with ⟨h1, h2⟩ | ⟨g, cap, cur, h1, h2, h3⟩
  · omega
  · exact ⟨g, cap, h1, h2, (h.lt g (by rw [h1]; rfl)).2⟩
theorem u8_snoc (xs : List Nat) (y : Nat) : u8s (xs ++ [y]) = u8s xs ++ [.int .u8 (y : Int)] := by simp [u8s]

theorem bytesIn_some {w : World} {a : Option Addr} {bs : List Nat} (h : BytesIn w a bs) (hp : 0 < bs.length) : ∃ b o, a = some ⟨b, o, none⟩ ∧ b < w.heap.size ∧ Bytes w b o bs := by
  rcases h with rfl | h
  · simp at hp
  · exact h

theorem BytesIn.ofOwn {w : World} {B n : Nat} {v : Value} {xs : List Nat} (h : w.ownsRow B 5 1 v n (u8s xs)) : xs.length = n ∧ ∃ a c, v = .slice a n c ∧ BytesIn w a xs := by
  have hn : xs.length = n := by have := h.1; simpa using this
  refine ⟨hn, ?_⟩
  rcases h.2 with ⟨h1, h2⟩ | ⟨g, cap, cur, h1, _⟩
  · subst h2
    exact ⟨none, 0, h1, .inl (List.eq_nil_of_length_eq_zero hn)⟩
  · subst h1
    exact ⟨_, _, rfl, BytesIn.own h⟩

theorem own_slice' {w : World} {B e size n : Nat} {v : Value} {xs : List Value} (h : w.ownsRow B e size v n xs) : ∃ a c, v = .slice a n c := by
  rcases h.2 with ⟨h1, h2⟩ | ⟨g, cap, cur, h1, _⟩
  · subst h2; exact ⟨none, 0, h1⟩
  · exact ⟨_, _, h1⟩
end Go.Proofs.YtfojmdbpjkkpbaeDoor
