/-
  A row of the call's own stays where nothing but new blocks came.
-/
import Derived.Test.YtmgmganbamjnmaaDoorQ1
import Derived.Laws.BytesArg
import Derived.Laws.Externs
import Derived.Lib.BytesEntry
import Derived.Laws.ResultCell
namespace Go.Proofs.YtmgmganbamjnmaaDoor
open Go.RowKit
set_option linter.unusedVariables false
theorem below_grown {w w' : World} (h : Below w.heap.size w w') : w.grownBy w' none := ⟨h.os, h.tape, h.output, h.size, fun k hk _ => h.block k hk⟩
theorem own_below {w w' : World} {B e size n : Nat} {v : Value} {xs : List Value} (h : w.ownsRow B e size v n xs) (hg : Below w.heap.size w w') : w'.ownsRow B e size v n xs :=
  h.kept (below_grown hg) (by cases hv : v.ownBlock with
    | none => exact .inl rfl
    | some k => exact .inr (by simp))
end Go.Proofs.YtmgmganbamjnmaaDoor

/-
  Files in memory; bytes held against each other.
-/
namespace Go.Proofs.YtmgmganbamjnmaaDoor
open Go.RowKit
set_option linter.unusedVariables false
set_option maxRecDepth 100000
/-- the bytes bs lie behind address a, room for c -/
def BsIn (w : World) (a : Option Addr) (c : Nat) (bs : List UInt8) : Prop :=
  (a = none ∧ bs = [] ∧ c = 0) ∨ (bs = [] ∧ ∃ ad, a = some ad) ∨ ∃ b o, a = some ⟨b, o, none⟩ ∧ b < w.heap.size ∧ bs.length ≤ c ∧ ∀ j, j < bs.length → w.cell? ⟨b, o + j, none⟩ = some (.int .u8 (((bs.getD j 0).toNat : Nat) : Int))
/-- it is as it was where nothing but new blocks came -/
theorem BsIn.below {w w' : World} {B : Nat} {a : Option Addr} {c : Nat} {bs : List UInt8} (h : BsIn w a c bs) (hB : Below B w w') (hb : w.heap.size ≤ B) : BsIn w' a c bs := by
  rcases h with h | h | ⟨b, o, h1, h2, h3, h4⟩
  · exact .inl h
  · exact .inr (.inl h)
  · refine .inr (.inr ?_)
    exact ⟨b, o, h1, Nat.lt_of_lt_of_le h2 hB.size, h3, fun j hj => (hB.cell (p := ⟨b, o + j, none⟩) (by simp; omega)).trans (h4 j hj)⟩
theorem BsIn.grown {w w' : World} {r : Option Nat} {a : Option Addr} {c : Nat} {bs : List UInt8} (h : BsIn w a c bs) (hg : w.grownBy w' r) (hr : ∀ b o, a = some ⟨b, o, none⟩ → some b ≠ r) : BsIn w' a c bs := by
  rcases h with h | h | ⟨b, o, h1, h2, h3, h4⟩
  · exact .inl h
  · exact .inr (.inl h)
  · refine .inr (.inr ?_)
    exact ⟨b, o, h1, Nat.lt_of_lt_of_le h2 hg.size, h3, fun j hj => hg.cell (h4 j hj) (hr b o h1)⟩

abbrev nums (bs : List UInt8) : List Int := bs.map fun x : UInt8 => ((x.toNat : Nat) : Int)
theorem nums_getD (bs : List UInt8) (j : Nat) : (nums bs).getD j 0 = (((bs.getD j 0).toNat : Nat) : Int) := by
  unfold nums
  by_cases h : j < bs.length
  · simp [List.getD, h]
  · simp [List.getD, h]
theorem ofNums (bs : List UInt8) : (nums bs).map (fun n => UInt8.ofNat n.toNat) = bs := by
  unfold nums
  rw [List.map_map]
  have : ((fun n : Int => UInt8.ofNat n.toNat) ∘ fun x : UInt8 => ((x.toNat : Nat) : Int)) = id := by funext x; simp
  rw [this, List.map_id]
theorem strOfNums_B (bs : List UInt8) : strOfNums (nums bs) = B bs := by
  unfold strOfNums B
  rw [ofNums]

/-- bytes as a text -/
theorem conv_any {w : World} {a : Option Addr} {c : Nat} {bs : List UInt8} (h : BsIn w a c bs) : (convert 37 9 (.slice a bs.length c)).run Tryd.prog w = .ok (.string (B bs)) w := by
  rcases h with ⟨rfl, rfl, rfl⟩ | ⟨rfl, ad, rfl⟩ | ⟨b, o, rfl, h2, h3, h4⟩
  · exact run_convert_bytes_nil w _ _ Tryd.underlying37 Tryd.underlying5 0 0 _ Tryd.underlying9
  · show (convert 37 9 (.slice (some ad) 0 c)).run Tryd.prog w = .ok (.string (B [])) w
    rw [run_convert_bytes_string w _ _ _ (some ad) 0 c Tryd.underlying37 Tryd.underlying5 Tryd.underlying9]
    exact (run_bytesToString (P := Tryd.prog) w ad 0 c [] (by rfl)).trans rfl
  · have := run_convert_bytes_arg (P := Tryd.prog) w _ _ Tryd.underlying37 Tryd.underlying5 b o bs.length c (nums bs) (by simp [nums]) (fun i hi => by rw [h4 i hi, nums_getD]) _ Tryd.underlying9
    rw [this, strOfNums_B]

/-- a file as it lies: where its bytes lie, their room -/
structure Fv where
  f : Fl
  a : Option Addr
  c : Nat
def Fv.sl (x : Fv) : Value := .slice x.a x.f.bytes.length x.c
def Fv.val (x : Fv) : Value := .agg #[.string (B x.f.name), x.sl, .int .i64 x.f.stamp, .int .i64 x.f.node, .bool x.f.gone]
def Fv.cells (x : Fv) : List Value := [.string (B x.f.name), x.sl, .int .i64 x.f.stamp, .int .i64 x.f.node, .bool x.f.gone]
structure FvIn (w : World) (x : Fv) : Prop where
  bs : BsIn w x.a x.c x.f.bytes
  big : x.f.bytes.length ≤ 140737488355328
  txt : x.f.name.length ≤ 140737488355328
theorem FvIn.below {w w' : World} {B : Nat} {x : Fv} (h : FvIn w x) (hB : Below B w w') (hb : w.heap.size ≤ B) : FvIn w' x := ⟨h.bs.below hB hb, h.big, h.txt⟩
theorem FvIn.grown {w w' : World} {r : Option Nat} {x : Fv} (h : FvIn w x) (hg : w.grownBy w' r) (hr : ∀ b o, x.a = some ⟨b, o, none⟩ → some b ≠ r) : FvIn w' x := ⟨h.bs.grown hg hr, h.big, h.txt⟩
theorem FvIn.alloc {w : World} {x : Fv} (h : FvIn w x) (o : Obj) : FvIn (w.alloc o) x := h.below ((Below.refl w.heap.size w).alloc (Nat.le_refl _) o) (Nat.le_refl _)

/-- files behind one another, from place o of block b on -/
def Fs (w : World) (b o : Nat) (xs : List Fv) : Prop := ∀ j x, xs[j]? = some x → w.cell? ⟨b, o + j * 5, none⟩ = some (.string (B x.f.name)) ∧ w.cell? ⟨b, o + j * 5 + 1, none⟩ = some x.sl ∧ w.cell? ⟨b, o + j * 5 + 2, none⟩ = some (.int .i64 x.f.stamp) ∧ w.cell? ⟨b, o + j * 5 + 3, none⟩ = some (.int .i64 x.f.node) ∧ w.cell? ⟨b, o + j * 5 + 4, none⟩ = some (.bool x.f.gone)
/-- the files xs in a slice at ad, room for c -/
structure FsIn (w : World) (ad : Option Addr) (c : Nat) (xs : List Fv) : Prop where
  at_ : xs = [] ∨ ∃ b o, ad = some ⟨b, o, none⟩ ∧ b < w.heap.size ∧ Fs w b o xs
  cap : xs.length ≤ c
  capm : c ≤ 9223372036854775807
  lim : xs.length ≤ 2199023255552
  all : ∀ x ∈ xs, FvIn w x
theorem FsIn.below {w w' : World} {B : Nat} {ad : Option Addr} {c : Nat} {xs : List Fv} (h : FsIn w ad c xs) (hB : Below B w w') (hb : w.heap.size ≤ B) : FsIn w' ad c xs := by
  refine ⟨?_, h.cap, h.capm, h.lim, fun x hx => (h.all x hx).below hB hb⟩
  rcases h.at_ with h1 | ⟨b, o, h1, h2, h3⟩
  · exact .inl h1
  · refine .inr ⟨b, o, h1, Nat.lt_of_lt_of_le h2 hB.size, ?_⟩
    intro j x hj
    obtain ⟨k1, k2, k3, k4, k5⟩ := h3 j x hj
    have hbB : b < B := by omega
    exact ⟨(hB.cell (p := ⟨b, _, none⟩) hbB).trans k1, (hB.cell (p := ⟨b, _, none⟩) hbB).trans k2, (hB.cell (p := ⟨b, _, none⟩) hbB).trans k3, (hB.cell (p := ⟨b, _, none⟩) hbB).trans k4, (hB.cell (p := ⟨b, _, none⟩) hbB).trans k5⟩
theorem FsIn.alloc {w : World} {ad : Option Addr} {c : Nat} {xs : List Fv} (h : FsIn w ad c xs) (o : Obj) : FsIn (w.alloc o) ad c xs := h.below ((Below.refl w.heap.size w).alloc (Nat.le_refl _) o) (Nat.le_refl _)
theorem FsIn.nil (w : World) : FsIn w none 0 [] := ⟨.inl rfl, Nat.le_refl _, by omega, by simp, fun x hx => by cases hx⟩
/-- the k-th file, in a world that holds the old blocks as they were -/
theorem FsIn.get {w w' : World} {ad : Option Addr} {c k : Nat} {xs : List Fv} {x : Fv} (h : FsIn w ad c xs) (hB : Below w.heap.size w w') (hk : xs[k]? = some x) :
    ∃ b o, ad = some ⟨b, o, none⟩ ∧ b < w.heap.size ∧ w'.cell? ⟨b, o + k * 5, none⟩ = some (.string (B x.f.name)) ∧ w'.cell? ⟨b, o + k * 5 + 1, none⟩ = some x.sl ∧ w'.cell? ⟨b, o + k * 5 + 2, none⟩ = some (.int .i64 x.f.stamp) ∧ w'.cell? ⟨b, o + k * 5 + 3, none⟩ = some (.int .i64 x.f.node) ∧ w'.cell? ⟨b, o + k * 5 + 4, none⟩ = some (.bool x.f.gone) := by
  rcases (h.below hB (Nat.le_refl _)).at_ with rfl | ⟨b, o, h1, h2, h3⟩
  · simp at hk
  · rcases h.at_ with rfl | ⟨b', o', h1', h2', _⟩
    · simp at hk
    · rw [h1] at h1'
      cases h1'
      obtain ⟨k1, k2, k3, k4, k5⟩ := h3 k x hk
      exact ⟨b, o, h1, h2', k1, k2, k3, k4, k5⟩
theorem get_of {xs : List Fv} {k : Nat} (h : k < xs.length) : ∃ x, xs[k]? = some x ∧ x ∈ xs := ⟨xs[k], List.getElem?_eq_getElem h, List.getElem_mem h⟩
abbrev fls (xs : List Fv) : List Fl := xs.map Fv.f

def fileV (x : Fv) : Value := x.val
theorem val_is (x : Fv) : x.val = .agg #[.string (B x.f.name), .slice x.a x.f.bytes.length x.c, .int .i64 x.f.stamp, .int .i64 x.f.node, .bool x.f.gone] := rfl

theorem toList_B (l : List UInt8) : (B l).toList = l := by rw [ByteArray.toList_eq]; rfl
theorem bytesOf_is {w : World} {a : Option Addr} {c : Nat} {bs : List UInt8} (h : BsIn w a c bs) : (Extern.Bytes.bytesOf (.slice a bs.length c)).run Tryd.prog w = .ok (B bs) w := by
  rcases h with ⟨rfl, rfl, rfl⟩ | ⟨rfl, ad, rfl⟩ | ⟨b, o, rfl, h2, h3, h4⟩
  · rfl
  · rfl
  · have := Lib.run_loadBytesX (P := Tryd.prog) w (nums bs) ⟨b, o, none⟩ .empty (fun j x hj => by
      have hj2 : j < bs.length := by
        by_cases k : j < bs.length
        · exact k
        · rw [List.getElem?_eq_none (by simp [nums]; omega)] at hj; cases hj
      have e2 : (⟨b, o, none⟩ : Addr).add j = ⟨b, o + j, none⟩ := by unfold Addr.add; split <;> simp_all
      rw [e2, h4 j hj2]
      simp [nums, hj2] at hj
      subst hj
      simp [List.getD, hj2])
    have hl : (nums bs).length = bs.length := by simp [nums]
    rw [hl] at this
    show (Extern.Bytes.loadBytes ⟨b, o, none⟩ bs.length .empty).run Tryd.prog w = _
    rw [this]
    congr 1
    have e3 : Lib.bytesOf (nums bs) = bs := by
      unfold Lib.bytesOf
      first | exact ofNums bs | (simp [nums])
    rw [e3]
    simp [B, ByteArray.empty, ByteArray.emptyWithCapacity]
    rfl
theorem eq_bytes {w : World} {a a2 : Option Addr} {c c2 : Nat} {x y : List UInt8} (h : BsIn w a c x) (h2 : BsIn w a2 c2 y) :
    Calls Tryd.prog 9 #[.slice a x.length c, .slice a2 y.length c2] w fun e w' => e = .returned (.bool (decide (x = y))) ∧ w' = w := by
  have e1 := conv_any h
  have e2 := conv_any h2
  have e3 : ((B x).toList == (B y).toList) = decide (x = y) := by rw [toList_B, toList_B, Bool.eq_iff_iff, beq_iff_eq, decide_eq_true_iff]
  clear h h2
  generalize B x = s at *
  generalize B y = t at *
  go_enter Tryd.func9, Tryd.ntmps9
  go_wp2
  go_ret
  exact ⟨rfl, rfl⟩
end Go.Proofs.YtmgmganbamjnmaaDoor
