/-
  Package inflate, of bits alone: no error is below nothing.
-/
import Derived.Test.YtfoaaamcpknjnacQ42
import Derived.Test.YtfoaaamcpknjnacQ49
import Derived.Test.YtfoaaamcpknjnacQ45
import Derived.Test.YtfoaaamcpknjnacQ4
import Derived.Laws.BytesArg
import Derived.Lib.Strings
import Derived.Test.YtfoaaamcpknjnacQ0
import Derived.Test.YtfoaaamcpknjnacInf6
namespace Go.Proofs.Ytfoaaamcpknjnac
set_option linter.unusedVariables false
set_option maxRecDepth 100000

theorem uget_nn (row : List Bool) (n : Nat) (u : US) (h : 0 ≤ u.e) : 0 ≤ (uget row n u).2.e := by
  unfold uget
  split
  · split
    · exact (by decide : (0 : Int) ≤ 7)
    · exact h
  · exact h
theorem nextF_nn (l : List Int) (row : List Bool) (p : Nat) : ∀ f n, 0 ≤ (nextF l row p f n).2.2
  | 0, n => (by decide : (0 : Int) ≤ 8)
  | f + 1, n => by
    unfold nextF
    split
    · exact (by decide : (0 : Int) ≤ 7)
    · split
      · exact (by decide : (0 : Int) ≤ 0)
      · exact nextF_nn l row p f (n + 1)
theorem uplace_nn (l : List Int) (row : List Bool) (u : US) (h : 0 ≤ u.e) : 0 ≤ (uplace l row u).2.e := by
  unfold uplace
  split
  · exact nextF_nn l row u.p 15 1
  · exact h
theorem uwrong_nn (x : Int) (u : US) (hx : 0 ≤ x) (h : 0 ≤ u.e) : 0 ≤ (uwrong x u).e := by
  unfold uwrong
  split
  · exact hx
  · exact h
theorem usay_nn (c : Nat) (u : US) (h : 0 ≤ u.e) : 0 ≤ (usay c u).e := by
  unfold usay
  split
  · split
    · exact (by decide : (0 : Int) ≤ 2)
    · exact h
  · exact h
theorem ustore_nn (row : List Bool) : ∀ (k : Nat) (u : US), 0 ≤ u.e → 0 ≤ (ustore row k u).e
  | 0, u, h => h
  | k + 1, u, h => by
    unfold ustore
    split
    · exact ustore_nn row k _ (usay_nn _ _ (uget_nn _ _ _ h))
    · exact h
theorem ucopy_nn (d : Nat) : ∀ (k : Nat) (u : US), 0 ≤ u.e → 0 ≤ (ucopy d k u).e
  | 0, u, h => h
  | k + 1, u, h => by
    unfold ucopy
    split
    · exact ucopy_nn d k _ (usay_nn _ _ h)
    · exact h
theorem istored_nn (row : List Bool) (u : US) (h : 0 ≤ u.e) : 0 ≤ (istored row u).e := by
  have h1 : 0 ≤ (istored1 row u).2.e := by
    unfold istored1
    dsimp only
    split
    · exact uwrong_nn _ _ (by decide) (uget_nn _ _ _ (uget_nn _ _ _ h))
    · exact uget_nn _ _ _ (uget_nn _ _ _ h)
  unfold istored
  dsimp only
  split
  · exact uwrong_nn _ _ (by decide) h1
  · exact ustore_nn _ _ _ h1
theorem ihow_nn (row : List Bool) (l : List Int) (u : US) (h : 0 ≤ u.e) : 0 ≤ (ihow row l u).2.e := by
  unfold ihow
  split
  · exact uplace_nn _ _ _ h
  · split
    · exact (by decide : (0 : Int) ≤ 8)
    · exact uget_nn _ _ _ (uplace_nn _ _ _ h)
theorem iback_nn (d k : Nat) (u : US) (h : 0 ≤ u.e) : 0 ≤ (iback d k u).e := by
  unfold iback
  split
  · exact (by decide : (0 : Int) ≤ 9)
  · split
    · exact (by decide : (0 : Int) ≤ 2)
    · exact ucopy_nn _ _ _ h
theorem istep_nn (row : List Bool) (lb : List Int) (k : Nat) (u : US) (h : 0 ≤ u.e) : 0 ≤ (istep row lb k u).e := by
  unfold istep
  split
  · split
    · exact (by decide : (0 : Int) ≤ 2)
    · exact h
  · split
    · exact (by decide : (0 : Int) ≤ 8)
    · split
      · exact uget_nn _ _ _ h
      · split
        · exact ihow_nn _ _ _ (uget_nn _ _ _ h)
        · exact iback_nn _ _ _ (ihow_nn _ _ _ (uget_nn _ _ _ h))
theorem itoks_nn (row : List Bool) (la lb : List Int) : ∀ (f : Nat) (u : US), 0 ≤ u.e → 0 ≤ (itoks row la lb f u).e
  | 0, u, h => by
    unfold itoks
    split
    · exact uplace_nn _ _ _ h
    · exact uplace_nn _ _ _ h
  | f + 1, u, h => by
    rw [itoks_succ]
    split
    · exact uplace_nn _ _ _ h
    · split
      · exact uplace_nn _ _ _ h
      · split
        · exact istep_nn _ _ _ _ (uplace_nn _ _ _ h)
        · exact itoks_nn row la lb f _ (istep_nn _ _ _ _ (uplace_nn _ _ _ h))
theorem usmall_nn (row : List Bool) : ∀ (ks : List Nat) (s : List Int) (u : US), 0 ≤ u.e → 0 ≤ (usmall row ks s u).2.e
  | [], s, u, h => h
  | k :: r, s, u, h => by
    rw [usmall]
    exact usmall_nn row r _ _ (uget_nn _ _ _ h)
theorem ukind_nn (row : List Bool) (l : List Int) (k : Nat) (u : US) (h : 0 ≤ u.e) : 0 ≤ (ukind row l k u).2.2.e := by
  unfold ukind
  split
  · split
    · exact uwrong_nn _ _ (by decide) h
    · exact uget_nn _ _ _ h
  · split
    · exact uget_nn _ _ _ h
    · split
      · exact uget_nn _ _ _ h
      · exact h
theorem umore_nn (tot : Nat) (l : List Int) (r : Int × Nat × US) (h : 0 ≤ r.2.2.e) : 0 ≤ (umore tot l r).2.e := by
  unfold umore
  dsimp only
  split
  · exact uwrong_nn _ _ (by decide) h
  · exact h
theorem ulens_nn (row : List Bool) (S : List Int) (tot : Nat) : ∀ (F : Nat) (l : List Int) (u : US), 0 ≤ u.e → 0 ≤ (ulens row S tot F l u).2.e
  | 0, l, u, h => h
  | F + 1, l, u, h => by
    rw [ulens]
    split
    · exact ulens_nn row S tot F _ _ (umore_nn _ _ _ (ukind_nn _ _ _ _ (uplace_nn _ _ _ h)))
    · exact h
theorem utold_nn (row : List Bool) (u : US) (h : 0 ≤ u.e) : 0 ≤ (utold row u).2.e := by
  unfold utold
  dsimp only
  have h3 := uget_nn row 4 _ (uget_nn row 5 _ (uget_nn row 5 u h))
  generalize (uget row 5 u).1 = m0 at *
  generalize (uget row 5 (uget row 5 u).2).1 = n0 at *
  generalize uget row 4 (uget row 5 (uget row 5 u).2).2 = g at *
  have hs : 0 ≤ (utoldS row (m0 + 257) (n0 + 1) (g.1 + 4) g.2).2.e := by
    unfold utoldS
    refine usmall_nn _ _ _ _ ?_
    split
    · exact uwrong_nn _ _ (by decide) h3
    · exact h3
  generalize utoldS row (m0 + 257) (n0 + 1) (g.1 + 4) g.2 = s at *
  have hc : 0 ≤ (uchk s).e := by
    unfold uchk
    split
    · exact uwrong_nn _ _ (by decide) hs
    · exact hs
  unfold utoldL
  split
  · exact hc
  · have hl := ulens_nn row s.1 (m0 + 257 + (n0 + 1)) (m0 + 257 + (n0 + 1)) [] (uchk s) hc
    generalize ulens row s.1 (m0 + 257 + (n0 + 1)) (m0 + 257 + (n0 + 1)) [] (uchk s) = r at *
    unfold utoldE
    split
    · exact hl
    · split
      · exact uwrong_nn _ _ (by decide) hl
      · exact hl
theorem ikeep_nn (k : Nat) (u : US) (h : 0 ≤ u.e) : 0 ≤ (ikeep k u).e := by
  unfold ikeep
  split
  · exact h
  · exact h
theorem ikind_nn (row : List Bool) (k : Nat) (u : US) (h : 0 ≤ u.e) : 0 ≤ (ikind row k u).e := by
  unfold ikind
  split
  · exact ikeep_nn _ _ (istored_nn _ _ h)
  · split
    · exact ikeep_nn _ _ (itoks_nn _ _ _ _ _ h)
    · split
      · split
        · exact utold_nn _ _ h
        · exact ikeep_nn _ _ (itoks_nn _ _ _ _ _ (utold_nn _ _ h))
      · exact (by decide : (0 : Int) ≤ 4)
theorem iblock_nn (row : List Bool) (u : US) (h : 0 ≤ u.e) : 0 ≤ (iblock row u).2.e := by
  unfold iblock
  split
  · exact uget_nn _ _ _ h
  · split
    · exact uget_nn _ _ _ (uget_nn _ _ _ h)
    · exact ikind_nn _ _ _ (uget_nn _ _ _ (uget_nn _ _ _ h))
theorem iblocks_nn (row : List Bool) : ∀ (F : Nat) (u : US), 0 ≤ u.e → 0 ≤ (iblocks row F u).e
  | 0, u, h => h
  | F + 1, u, h => by
    rw [iblocks]
    split
    · exact iblocks_nn row F _ (iblock_nn row u h)
    · exact iblock_nn row u h
theorem iunpk_nn (row : List Bool) : 0 ≤ (iunpk row).e := iblocks_nn row _ _ (by decide)
end Go.Proofs.Ytfoaaamcpknjnac

/-
  Package inflate: Unpack of any row, whole.
-/
namespace Go.Proofs.Ytfoaaamcpknjnac
open Go.RowKit
set_option linter.unusedVariables false
set_option maxRecDepth 100000

/-- what Unpack answers of the bytes bs -/
def Unpd (w : World) (bs : List Nat) (n : Nat) (e : Ending) (w' : World) : Prop :=
  Below w.heap.size w w' ∧ (((iunpk (rowB bs n)).e = 0 ∧ ∃ ov kv, e = .returned (.tuple #[ov, .int .i64 ((((iunpk (rowB bs n)).p + 7) / 8 : Nat) : Int), kv, .int .i64 0]) ∧ w'.ownsRow (w.heap.size + 1) 5 1 ov (iunpk (rowB bs n)).out.length (u8s (iunpk (rowB bs n)).out) ∧ w'.ownsRow (w.heap.size + 1) 3 1 kv (iunpk (rowB bs n)).ks.length (i64s (iunpk (rowB bs n)).ks)) ∨ ((iunpk (rowB bs n)).e ≠ 0 ∧ e = .returned (.tuple #[.slice none 0 0, .int .i64 0, .slice none 0 0, .int .i64 (iunpk (rowB bs n)).e])))
theorem unpackAll_any (a : Option Addr) (n cap : Nat) (bs : List Nat) (w : World) (hl : bs.length = n) (hn : n ≤ 6000) (hby : BytesIn w a bs) (hv : ∀ j, bs.getD j 0 < 256) :
    Calls Try.prog 15 #[.slice a n cap] w fun e w' => Unpd w bs n e w' := by
  refine (unpack_any a n cap bs w hn (iunpk (rowB bs n)) ?_ (iunpk_nn _) (fun e => ?_)).mono (fun e w' h => h)
  · intro No B b W hI h1 h2 h3 h4 hBel
    have hRw : Rd w No a n bs := ⟨hl, hn, hby, hv, fun b o ea hne => h2 b (by
      rcases hby with h0 | ⟨b', o', e', hb', _⟩
      · exact absurd h0 hne
      · rw [ea] at e'; cases e'; exact hb')⟩
    have hRW : Rd W No a n bs := hRw.keep hBel.size (fun g hg _ => hBel.block g hg)
    refine (blocks_any No B b a n cap bs W hI hRW (fun g hg => h1 g (by omega))).mono ?_
    rintro e w' (⟨e0, rfl, hK⟩ | ⟨e0, rfl, hb⟩)
    · obtain ⟨No', f1, f2, hn', hNo', hI', hF', hB'⟩ := hK
      exact .inl ⟨e0, rfl, f1, f2, hI'.weak hn', hB'.below, hB'.kp⟩
    · exact .inr ⟨e0, rfl, hb.below, hb.kp⟩
  · have := (iunpk_ahd (rowB bs n) n (rowB_length bs n) e).2.1
    rw [rowB_length] at this
    omega
/-- of too many bytes -/
theorem unpackMany_any (a : Option Addr) (n cap : Nat) (w : World) (hn : 6000 < n) (hm : n ≤ 9223372036854775807) :
    Calls Try.prog 15 #[.slice a n cap] w fun e w' => e = .returned (.tuple #[.slice none 0 0, .int .i64 0, .slice none 0 0, .int .i64 2]) ∧ w' = w := by
  have hnI : (6000 : Int) < (n : Int) := by omega
  go_enter Try.func15, Try.ntmps15
  go_wp2
  refine bodyPost_ret (v := .tuple #[.slice none 0 0, .int .i64 0, .slice none 0 0, .int .i64 2]) ?_ rfl ⟨rfl, rfl⟩
  first | rfl | kernel_rfl
end Go.Proofs.Ytfoaaamcpknjnac

/-
  The library's bytes.Equal: it answers whether the two rows hold the same bytes.
-/
namespace Go.Proofs.Ytfoaaamcpknjnac
open Go.RowKit
set_option linter.unusedVariables false
set_option maxRecDepth 100000

theorem bequal_runs (v1 v2 : Value) (s1 s2 : ByteArray) (w : World) (h1 : (convert 22 9 v1).run Try.prog w = .ok (.string s1) w) (h2 : (convert 22 9 v2).run Try.prog w = .ok (.string s2) w) :
    Calls Try.prog 11 #[v1, v2] w fun e w' => e = .returned (.bool (s1.toList == s2.toList)) ∧ w' = w := by
  go_enter Try.func11, Try.ntmps11
  go_wp2
  go_ret
  exact ⟨rfl, rfl⟩

/-- the text of these bytes -/
def strN (xs : List Nat) : ByteArray := ⟨(xs.map UInt8.ofNat).toArray⟩
theorem strN_toList (xs : List Nat) : (strN xs).toList = xs.map UInt8.ofNat := by
  rw [Lib.toList_data]; rfl
theorem strN_size (xs : List Nat) : (strN xs).size = xs.length := by simp [strN, ByteArray.size]

theorem conv_in (a : Option Addr) (len cap : Nat) (xs : List Nat) (w : World) (hl : xs.length = len) (hB : BytesIn w a xs) :
    (convert 22 9 (.slice a len cap)).run Try.prog w = .ok (.string (strN xs)) w := by
  rcases hB with rfl | ⟨b, o, rfl, _, hB⟩
  · obtain rfl : len = 0 := by simp at hl; omega
    rw [run_convert_bytes_string w 22 9 5 _ 0 cap Try.underlying22 Try.underlying5 Try.underlying9]
    cases a <;> simp [Conv.bytesToString, loadCells, strN]
    all_goals rfl
  · have h := run_convert_bytes_arg (P := Try.prog) w 22 5 Try.underlying22 Try.underlying5 b o len cap (xs.map fun x : Nat => (x : Int)) (by simpa using hl) (by
      intro i hi
      rw [hB i (by omega)]
      have : i < xs.length := by omega
      simp [List.getD, this]) 9 Try.underlying9
    rw [h]
    simp [strOfNums, strN, Function.comp_def]

theorem ofNat_inj {xs ys : List Nat} (hx : ∀ j, xs.getD j 0 < 256) (hy : ∀ j, ys.getD j 0 < 256) (h : xs.map UInt8.ofNat = ys.map UInt8.ofNat) : xs = ys := by
  have hl : xs.length = ys.length := by have := congrArg List.length h; simpa using this
  apply List.ext_getElem hl
  intro j h1 h2
  have e := congrArg (fun l : List UInt8 => l[j]?) h
  simp [h1, h2] at e
  have a1 := hx j
  have a2 := hy j
  simp [List.getD, h1] at a1
  simp [List.getD, h2] at a2
  have e2 := congrArg UInt8.toNat e
  simp only [UInt8.toNat_ofNat'] at e2
  omega

theorem bequal_in (a1 a2 : Option Addr) (l1 c1 l2 c2 : Nat) (xs ys : List Nat) (w : World) (h1 : xs.length = l1) (h2 : ys.length = l2) (hx : ∀ j, xs.getD j 0 < 256) (hy : ∀ j, ys.getD j 0 < 256) (hB1 : BytesIn w a1 xs) (hB2 : BytesIn w a2 ys) :
    Calls Try.prog 11 #[.slice a1 l1 c1, .slice a2 l2 c2] w fun e w' => e = .returned (.bool (xs == ys)) ∧ w' = w := by
  refine (bequal_runs _ _ (strN xs) (strN ys) w (conv_in a1 l1 c1 xs w h1 hB1) (conv_in a2 l2 c2 ys w h2 hB2)).mono ?_
  rintro e w' ⟨rfl, rfl⟩
  refine ⟨ret_bool ?_, rfl⟩
  rw [strN_toList, strN_toList, Bool.eq_iff_iff, beq_iff_eq, beq_iff_eq]
  exact ⟨ofNat_inj hx hy, fun h => by rw [h]⟩

end Go.Proofs.Ytfoaaamcpknjnac

/-
  The library's slices.Equal on rows of int: it answers whether the two rows hold the same numbers, and changes nothing.
-/
namespace Go.Proofs.Ytfoaaamcpknjnac
open Go.RowKit
set_option linter.unusedVariables false

theorem eq_step {xs ys : List Int} {k : Nat} (h : ∀ j, j < k → xs.getD j 0 = ys.getD j 0) (hk : xs.getD k 0 = ys.getD k 0) : ∀ j, j < k + 1 → xs.getD j 0 = ys.getD j 0 := by
  intro j hj
  by_cases e : j = k
  · rw [e]; exact hk
  · exact h j (by omega)

theorem list_eq_of {xs ys : List Int} {n : Nat} (h1 : xs.length = n) (h2 : ys.length = n) (h : ∀ j, j < n → xs.getD j 0 = ys.getD j 0) : xs = ys := by
  apply List.ext_getElem (by omega)
  intro j hj1 hj2
  have := h j (by omega)
  simpa [List.getD, hj1, hj2] using this

theorem equal_ints (b1 o1 n1 c1 b2 o2 n2 c2 : Nat) (xs ys : List Int) (w : World) (h1l : xs.length = n1) (h2l : ys.length = n2) (hm1 : n1 ≤ 9223372036854775807) (hm2 : n2 ≤ 9223372036854775807)
    (h1 : Row .i64 w b1 o1 xs) (h2 : Row .i64 w b2 o2 ys) :
    Calls Try.prog 18 #[.slice (some ⟨b1, o1, none⟩) n1 c1, .slice (some ⟨b2, o2, none⟩) n2 c2] w fun e w' => e = .returned (.bool (xs == ys)) ∧ ∃ q, w' = w.drewN q := by
  by_cases hn : n1 = n2
  · subst hn
    go_enter Try.func18, Try.ntmps18
    go_wp2
    go_loopw [13] (fun i wr => ∃ k q : Nat, k ≤ n1 ∧ i = .int .i64 k ∧ wr = w.drewN q ∧ ∀ j, j < k → xs.getD j 0 = ys.getD j 0) (fun i _ => n1 - (intOf i).toNat)
    case atStart => exact ⟨0, 0, Nat.zero_le _, rfl, rfl, by omega⟩
    case round =>
      obtain ⟨k, q, hk, rfl, rfl, hall⟩ := hrel
      by_cases hlt : k < n1
      · have c1 := h1 k (by omega)
        have c2 := h2 k (by omega)
        obtain ⟨x, hx⟩ : ∃ x, xs.getD k 0 = x := ⟨_, rfl⟩
        obtain ⟨y, hy⟩ : ∃ y, ys.getD k 0 = y := ⟨_, rfl⟩
        rw [hx] at c1
        rw [hy] at c2
        have HX : Hid (xs.getD k 0 = x) := hx
        have HY : Hid (ys.getD k 0 = y) := hy
        have HA : Hid (∀ j, j < k → xs.getD j 0 = ys.getD j 0) := hall
        clear hall hx hy h1 h2
        by_cases hxy : x = y
        · have hb : (x != y) = false := by simp [hxy]
          have HXY : Hid (x = y) := hxy
          clear hxy
          go_wp2_with fail
          go_quiet (fail)
          go_wp2
          go_roundw
          case rel => exact ⟨k + 1, _, by omega, by go_num, rfl, eq_step HA.out (by rw [HX.out, HY.out]; exact HXY.out)⟩
          case measure => simp [intOf]; omega
        · have hb : (x != y) = true := by simp [hxy]
          have HXY : Hid (¬ x = y) := hxy
          clear hxy
          go_wp2_with fail
          go_quiet (fail)
          go_wp2
          go_ret
          have hne : (xs == ys) = false := by
            rw [beq_eq_false_iff_ne]
            intro e
            exact HXY.out (by rw [← HX.out, ← HY.out, e])
          rw [hne]
          exact ⟨rfl, _, World.drewN_drewN _ _ _⟩
      · have hkn : k = n1 := by omega
        have he : (xs == ys) = true := by
          rw [beq_iff_eq]
          exact list_eq_of h1l h2l (by rw [← hkn]; exact hall)
        clear hall h1 h2
        go_wp2
        go_ret
        rw [he]
        exact ⟨rfl, _, rfl⟩
  · have hne : (xs == ys) = false := by
      rw [beq_eq_false_iff_ne]
      intro e
      exact hn (by rw [← h1l, ← h2l, e])
    have hb : ((n1 : Int) != (n2 : Int)) = true := by
      rw [bne_iff_ne]
      omega
    clear h1 h2
    go_enter Try.func18, Try.ntmps18
    go_wp2
    go_ret
    rw [hne]
    exact ⟨rfl, 0, rfl⟩
end Go.Proofs.Ytfoaaamcpknjnac

/-
  slices.Equal on rows of numbers that may be nil.
-/
namespace Go.Proofs.Ytfoaaamcpknjnac
open Go.RowKit
set_option linter.unusedVariables false

theorem equal_in (a1 a2 : Option Addr) (n1 c1 n2 c2 : Nat) (xs ys : List Int) (w : World) (h1l : xs.length = n1) (h2l : ys.length = n2) (hm1 : n1 ≤ 9223372036854775807) (hm2 : n2 ≤ 9223372036854775807) (h1 : RowIn .i64 w a1 xs) (h2 : RowIn .i64 w a2 ys) :
    Calls Try.prog 18 #[.slice a1 n1 c1, .slice a2 n2 c2] w fun e w' => e = .returned (.bool (xs == ys)) ∧ ∃ q, w' = w.drewN q := by
  by_cases hn : n1 = n2
  · subst hn
    rcases h1 with rfl | ⟨b1, o1, rfl, _, h1⟩
    · obtain rfl : n1 = 0 := by simp at h1l; omega
      obtain rfl : ys = [] := List.eq_nil_of_length_eq_zero h2l
      clear h2
      go_enter Try.func18, Try.ntmps18
      go_wp2
      go_loop [13] (fun i => i = .int .i64 0) (fun i => 0)
      case atStart => exact rfl
      case round =>
        obtain rfl := hrel
        go_wp2
        go_ret
        exact ⟨rfl, 0, rfl⟩
    · rcases h2 with rfl | ⟨b2, o2, rfl, _, h2⟩
      · obtain rfl : n1 = 0 := by simp at h2l; omega
        obtain rfl : xs = [] := List.eq_nil_of_length_eq_zero h1l
        clear h1
        go_enter Try.func18, Try.ntmps18
        go_wp2
        go_loop [13] (fun i => i = .int .i64 0) (fun i => 0)
        case atStart => exact rfl
        case round =>
          obtain rfl := hrel
          go_wp2
          go_ret
          exact ⟨rfl, 0, rfl⟩
      · exact equal_ints b1 o1 n1 c1 b2 o2 n1 c2 xs ys w h1l h2l hm1 hm2 h1 h2
  · have hne : (xs == ys) = false := by
      rw [beq_eq_false_iff_ne]
      intro e
      exact hn (by rw [← h1l, ← h2l, e])
    have hb : ((n1 : Int) != (n2 : Int)) = true := by
      rw [bne_iff_ne]
      omega
    clear h1 h2
    go_enter Try.func18, Try.ntmps18
    go_wp2
    go_ret
    rw [hne]
    exact ⟨rfl, 0, rfl⟩

end Go.Proofs.Ytfoaaamcpknjnac

/-
  The closed fact that the statements on package inflate ask for first: it is true.
-/
namespace Go.Proofs.Ytfoaaamcpknjnac
open Go.RowKit
set_option linter.unusedVariables false
set_option maxRecDepth 100000

theorem ltA {l : List Nat} (h : l.all (fun x => decide (x < 256)) = true) (j : Nat) : l.getD j 0 < 256 := by
  by_cases hj : j < l.length
  · have := List.all_eq_true.1 h l[j] (List.getElem_mem hj)
    have := of_decide_eq_true this
    simpa [List.getD, hj] using this
  · simp only [List.getD]
    rw [List.getElem?_eq_none (by omega)]
    decide
theorem bytesNew (w : World) (xs : List Nat) (t : TypeId) (A : Array Value) (b : Nat) (hb : b = w.heap.size) (hA : A = (u8s xs).toArray) : Bytes (w.alloc (.cells A t)) b 0 xs := by
  intro j hj
  rw [World.cell?_alloc_at _ _ _ _ (by rw [hb]), hA]
  simp [List.getD, hj]
def infB : List Nat := [0, 1, 0, 254, 255, 120, 3, 0, 9]
theorem code256 : codeT fixA 256 = List.replicate 7 false := by decide +kernel
theorem inf_row : iunpk (rowB infB 9) = ⟨58, [120], [0, 1], 0⟩ := by
  have hl : (rowB infB 9).length = 72 := rowB_length infB 9
  have u1 : uget (rowB infB 9) 1 US0 = (0, ⟨1, [], [], 0⟩) := by kernel_rfl
  have u2 : uget (rowB infB 9) 2 ⟨1, [], [], 0⟩ = (0, ⟨3, [], [], 0⟩) := by kernel_rfl
  have u3 : ikind (rowB infB 9) 0 ⟨3, [], [], 0⟩ = ⟨48, [120], [0], 0⟩ := by
    unfold ikind
    rw [if_pos rfl]
    kernel_rfl
  have b1 : iblock (rowB infB 9) US0 = (0, ⟨48, [120], [0], 0⟩) := by
    unfold iblock
    rw [u1]
    simp only
    rw [if_neg (by decide), u2]
    simp only
    rw [if_neg (by decide), u3]
  have v1 : uget (rowB infB 9) 1 ⟨48, [120], [0], 0⟩ = (1, ⟨49, [120], [0], 0⟩) := by kernel_rfl
  have v2 : uget (rowB infB 9) 2 ⟨49, [120], [0], 0⟩ = (1, ⟨51, [120], [0], 0⟩) := by kernel_rfl
  have v3 : uplace fixA (rowB infB 9) ⟨51, [120], [0], 0⟩ = (256, ⟨58, [120], [0], 0⟩) := by
    have := uplace_ok fixA fixA_ok (rowB infB 9) 256 ⟨51, [120], [0], 0⟩ rfl (by decide +kernel) (by rw [code256]; decide) (by rw [code256, hl]; decide) (by rw [code256]; decide +kernel)
    rw [code256] at this
    exact this
  have b2 : iblock (rowB infB 9) ⟨48, [120], [0], 0⟩ = (1, ⟨58, [120], [0, 1], 0⟩) := by
    unfold iblock
    rw [v1]
    simp only
    rw [if_neg (by decide), v2]
    simp only
    rw [if_neg (by decide)]
    unfold ikind
    rw [if_neg (by decide), if_pos rfl, itoks_succ, v3]
    simp only
    rw [if_neg (by decide), if_pos trivial]
    rfl
  unfold iunpk
  rw [hl, iblocks, b1]
  simp only
  rw [if_pos ⟨trivial, trivial⟩, iblocks, b2]
  simp

set_option maxHeartbeats 1000000 in
theorem inflated_any (w : World) : Calls Try.prog 16 #[] w fun e w' => e = .returned (.bool true) ∧ Below w.heap.size w w' := by
  have HU : Hid (∀ X : Obj, X = .cells #[.int .u8 0, .int .u8 1, .int .u8 0, .int .u8 254, .int .u8 255, .int .u8 120, .int .u8 3, .int .u8 0, .int .u8 9] 5 → Calls Try.prog 15 #[.slice (some ⟨w.heap.size, 0, none⟩) 9 9] (w.alloc X) fun e w' => Below w.heap.size w w' ∧ ∃ g c h d, e = .returned (.tuple #[.slice (some ⟨g, 0, none⟩) 1 c, .int .i64 8, .slice (some ⟨h, 0, none⟩) 2 d, .int .i64 0]) ∧ BytesIn w' (some ⟨g, 0, none⟩) [120] ∧ RowIn .i64 w' (some ⟨h, 0, none⟩) [0, 1]) := hide (fun X hX => by
    subst hX
    refine (unpackAll_any (some ⟨w.heap.size, 0, none⟩) 9 9 infB _ rfl (by decide) (.inr ⟨_, 0, rfl, by simp, bytesNew w infB _ _ _ rfl rfl⟩) (ltA (by decide))).mono ?_
    rintro e w' ⟨hB, hd⟩
    refine ⟨((Below.refl w.heap.size w).alloc (Nat.le_refl _) _).trans (hB.mono (by simp)), ?_⟩
    rw [inf_row] at hd
    rcases hd with ⟨_, ov, kv, rfl, ho, hk⟩ | ⟨h0, _⟩
    · obtain ⟨g, c, rfl, _, _⟩ := own_shape ho (by decide)
      obtain ⟨h, d, rfl, _, _⟩ := own_shape hk (by decide)
      obtain ⟨_, a1, c1, e1, hb⟩ := BytesIn.ofOwn ho
      cases e1
      exact ⟨g, _, h, _, rfl, hb, RowIn.own hk⟩
    · exact absurd rfl h0)
  go_enter Try.func16, Try.ntmps16
  go_wp2_with fail
  refine (unhide HU _ rfl).mono ?_
  rintro e w1 ⟨hB1, g, c, h, d, rfl, hb1, hk1⟩
  have hcv := conv_in (some ⟨g, 0, none⟩) 1 c [120] w1 rfl hb1
  have hst : strN [120] = ⟨#[120]⟩ := rfl
  rw [hst] at hcv
  have HQ : Hid (∀ X : Obj, X = .cells #[.int .i64 0, .int .i64 1] 3 → Calls Try.prog 18 #[.slice (some ⟨h, 0, none⟩) 2 d, .slice (some ⟨w1.heap.size, 0, none⟩) 2 2] (w1.alloc X) fun e w' => e = .returned (.bool true) ∧ Below w.heap.size w w') := hide (fun X hX => by
    subst hX
    refine (equal_in (some ⟨h, 0, none⟩) (some ⟨w1.heap.size, 0, none⟩) 2 d 2 2 [0, 1] [0, 1] _ rfl rfl (by decide) (by decide) (hk1.alloc _) (.inr ⟨_, 0, rfl, by simp, fun j hj => ?_⟩)).mono ?_
    · rw [Nat.zero_add, cell_of_row _ _ _ _ _ _ (heap_alloc_new w1 _)]
      match j, hj with
      | 0, _ => rfl
      | 1, _ => rfl
    · rintro e w' ⟨rfl, q, rfl⟩
      exact ⟨rfl, below_drewN (hB1.alloc hB1.size _) q⟩)
  clear hB1 hb1 hk1 HU hst
  go_wp2_with fail
  refine (unhide HQ _ rfl).mono ?_
  rintro e w2 ⟨rfl, hB2⟩
  have HB2 := hide hB2
  clear hB2
  go_wp2
  go_ret
  exact ⟨rfl, unhide HB2⟩
end Go.Proofs.Ytfoaaamcpknjnac

/-
  Package inflate, of bits alone: where the document's reader finds nothing wrong, a Stored block is read as the document reads it.
-/
namespace Go.Proofs.Ytfoaaamcpknjnac
set_option linter.unusedVariables false

theorem istore_full (row : List Bool) : ∀ (k : Nat) (x : US), x.out.length ≤ 3000 → 3000 < x.out.length + k → (ustore row k x).e ≠ 0
  | 0, x, h1, h2 => by omega
  | k + 1, x, h1, h2 => by
    by_cases e : x.e = 0
    · unfold ustore
      rw [if_pos e]
      obtain ⟨c, y, hg⟩ : ∃ c y, uget row 8 x = (c, y) := ⟨_, _, rfl⟩
      have ho : y.out = x.out := by have := iget_out row 8 x; rw [hg] at this; exact this
      rw [hg]
      show (ustore row k (usay c y)).e ≠ 0
      by_cases e2 : y.e = 0
      · by_cases e3 : y.out.length = 3000
        · have : usay c y = { y with e := 2 } := by unfold usay; rw [if_pos e2, if_pos e3]
          rw [this, ustore_bad _ _ _ (show (2 : Int) ≠ 0 by decide)]
          exact (by decide : (2 : Int) ≠ 0)
        · have : usay c y = { y with out := y.out ++ [c] } := by unfold usay; rw [if_pos e2, if_neg e3]
          rw [this]
          refine istore_full row k _ ?_ ?_
          · show (y.out ++ [c]).length ≤ 3000
            rw [List.length_append, ho]
            rw [ho] at e3
            simp only [List.length_cons, List.length_nil]
            omega
          · show 3000 < (y.out ++ [c]).length + k
            rw [List.length_append, ho]
            simp only [List.length_cons, List.length_nil]
            omega
      · have : usay c y = y := by unfold usay; rw [if_neg e2]
        rw [this, ustore_bad _ _ _ e2]
        exact e2
    · rw [ustore_bad _ _ _ e]
      exact e

theorem istored_ok (row : List Bool) (u : US) (ho : u.out.length ≤ 3000) (h : (ustored row u).e = 0) : istored row u = ustored row u := by
  have hx : ustored row u = ustore row (istored1 row u).1 (istored1 row u).2 := rfl
  have h1 : (istored1 row u).2.out = u.out := by
    unfold istored1
    dsimp only
    split
    · unfold uwrong
      split
      · show (uget row 16 _).2.out = _
        rw [iget_out, iget_out]
      · rw [iget_out, iget_out]
    · rw [iget_out, iget_out]
  unfold istored
  dsimp only
  rw [if_neg, hx]
  rintro ⟨_, h3⟩
  rw [hx] at h
  exact istore_full row _ _ (by rw [h1]; exact ho) h3 h
end Go.Proofs.Ytfoaaamcpknjnac
