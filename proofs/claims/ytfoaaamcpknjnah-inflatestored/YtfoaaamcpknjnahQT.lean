/-
  Package inflate, of bits alone: no error is below nothing.
-/
import Derived.Test.YtfoaaamcpknjnahIun0
import Derived.Test.YtfoaaamcpknjnahCod7
import Derived.Test.YtfoaaamcpknjnahIun3
import Derived.Test.YtfoaaamcpknjnahIn0
import Derived.Laws.BytesArg
import Derived.Lib.Strings
import Derived.Test.YtfoaaamcpknjnahKit
import Derived.Test.YtfoaaamcpknjnahStoB
import Derived.Maps.AppendAt
import Derived.Laws.AppendOwnNone
import Derived.Deep.OwnRows
import Derived.Deep.Slices
import Derived.SizedLaws
import Derived.Deep.Matrix
namespace Go.Proofs.Ytfoaaamcpknjnah
set_option linter.unusedVariables false
set_option maxRecDepth 100000

theorem uget_nn (row : List Bool) (n : Nat) (u : US) (h : 0 ≤ u.e) : 0 ≤ (uget row n u).2.e := by
  unfold uget
  split
  · split
    · exact (by decide : (0 : Int) ≤ 7)
    · exact h
  · exact h
theorem nextF_nn (l : List Int) (row : List Bool) (p : Nat) : ∀ f n, 0 ≤ (nextF l row p f n).2.2
  | 0, n => (by decide : (0 : Int) ≤ 8)
  | f + 1, n => by
    unfold nextF
    split
    · exact (by decide : (0 : Int) ≤ 7)
    · split
      · exact (by decide : (0 : Int) ≤ 0)
      · exact nextF_nn l row p f (n + 1)
theorem uplace_nn (l : List Int) (row : List Bool) (u : US) (h : 0 ≤ u.e) : 0 ≤ (uplace l row u).2.e := by
  unfold uplace
  split
  · exact nextF_nn l row u.p 15 1
  · exact h
theorem uwrong_nn (x : Int) (u : US) (hx : 0 ≤ x) (h : 0 ≤ u.e) : 0 ≤ (uwrong x u).e := by
  unfold uwrong
  split
  · exact hx
  · exact h
theorem usay_nn (c : Nat) (u : US) (h : 0 ≤ u.e) : 0 ≤ (usay c u).e := by
  unfold usay
  split
  · split
    · exact (by decide : (0 : Int) ≤ 2)
    · exact h
  · exact h
theorem ustore_nn (row : List Bool) : ∀ (k : Nat) (u : US), 0 ≤ u.e → 0 ≤ (ustore row k u).e
  | 0, u, h => h
  | k + 1, u, h => by
    unfold ustore
    split
    · exact ustore_nn row k _ (usay_nn _ _ (uget_nn _ _ _ h))
    · exact h
theorem ucopy_nn (d : Nat) : ∀ (k : Nat) (u : US), 0 ≤ u.e → 0 ≤ (ucopy d k u).e
  | 0, u, h => h
  | k + 1, u, h => by
    unfold ucopy
    split
    · exact ucopy_nn d k _ (usay_nn _ _ h)
    · exact h
theorem istored_nn (row : List Bool) (u : US) (h : 0 ≤ u.e) : 0 ≤ (istored row u).e := by
  have h1 : 0 ≤ (istored1 row u).2.e := by
    unfold istored1
    dsimp only
    split
    · exact uwrong_nn _ _ (by decide) (uget_nn _ _ _ (uget_nn _ _ _ h))
    · exact uget_nn _ _ _ (uget_nn _ _ _ h)
  unfold istored
  dsimp only
  split
  · exact uwrong_nn _ _ (by decide) h1
  · exact ustore_nn _ _ _ h1
theorem ihow_nn (row : List Bool) (l : List Int) (u : US) (h : 0 ≤ u.e) : 0 ≤ (ihow row l u).2.e := by
  unfold ihow
  split
  · exact uplace_nn _ _ _ h
  · split
    · exact (by decide : (0 : Int) ≤ 8)
    · exact uget_nn _ _ _ (uplace_nn _ _ _ h)
theorem iback_nn (d k : Nat) (u : US) (h : 0 ≤ u.e) : 0 ≤ (iback d k u).e := by
  unfold iback
  split
  · exact (by decide : (0 : Int) ≤ 9)
  · split
    · exact (by decide : (0 : Int) ≤ 2)
    · exact ucopy_nn _ _ _ h
theorem istep_nn (row : List Bool) (lb : List Int) (k : Nat) (u : US) (h : 0 ≤ u.e) : 0 ≤ (istep row lb k u).e := by
  unfold istep
  split
  · split
    · exact (by decide : (0 : Int) ≤ 2)
    · exact h
  · split
    · exact (by decide : (0 : Int) ≤ 8)
    · split
      · exact uget_nn _ _ _ h
      · split
        · exact ihow_nn _ _ _ (uget_nn _ _ _ h)
        · exact iback_nn _ _ _ (ihow_nn _ _ _ (uget_nn _ _ _ h))
theorem itoks_nn (row : List Bool) (la lb : List Int) : ∀ (f : Nat) (u : US), 0 ≤ u.e → 0 ≤ (itoks row la lb f u).e
  | 0, u, h => by
    unfold itoks
    split
    · exact uplace_nn _ _ _ h
    · exact uplace_nn _ _ _ h
  | f + 1, u, h => by
    rw [itoks_succ]
    split
    · exact uplace_nn _ _ _ h
    · split
      · exact uplace_nn _ _ _ h
      · split
        · exact istep_nn _ _ _ _ (uplace_nn _ _ _ h)
        · exact itoks_nn row la lb f _ (istep_nn _ _ _ _ (uplace_nn _ _ _ h))
theorem usmall_nn (row : List Bool) : ∀ (ks : List Nat) (s : List Int) (u : US), 0 ≤ u.e → 0 ≤ (usmall row ks s u).2.e
  | [], s, u, h => h
  | k :: r, s, u, h => by
    rw [usmall]
    exact usmall_nn row r _ _ (uget_nn _ _ _ h)
theorem ukind_nn (row : List Bool) (l : List Int) (k : Nat) (u : US) (h : 0 ≤ u.e) : 0 ≤ (ukind row l k u).2.2.e := by
  unfold ukind
  split
  · split
    · exact uwrong_nn _ _ (by decide) h
    · exact uget_nn _ _ _ h
  · split
    · exact uget_nn _ _ _ h
    · split
      · exact uget_nn _ _ _ h
      · exact h
theorem umore_nn (tot : Nat) (l : List Int) (r : Int × Nat × US) (h : 0 ≤ r.2.2.e) : 0 ≤ (umore tot l r).2.e := by
  unfold umore
  dsimp only
  split
  · exact uwrong_nn _ _ (by decide) h
  · exact h
theorem ulens_nn (row : List Bool) (S : List Int) (tot : Nat) : ∀ (F : Nat) (l : List Int) (u : US), 0 ≤ u.e → 0 ≤ (ulens row S tot F l u).2.e
  | 0, l, u, h => h
  | F + 1, l, u, h => by
    rw [ulens]
    split
    · exact ulens_nn row S tot F _ _ (umore_nn _ _ _ (ukind_nn _ _ _ _ (uplace_nn _ _ _ h)))
    · exact h
theorem utold_nn (row : List Bool) (u : US) (h : 0 ≤ u.e) : 0 ≤ (utold row u).2.e := by
  unfold utold
  dsimp only
  have h3 := uget_nn row 4 _ (uget_nn row 5 _ (uget_nn row 5 u h))
  generalize (uget row 5 u).1 = m0 at *
  generalize (uget row 5 (uget row 5 u).2).1 = n0 at *
  generalize uget row 4 (uget row 5 (uget row 5 u).2).2 = g at *
  have hs : 0 ≤ (utoldS row (m0 + 257) (n0 + 1) (g.1 + 4) g.2).2.e := by
    unfold utoldS
    refine usmall_nn _ _ _ _ ?_
    split
    · exact uwrong_nn _ _ (by decide) h3
    · exact h3
  generalize utoldS row (m0 + 257) (n0 + 1) (g.1 + 4) g.2 = s at *
  have hc : 0 ≤ (uchk s).e := by
    unfold uchk
    split
    · exact uwrong_nn _ _ (by decide) hs
    · exact hs
  unfold utoldL
  split
  · exact hc
  · have hl := ulens_nn row s.1 (m0 + 257 + (n0 + 1)) (m0 + 257 + (n0 + 1)) [] (uchk s) hc
    generalize ulens row s.1 (m0 + 257 + (n0 + 1)) (m0 + 257 + (n0 + 1)) [] (uchk s) = r at *
    unfold utoldE
    split
    · exact hl
    · split
      · exact uwrong_nn _ _ (by decide) hl
      · exact hl
theorem ikeep_nn (k : Nat) (u : US) (h : 0 ≤ u.e) : 0 ≤ (ikeep k u).e := by
  unfold ikeep
  split
  · exact h
  · exact h
theorem ikind_nn (row : List Bool) (k : Nat) (u : US) (h : 0 ≤ u.e) : 0 ≤ (ikind row k u).e := by
  unfold ikind
  split
  · exact ikeep_nn _ _ (istored_nn _ _ h)
  · split
    · exact ikeep_nn _ _ (itoks_nn _ _ _ _ _ h)
    · split
      · split
        · exact utold_nn _ _ h
        · exact ikeep_nn _ _ (itoks_nn _ _ _ _ _ (utold_nn _ _ h))
      · exact (by decide : (0 : Int) ≤ 4)
theorem iblock_nn (row : List Bool) (u : US) (h : 0 ≤ u.e) : 0 ≤ (iblock row u).2.e := by
  unfold iblock
  split
  · exact uget_nn _ _ _ h
  · split
    · exact uget_nn _ _ _ (uget_nn _ _ _ h)
    · exact ikind_nn _ _ _ (uget_nn _ _ _ (uget_nn _ _ _ h))
theorem iblocks_nn (row : List Bool) : ∀ (F : Nat) (u : US), 0 ≤ u.e → 0 ≤ (iblocks row F u).e
  | 0, u, h => h
  | F + 1, u, h => by
    rw [iblocks]
    split
    · exact iblocks_nn row F _ (iblock_nn row u h)
    · exact iblock_nn row u h
theorem iunpk_nn (row : List Bool) : 0 ≤ (iunpk row).e := iblocks_nn row _ _ (by decide)
end Go.Proofs.Ytfoaaamcpknjnah

/-
  Package inflate: Unpack of any row, whole.
-/
namespace Go.Proofs.Ytfoaaamcpknjnah
open Go.RowKit
set_option linter.unusedVariables false
set_option maxRecDepth 100000

/-- what Unpack answers of the bytes bs -/
def Unpd (w : World) (bs : List Nat) (n : Nat) (e : Ending) (w' : World) : Prop :=
  Below w.heap.size w w' ∧ (((iunpk (rowB bs n)).e = 0 ∧ ∃ ov kv, e = .returned (.tuple #[ov, .int .i64 ((((iunpk (rowB bs n)).p + 7) / 8 : Nat) : Int), kv, .int .i64 0]) ∧ w'.ownsRow (w.heap.size + 1) 5 1 ov (iunpk (rowB bs n)).out.length (u8s (iunpk (rowB bs n)).out) ∧ w'.ownsRow (w.heap.size + 1) 3 1 kv (iunpk (rowB bs n)).ks.length (i64s (iunpk (rowB bs n)).ks)) ∨ ((iunpk (rowB bs n)).e ≠ 0 ∧ e = .returned (.tuple #[.slice none 0 0, .int .i64 0, .slice none 0 0, .int .i64 (iunpk (rowB bs n)).e])))
theorem unpackAll_any (a : Option Addr) (n cap : Nat) (bs : List Nat) (w : World) (hl : bs.length = n) (hn : n ≤ 6000) (hby : BytesIn w a bs) (hv : ∀ j, bs.getD j 0 < 256) :
    Calls Try.prog 22 #[.slice a n cap] w fun e w' => Unpd w bs n e w' := by
  refine (unpack_any a n cap bs w hn (iunpk (rowB bs n)) ?_ (iunpk_nn _) (fun e => ?_)).mono (fun e w' h => h)
  · intro No B b W hI h1 h2 h3 h4 hBel
    have hRw : Rd w No a n bs := ⟨hl, hn, hby, hv, fun b o ea hne => h2 b (by
      rcases hby with h0 | ⟨b', o', e', hb', _⟩
      · exact absurd h0 hne
      · rw [ea] at e'; cases e'; exact hb')⟩
    have hRW : Rd W No a n bs := hRw.keep hBel.size (fun g hg _ => hBel.block g hg)
    refine (blocks_any No B b a n cap bs W hI hRW (fun g hg => h1 g (by omega))).mono ?_
    rintro e w' (⟨e0, rfl, hK⟩ | ⟨e0, rfl, hb⟩)
    · obtain ⟨No', f1, f2, hn', hNo', hI', hF', hB'⟩ := hK
      exact .inl ⟨e0, rfl, f1, f2, hI'.weak hn', hB'.below, hB'.kp⟩
    · exact .inr ⟨e0, rfl, hb.below, hb.kp⟩
  · have := (iunpk_ahd (rowB bs n) n (rowB_length bs n) e).2.1
    rw [rowB_length] at this
    omega
/-- of too many bytes -/
theorem unpackMany_any (a : Option Addr) (n cap : Nat) (w : World) (hn : 6000 < n) (hm : n ≤ 9223372036854775807) :
    Calls Try.prog 22 #[.slice a n cap] w fun e w' => e = .returned (.tuple #[.slice none 0 0, .int .i64 0, .slice none 0 0, .int .i64 2]) ∧ w' = w := by
  have hnI : (6000 : Int) < (n : Int) := by omega
  go_enter Try.func22, Try.ntmps22
  go_wp2
  refine bodyPost_ret (v := .tuple #[.slice none 0 0, .int .i64 0, .slice none 0 0, .int .i64 2]) ?_ rfl ⟨rfl, rfl⟩
  first | rfl | kernel_rfl
end Go.Proofs.Ytfoaaamcpknjnah

/-
  The library's bytes.Equal: it answers whether the two rows hold the same bytes.
-/
namespace Go.Proofs.Ytfoaaamcpknjnah
open Go.RowKit
set_option linter.unusedVariables false
set_option maxRecDepth 100000

theorem bequal_runs (v1 v2 : Value) (s1 s2 : ByteArray) (w : World) (h1 : (convert 23 9 v1).run Try.prog w = .ok (.string s1) w) (h2 : (convert 23 9 v2).run Try.prog w = .ok (.string s2) w) :
    Calls Try.prog 24 #[v1, v2] w fun e w' => e = .returned (.bool (s1.toList == s2.toList)) ∧ w' = w := by
  go_enter Try.func24, Try.ntmps24
  go_wp2
  go_ret
  exact ⟨rfl, rfl⟩

/-- the text of these bytes -/
def strN (xs : List Nat) : ByteArray := ⟨(xs.map UInt8.ofNat).toArray⟩
theorem strN_toList (xs : List Nat) : (strN xs).toList = xs.map UInt8.ofNat := by
  rw [Lib.toList_data]; rfl
theorem strN_size (xs : List Nat) : (strN xs).size = xs.length := by simp [strN, ByteArray.size]

theorem conv_in (a : Option Addr) (len cap : Nat) (xs : List Nat) (w : World) (hl : xs.length = len) (hB : BytesIn w a xs) :
    (convert 23 9 (.slice a len cap)).run Try.prog w = .ok (.string (strN xs)) w := by
  rcases hB with rfl | ⟨b, o, rfl, _, hB⟩
  · obtain rfl : len = 0 := by simp at hl; omega
    rw [run_convert_bytes_string w 23 9 5 _ 0 cap Try.underlying23 Try.underlying5 Try.underlying9]
    cases a <;> simp [Conv.bytesToString, loadCells, strN]
    all_goals rfl
  · have h := run_convert_bytes_arg (P := Try.prog) w 23 5 Try.underlying23 Try.underlying5 b o len cap (xs.map fun x : Nat => (x : Int)) (by simpa using hl) (by
      intro i hi
      rw [hB i (by omega)]
      have : i < xs.length := by omega
      simp [List.getD, this]) 9 Try.underlying9
    rw [h]
    simp [strOfNums, strN, Function.comp_def]

theorem ofNat_inj {xs ys : List Nat} (hx : ∀ j, xs.getD j 0 < 256) (hy : ∀ j, ys.getD j 0 < 256) (h : xs.map UInt8.ofNat = ys.map UInt8.ofNat) : xs = ys := by
  have hl : xs.length = ys.length := by have := congrArg List.length h; simpa using this
  apply List.ext_getElem hl
  intro j h1 h2
  have e := congrArg (fun l : List UInt8 => l[j]?) h
  simp [h1, h2] at e
  have a1 := hx j
  have a2 := hy j
  simp [List.getD, h1] at a1
  simp [List.getD, h2] at a2
  have e2 := congrArg UInt8.toNat e
  simp only [UInt8.toNat_ofNat'] at e2
  omega

theorem bequal_in (a1 a2 : Option Addr) (l1 c1 l2 c2 : Nat) (xs ys : List Nat) (w : World) (h1 : xs.length = l1) (h2 : ys.length = l2) (hx : ∀ j, xs.getD j 0 < 256) (hy : ∀ j, ys.getD j 0 < 256) (hB1 : BytesIn w a1 xs) (hB2 : BytesIn w a2 ys) :
    Calls Try.prog 24 #[.slice a1 l1 c1, .slice a2 l2 c2] w fun e w' => e = .returned (.bool (xs == ys)) ∧ w' = w := by
  refine (bequal_runs _ _ (strN xs) (strN ys) w (conv_in a1 l1 c1 xs w h1 hB1) (conv_in a2 l2 c2 ys w h2 hB2)).mono ?_
  rintro e w' ⟨rfl, rfl⟩
  refine ⟨ret_bool ?_, rfl⟩
  rw [strN_toList, strN_toList, Bool.eq_iff_iff, beq_iff_eq, beq_iff_eq]
  exact ⟨ofNat_inj hx hy, fun h => by rw [h]⟩

end Go.Proofs.Ytfoaaamcpknjnah

/-
  The library's slices.Equal on rows of int: it answers whether the two rows hold the same numbers, and changes nothing.
-/
namespace Go.Proofs.Ytfoaaamcpknjnah
open Go.RowKit
set_option linter.unusedVariables false

theorem eq_step {xs ys : List Int} {k : Nat} (h : ∀ j, j < k → xs.getD j 0 = ys.getD j 0) (hk : xs.getD k 0 = ys.getD k 0) : ∀ j, j < k + 1 → xs.getD j 0 = ys.getD j 0 := by
  intro j hj
  by_cases e : j = k
  · rw [e]; exact hk
  · exact h j (by omega)

theorem list_eq_of {xs ys : List Int} {n : Nat} (h1 : xs.length = n) (h2 : ys.length = n) (h : ∀ j, j < n → xs.getD j 0 = ys.getD j 0) : xs = ys := by
  apply List.ext_getElem (by omega)
  intro j hj1 hj2
  have := h j (by omega)
  simpa [List.getD, hj1, hj2] using this

theorem equal_ints (b1 o1 n1 c1 b2 o2 n2 c2 : Nat) (xs ys : List Int) (w : World) (h1l : xs.length = n1) (h2l : ys.length = n2) (hm1 : n1 ≤ 9223372036854775807) (hm2 : n2 ≤ 9223372036854775807)
    (h1 : Row .i64 w b1 o1 xs) (h2 : Row .i64 w b2 o2 ys) :
    Calls Try.prog 25 #[.slice (some ⟨b1, o1, none⟩) n1 c1, .slice (some ⟨b2, o2, none⟩) n2 c2] w fun e w' => e = .returned (.bool (xs == ys)) ∧ ∃ q, w' = w.drewN q := by
  by_cases hn : n1 = n2
  · subst hn
    go_enter Try.func25, Try.ntmps25
    go_wp2
    go_loopw [13] (fun i wr => ∃ k q : Nat, k ≤ n1 ∧ i = .int .i64 k ∧ wr = w.drewN q ∧ ∀ j, j < k → xs.getD j 0 = ys.getD j 0) (fun i _ => n1 - (intOf i).toNat)
    case atStart => exact ⟨0, 0, Nat.zero_le _, rfl, rfl, by omega⟩
    case round =>
      obtain ⟨k, q, hk, rfl, rfl, hall⟩ := hrel
      by_cases hlt : k < n1
      · have c1 := h1 k (by omega)
        have c2 := h2 k (by omega)
        obtain ⟨x, hx⟩ : ∃ x, xs.getD k 0 = x := ⟨_, rfl⟩
        obtain ⟨y, hy⟩ : ∃ y, ys.getD k 0 = y := ⟨_, rfl⟩
        rw [hx] at c1
        rw [hy] at c2
        have HX : Hid (xs.getD k 0 = x) := hx
        have HY : Hid (ys.getD k 0 = y) := hy
        have HA : Hid (∀ j, j < k → xs.getD j 0 = ys.getD j 0) := hall
        clear hall hx hy h1 h2
        by_cases hxy : x = y
        · have hb : (x != y) = false := by simp [hxy]
          have HXY : Hid (x = y) := hxy
          clear hxy
          go_wp2_with fail
          go_quiet (fail)
          go_wp2
          go_roundw
          case rel => exact ⟨k + 1, _, by omega, by go_num, rfl, eq_step HA.out (by rw [HX.out, HY.out]; exact HXY.out)⟩
          case measure => simp [intOf]; omega
        · have hb : (x != y) = true := by simp [hxy]
          have HXY : Hid (¬ x = y) := hxy
          clear hxy
          go_wp2_with fail
          go_quiet (fail)
          go_wp2
          go_ret
          have hne : (xs == ys) = false := by
            rw [beq_eq_false_iff_ne]
            intro e
            exact HXY.out (by rw [← HX.out, ← HY.out, e])
          rw [hne]
          exact ⟨rfl, _, World.drewN_drewN _ _ _⟩
      · have hkn : k = n1 := by omega
        have he : (xs == ys) = true := by
          rw [beq_iff_eq]
          exact list_eq_of h1l h2l (by rw [← hkn]; exact hall)
        clear hall h1 h2
        go_wp2
        go_ret
        rw [he]
        exact ⟨rfl, _, rfl⟩
  · have hne : (xs == ys) = false := by
      rw [beq_eq_false_iff_ne]
      intro e
      exact hn (by rw [← h1l, ← h2l, e])
    have hb : ((n1 : Int) != (n2 : Int)) = true := by
      rw [bne_iff_ne]
      omega
    clear h1 h2
    go_enter Try.func25, Try.ntmps25
    go_wp2
    go_ret
    rw [hne]
    exact ⟨rfl, 0, rfl⟩
end Go.Proofs.Ytfoaaamcpknjnah

/-
  slices.Equal on rows of numbers that may be nil.
-/
namespace Go.Proofs.Ytfoaaamcpknjnah
open Go.RowKit
set_option linter.unusedVariables false

theorem equal_in (a1 a2 : Option Addr) (n1 c1 n2 c2 : Nat) (xs ys : List Int) (w : World) (h1l : xs.length = n1) (h2l : ys.length = n2) (hm1 : n1 ≤ 9223372036854775807) (hm2 : n2 ≤ 9223372036854775807) (h1 : RowIn .i64 w a1 xs) (h2 : RowIn .i64 w a2 ys) :
    Calls Try.prog 25 #[.slice a1 n1 c1, .slice a2 n2 c2] w fun e w' => e = .returned (.bool (xs == ys)) ∧ ∃ q, w' = w.drewN q := by
  by_cases hn : n1 = n2
  · subst hn
    rcases h1 with rfl | ⟨b1, o1, rfl, _, h1⟩
    · obtain rfl : n1 = 0 := by simp at h1l; omega
      obtain rfl : ys = [] := List.eq_nil_of_length_eq_zero h2l
      clear h2
      go_enter Try.func25, Try.ntmps25
      go_wp2
      go_loop [13] (fun i => i = .int .i64 0) (fun i => 0)
      case atStart => exact rfl
      case round =>
        obtain rfl := hrel
        go_wp2
        go_ret
        exact ⟨rfl, 0, rfl⟩
    · rcases h2 with rfl | ⟨b2, o2, rfl, _, h2⟩
      · obtain rfl : n1 = 0 := by simp at h2l; omega
        obtain rfl : xs = [] := List.eq_nil_of_length_eq_zero h1l
        clear h1
        go_enter Try.func25, Try.ntmps25
        go_wp2
        go_loop [13] (fun i => i = .int .i64 0) (fun i => 0)
        case atStart => exact rfl
        case round =>
          obtain rfl := hrel
          go_wp2
          go_ret
          exact ⟨rfl, 0, rfl⟩
      · exact equal_ints b1 o1 n1 c1 b2 o2 n1 c2 xs ys w h1l h2l hm1 hm2 h1 h2
  · have hne : (xs == ys) = false := by
      rw [beq_eq_false_iff_ne]
      intro e
      exact hn (by rw [← h1l, ← h2l, e])
    have hb : ((n1 : Int) != (n2 : Int)) = true := by
      rw [bne_iff_ne]
      omega
    clear h1 h2
    go_enter Try.func25, Try.ntmps25
    go_wp2
    go_ret
    rw [hne]
    exact ⟨rfl, 0, rfl⟩

end Go.Proofs.Ytfoaaamcpknjnah

/-
  The closed fact that the statements on package inflate ask for first: it is true.
-/
namespace Go.Proofs.Ytfoaaamcpknjnah
open Go.RowKit
set_option linter.unusedVariables false
set_option maxRecDepth 100000

theorem ltA {l : List Nat} (h : l.all (fun x => decide (x < 256)) = true) (j : Nat) : l.getD j 0 < 256 := by
  by_cases hj : j < l.length
  · have := List.all_eq_true.1 h l[j] (List.getElem_mem hj)
    have := of_decide_eq_true this
    simpa [List.getD, hj] using this
  · simp only [List.getD]
    rw [List.getElem?_eq_none (by omega)]
    decide
theorem bytesNew (w : World) (xs : List Nat) (t : TypeId) (A : Array Value) (b : Nat) (hb : b = w.heap.size) (hA : A = (u8s xs).toArray) : Bytes (w.alloc (.cells A t)) b 0 xs := by
  intro j hj
  rw [World.cell?_alloc_at _ _ _ _ (by rw [hb]), hA]
  simp [List.getD, hj]
def infB : List Nat := [0, 1, 0, 254, 255, 120, 3, 0, 9]
theorem code256 : codeT fixA 256 = List.replicate 7 false := by decide +kernel
theorem inf_row : iunpk (rowB infB 9) = ⟨58, [120], [0, 1], 0⟩ := by
  have hl : (rowB infB 9).length = 72 := rowB_length infB 9
  have u1 : uget (rowB infB 9) 1 US0 = (0, ⟨1, [], [], 0⟩) := by kernel_rfl
  have u2 : uget (rowB infB 9) 2 ⟨1, [], [], 0⟩ = (0, ⟨3, [], [], 0⟩) := by kernel_rfl
  have u3 : ikind (rowB infB 9) 0 ⟨3, [], [], 0⟩ = ⟨48, [120], [0], 0⟩ := by
    unfold ikind
    rw [if_pos rfl]
    kernel_rfl
  have b1 : iblock (rowB infB 9) US0 = (0, ⟨48, [120], [0], 0⟩) := by
    unfold iblock
    rw [u1]
    simp only
    rw [if_neg (by decide), u2]
    simp only
    rw [if_neg (by decide), u3]
  have v1 : uget (rowB infB 9) 1 ⟨48, [120], [0], 0⟩ = (1, ⟨49, [120], [0], 0⟩) := by kernel_rfl
  have v2 : uget (rowB infB 9) 2 ⟨49, [120], [0], 0⟩ = (1, ⟨51, [120], [0], 0⟩) := by kernel_rfl
  have v3 : uplace fixA (rowB infB 9) ⟨51, [120], [0], 0⟩ = (256, ⟨58, [120], [0], 0⟩) := by
    have := uplace_ok fixA fixA_ok (rowB infB 9) 256 ⟨51, [120], [0], 0⟩ rfl (by decide +kernel) (by rw [code256]; decide) (by rw [code256, hl]; decide) (by rw [code256]; decide +kernel)
    rw [code256] at this
    exact this
  have b2 : iblock (rowB infB 9) ⟨48, [120], [0], 0⟩ = (1, ⟨58, [120], [0, 1], 0⟩) := by
    unfold iblock
    rw [v1]
    simp only
    rw [if_neg (by decide), v2]
    simp only
    rw [if_neg (by decide)]
    unfold ikind
    rw [if_neg (by decide), if_pos rfl, itoks_succ, v3]
    simp only
    rw [if_neg (by decide), if_pos trivial]
    rfl
  unfold iunpk
  rw [hl, iblocks, b1]
  simp only
  rw [if_pos ⟨trivial, trivial⟩, iblocks, b2]
  simp

set_option maxHeartbeats 1000000 in
theorem inflated_any (w : World) : Calls Try.prog 23 #[] w fun e w' => e = .returned (.bool true) ∧ Below w.heap.size w w' := by
  have HU : Hid (∀ X : Obj, X = .cells #[.int .u8 0, .int .u8 1, .int .u8 0, .int .u8 254, .int .u8 255, .int .u8 120, .int .u8 3, .int .u8 0, .int .u8 9] 5 → Calls Try.prog 22 #[.slice (some ⟨w.heap.size, 0, none⟩) 9 9] (w.alloc X) fun e w' => Below w.heap.size w w' ∧ ∃ g c h d, e = .returned (.tuple #[.slice (some ⟨g, 0, none⟩) 1 c, .int .i64 8, .slice (some ⟨h, 0, none⟩) 2 d, .int .i64 0]) ∧ BytesIn w' (some ⟨g, 0, none⟩) [120] ∧ RowIn .i64 w' (some ⟨h, 0, none⟩) [0, 1]) := hide (fun X hX => by
    subst hX
    refine (unpackAll_any (some ⟨w.heap.size, 0, none⟩) 9 9 infB _ rfl (by decide) (.inr ⟨_, 0, rfl, by simp, bytesNew w infB _ _ _ rfl rfl⟩) (ltA (by decide))).mono ?_
    rintro e w' ⟨hB, hd⟩
    refine ⟨((Below.refl w.heap.size w).alloc (Nat.le_refl _) _).trans (hB.mono (by simp)), ?_⟩
    rw [inf_row] at hd
    rcases hd with ⟨_, ov, kv, rfl, ho, hk⟩ | ⟨h0, _⟩
    · obtain ⟨g, c, rfl, _, _⟩ := own_shape ho (by decide)
      obtain ⟨h, d, rfl, _, _⟩ := own_shape hk (by decide)
      obtain ⟨_, a1, c1, e1, hb⟩ := BytesIn.ofOwn ho
      cases e1
      exact ⟨g, _, h, _, rfl, hb, RowIn.own hk⟩
    · exact absurd rfl h0)
  go_enter Try.func23, Try.ntmps23
  go_wp2_with fail
  refine (unhide HU _ rfl).mono ?_
  rintro e w1 ⟨hB1, g, c, h, d, rfl, hb1, hk1⟩
  have hcv := conv_in (some ⟨g, 0, none⟩) 1 c [120] w1 rfl hb1
  have hst : strN [120] = ⟨#[120]⟩ := rfl
  rw [hst] at hcv
  have HQ : Hid (∀ X : Obj, X = .cells #[.int .i64 0, .int .i64 1] 3 → Calls Try.prog 25 #[.slice (some ⟨h, 0, none⟩) 2 d, .slice (some ⟨w1.heap.size, 0, none⟩) 2 2] (w1.alloc X) fun e w' => e = .returned (.bool true) ∧ Below w.heap.size w w') := hide (fun X hX => by
    subst hX
    refine (equal_in (some ⟨h, 0, none⟩) (some ⟨w1.heap.size, 0, none⟩) 2 d 2 2 [0, 1] [0, 1] _ rfl rfl (by decide) (by decide) (hk1.alloc _) (.inr ⟨_, 0, rfl, by simp, fun j hj => ?_⟩)).mono ?_
    · rw [Nat.zero_add, cell_of_row _ _ _ _ _ _ (heap_alloc_new w1 _)]
      match j, hj with
      | 0, _ => rfl
      | 1, _ => rfl
    · rintro e w' ⟨rfl, q, rfl⟩
      exact ⟨rfl, below_drewN (hB1.alloc hB1.size _) q⟩)
  clear hB1 hb1 hk1 HU hst
  go_wp2_with fail
  refine (unhide HQ _ rfl).mono ?_
  rintro e w2 ⟨rfl, hB2⟩
  have HB2 := hide hB2
  clear hB2
  go_wp2
  go_ret
  exact ⟨rfl, unhide HB2⟩
end Go.Proofs.Ytfoaaamcpknjnah

/-
  Parts, each in its slice.
-/
namespace Go.Proofs.Ytfoaaamcpknjnah
open Go.RowKit
set_option linter.unusedVariables false

/-- the parts, each in its slice -/
structure PartsIn (w : World) (b o : Nat) (A : Nat → Option Addr) (C : Nat → Nat) (bss : List (List Nat)) : Prop where
  lt : b < w.heap.size
  cell : ∀ j, j < bss.length → w.cell? ⟨b, o + j, none⟩ = some (.slice (A j) (bss.getD j []).length (C j))
  byt : ∀ j, j < bss.length → BytesIn w (A j) (bss.getD j [])
  cap : ∀ j, j < bss.length → (bss.getD j []).length ≤ C j
  nil : ∀ j, j < bss.length → A j = none → C j = 0
  big : ∀ j, j < bss.length → (bss.getD j []).length + (if j = 0 then 0 else 3000) ≤ 9223372036854775807
  val : ∀ j i, (bss.getD j []).getD i 0 < 256
end Go.Proofs.Ytfoaaamcpknjnah

/-
  The law InflateStored: blocks laid by hand. (Written by tools/mk_sto1.py.)
-/
namespace Go.Proofs.Ytfoaaamcpknjnah
open Go.RowKit
set_option linter.unusedVariables false
set_option linter.unusedSimpArgs false
set_option maxRecDepth 100000

/-- a row of bytes behind a row of the call's own; where it lies then -/
theorem wpList_append_in2 (w : World) {ops : Array Oper} {rest : List Oper} {o : Oper} {a : Act} {Q : Exit → Act → World → Prop} (hgd : o.guard = none) (s x : Operand)
    (ho : o.op = .call { callee := .builtin .append, args := #[s, x], argTypes := #[23, 23] }) (base : Nat) (v : Value) (n : Nat) (xs : List Nat) (hs : a.eval s = v) (hown : w.ownsRow base 5 1 v n (u8s xs))
    (ad : Option Addr) (m c : Nat) (ys : List Nat) (hx : a.eval x = .slice ad m c) (hm : ys.length = m) (hB : BytesIn w ad ys) (hc : ad = none → c = 0) (hsz : n + m ≤ 140737488355328) (hbase : base ≤ w.heap.size)
    (h : ∀ v' w', Hid (w'.ownsRow base 5 1 v' (n + m) (u8s (xs ++ ys))) → Hid (w.grownBy w' v.ownBlock) → Hid (v'.ownBlock = v.ownBlock ∨ v'.ownBlock = some w.heap.size) → wpList Try.prog ops Q rest (a.put o.dst v') w') : wpList Try.prog ops Q (o :: rest) a w := by
  obtain ⟨i0, hi, hz0, hz1, hz2⟩ := info_parts info_u8
  have e : u8s (xs ++ ys) = u8s xs ++ u8s ys := by rw [u8s, u8s, u8s, List.map_append]
  cases ad with
  | none =>
    have hy : ys = [] := by
      rcases hB with h0 | ⟨b, o, h1, _⟩
      · exact h0
      · cases h1
    subst hy
    have h0 : m = 0 := by simpa using hm.symm
    subst h0
    have hc0 := hc rfl
    subst hc0
    refine wpList_append_own_none hgd s x 23 ho base 5 i0 1 Try.underlying23 hi v n (u8s xs) hs hown hx ?_
    exact h v w (hide (by simpa using hown)) (hide ⟨rfl, rfl, rfl, Nat.le_refl _, fun _ _ _ => rfl⟩) (hide (.inl rfl))
  | some ad =>
    refine wpList_append_own_at w hgd s x 23 ho base 5 i0 (.int .u8 0) 1 1 Try.underlying23 hi hz0 hz1 hz2 rfl (by decide) v n (u8s xs) hs hown ad m c (u8s ys) hx (by simp [u8s, hm]) ?_ (by intro u hu; obtain ⟨x, _, rfl⟩ := List.mem_map.1 hu; rfl) (by unfold maxLen; omega) (by omega) hbase ?_
    · intro j u hj
      have hj2 : j < ys.length := by
        by_cases c : j < ys.length
        · exact c
        · rw [List.getElem?_eq_none (by simp [u8s]; omega)] at hj; cases hj
      rcases hB with h0 | ⟨b, o, h1, _, h3⟩
      · subst h0; simp at hj2
      · cases h1
        have e2 : (⟨b, o, none⟩ : Addr).add j = ⟨b, o + j, none⟩ := by unfold Addr.add; split <;> simp_all
        rw [e2, h3 j hj2]
        simp [u8s, hj2] at hj
        subst hj
        simp [List.getD, hj2]
    · intro v' w' h1 h2 _ h4
      exact h v' w' (hide (by rw [e]; exact h1)) (hide h2) (hide h4)

theorem len_flat : ∀ {l : List (List Nat)} {x : List Nat}, x ∈ l → x.length ≤ l.flatten.length
  | [], _, h => by cases h
  | y :: l, x, h => by
    rw [List.flatten_cons, List.length_append]
    rcases List.mem_cons.1 h with e | e
    · subst e; omega
    · have := len_flat e; omega
theorem rowIn_of {w : World} {B n : Nat} {v : Value} {xs : List Nat} (h : w.ownsRow B 3 1 v n (i64s xs)) : xs.length = n ∧ ∃ a c, v = .slice a n c ∧ RowIn .i64 w a (xs.map (fun n => ((n : Nat) : Int))) := by
  have hn : xs.length = n := by have := h.1; simpa using this
  refine ⟨hn, ?_⟩
  rcases h.2 with ⟨h1, h2⟩ | ⟨g, cap, cur, h1, _⟩
  · subst h2
    exact ⟨none, 0, h1, .inl (by rw [List.eq_nil_of_length_eq_zero hn]; rfl)⟩
  · subst h1
    exact ⟨_, _, rfl, RowIn.own h⟩
theorem u8s_app (a b : List Nat) : u8s (a ++ b) = u8s a ++ u8s b := by rw [u8s, u8s, u8s, List.map_append]
/-- two rows of the call's own, apart -/
structure St2 (N : Nat) (w W : World) (v3 v4 : Value) (xs ys : List Nat) : Prop where
  o3 : W.ownsRow N 5 1 v3 xs.length (u8s xs)
  o4 : W.ownsRow N 5 1 v4 ys.length (u8s ys)
  ap : v3.ownBlock = none ∨ v3.ownBlock ≠ v4.ownBlock
  bel : Below N w W
theorem St2.alloc {N : Nat} {w W : World} {v3 v4 : Value} {xs ys : List Nat} (h : St2 N w W v3 v4 xs ys) (hN : N ≤ W.heap.size) (X : Obj) : St2 N w (W.alloc X) v3 v4 xs ys := ⟨h.o3.alloc _, h.o4.alloc _, h.ap, h.bel.alloc hN _⟩
theorem St2.app3 {N : Nat} {w W W' : World} {v3 v4 v' : Value} {xs ys xs' : List Nat} (h : St2 N w W v3 v4 xs ys) (hN : N ≤ W.heap.size) (hO : W'.ownsRow N 5 1 v' xs'.length (u8s xs')) (hg : W.grownBy W' v3.ownBlock) (hs : v'.ownBlock = v3.ownBlock ∨ v'.ownBlock = some W.heap.size) : St2 N w W' v' v4 xs' ys := by
  refine ⟨hO, own_kp h.o4 (fun g hg2 => hg.block g (h.o4.lt g hg2).2 (fun e => ?_)), ?_, h.bel.grown hg hN (fun g e => (h.o3.lt g e).1)⟩
  · rcases h.ap with h1 | h1
    · rw [h1] at e; cases e
    · exact h1 (by rw [hg2, e])
  · rcases hs with h1 | h1
    · rw [h1]; exact h.ap
    · refine .inr (fun e => ?_)
      rw [h1] at e
      have := (h.o4.lt _ e.symm).2
      omega
theorem St2.app4 {N : Nat} {w W W' : World} {v3 v4 v' : Value} {xs ys ys' : List Nat} (h : St2 N w W v3 v4 xs ys) (hN : N ≤ W.heap.size) (hO : W'.ownsRow N 5 1 v' ys'.length (u8s ys')) (hg : W.grownBy W' v4.ownBlock) (hs : v'.ownBlock = v4.ownBlock ∨ v'.ownBlock = some W.heap.size) : St2 N w W' v3 v' xs ys' := by
  refine ⟨own_kp h.o3 (fun g hg2 => hg.block g (h.o3.lt g hg2).2 (fun e => ?_)), hO, ?_, h.bel.grown hg hN (fun g e => (h.o4.lt g e).1)⟩
  · rcases h.ap with h1 | h1
    · rw [h1] at hg2; cases hg2
    · exact h1 (by rw [hg2, e])
  · rcases hs with h1 | h1
    · rw [h1]; exact h.ap
    · cases h3 : v3.ownBlock with
      | none => exact .inl rfl
      | some g =>
        refine .inr (fun e => ?_)
        rw [h1] at e
        have := (h.o3.lt g h3).2
        have := Option.some.inj e
        omega
theorem least40 (np : Nat) (hnp : np ≤ 9223372036854775807) : ∃ m : Nat, m ≤ np ∧ m ≤ 40 ∧ ∀ w : World, (Builtin.min_ #[3, 3] 3 #[.int .i64 np, .int .i64 40]).run Try.prog w = .ok (.int .i64 (m : Int)) w := by
  refine ⟨min np 40, by omega, by omega, fun w => ?_⟩
  simp [Builtin.min_, Builtin.min2]
  repeat' split
  all_goals omega
theorem sto_next (bss : List (List Nat)) {k : Nat} (hk : k < bss.length) : stoAll (bss.take (k + 1)) = stoAll (bss.take k) ++ (hdr5 0 (bss.getD k []).length ++ bss.getD k []) ∧ (bss.take (k + 1)).flatten = (bss.take k).flatten ++ bss.getD k [] := by
  have e : bss.take (k + 1) = bss.take k ++ [bss.getD k []] := by rw [List.take_add_one]; simp [List.getD, hk]
  rw [e]
  constructor
  · unfold stoAll; rw [List.flatMap_append]; simp
  · rw [List.flatten_append]; simp

theorem xor255_all : (List.range 256).all (fun x => bits .xor .u8 IntKind.u8.max (x : Int) == ((255 - x : Nat) : Int)) = true := by decide +kernel
theorem xor255 {x : Nat} (h : x < 256) : bits .xor .u8 IntKind.u8.max (x : Int) = ((255 - x : Nat) : Int) := by
  have := List.all_eq_true.1 xor255_all x (by simpa using h)
  simpa using this
theorem hdr_cells (n : Nat) (h : n ≤ 3000) : (#[.int .u8 0, .int .u8 ((n : Int) % 256), .int .u8 ((n : Int) / 256), .int .u8 (bits .xor .u8 IntKind.u8.max ((n : Int) % 256)), .int .u8 (bits .xor .u8 IntKind.u8.max ((n : Int) / 256))] : Array Value) = (u8s (hdr5 0 n)).toArray := by
  have e1 : (n : Int) % 256 = ((n % 256 : Nat) : Int) := by omega
  have e2 : (n : Int) / 256 = ((n / 256 : Nat) : Int) := by omega
  rw [e1, e2, xor255 (by omega), xor255 (by omega)]
  rfl

set_option maxHeartbeats 4000000 in
theorem infStored_any (b o cp np m : Nat) (ap : Option Addr) (A : Nat → Option Addr) (C : Nat → Nat) (bss : List (List Nat)) (w : World) (hp : bss.length = np) (hap : 0 < np → ap = some ⟨b, o, none⟩) (hP : 0 < np → PartsIn w b o A C bss) (hcap : np ≤ cp) (hmax : np ≤ 9223372036854775807) (hbig : ∀ j, j < np → (bss.getD j []).length ≤ 140737488351232) (hm1 : m ≤ np) (hm2 : m ≤ 40) (hmin : ∀ w : World, (Builtin.min_ #[3, 3] 3 #[.int .i64 np, .int .i64 40]).run Try.prog w = .ok (.int .i64 (m : Int)) w) :
    Calls Try.prog 6 #[.slice ap np cp] w fun e w' => e = .returned (.bool true) ∧ Below w.heap.size w w' := by
  obtain ⟨N, hN⟩ : ∃ N, w.heap.size = N := ⟨_, rfl⟩
  have HN := hide hN
  have HP := hide hP
  have HAP := hide hap
  have HLP := hide hp
  have HBIG := hide hbig
  have HI := hide (fun W => inflated_any W)
  have HST0 : Hid (St2 N w w (.slice none 0 0) (.slice none 0 0) [] []) := hide ⟨World.ownsRow_nil _ _ _ _, World.ownsRow_nil _ _ _ _, .inl rfl, by rw [← hN]; exact Below.refl _ _⟩
  have HUN : Hid (∀ (W : World) (a : Option Addr) (n c k : Nat), k ≤ np → ((bss.take k).flatten.length ≤ 3000) → (stoAll (bss.take k)).length + 5 = n → BytesIn W a (stoAll (bss.take k) ++ hdr5 1 0) → n ≤ 6000 → Calls Try.prog 22 #[.slice a n c] W fun e w' => Below W.heap.size W w' ∧ ∃ ao co kv d, e = .returned (.tuple #[.slice ao (bss.take k).flatten.length co, .int .i64 (n : Int), .slice kv (k + 1) d, .int .i64 0]) ∧ BytesIn w' ao (bss.take k).flatten ∧ RowIn .i64 w' kv (List.replicate (k + 1) 0)) := hide (fun W a n c k h1 h2 h3 h4 h5 => by
    have hk : (bss.take k).length = k := by rw [List.length_take]; omega
    have hval : ∀ p ∈ bss.take k, ∀ j, p.getD j 0 < 256 := fun p hp2 j => by
      obtain ⟨q, hq, rfl⟩ := List.getElem_of_mem (List.mem_of_mem_take hp2)
      have := (hP (by omega)).val q j
      have e5 : bss.getD q [] = bss[q] := by rw [List.getD, List.getElem?_eq_getElem hq]; rfl
      rw [e5] at this
      exact this
    have hiu := iunpk_sto (bss.take k) n h3 hval h2
    rw [hk] at hiu
    refine (unpackAll_any a n c _ W (by rw [List.length_append, h3.symm]; rfl) h5 h4 ?_).mono ?_
    · intro j
      have hs : ∀ x ∈ stoAll (bss.take k) ++ hdr5 1 0, x < 256 := fun x hx => by
        have hh : ∀ l n, l ≤ 1 → n ≤ 65535 → ∀ x ∈ hdr5 l n, x < 256 := fun l n h1 h2 x hx => by
          unfold hdr5 at hx
          simp only [List.mem_cons, List.not_mem_nil, or_false] at hx
          omega
        rcases List.mem_append.1 hx with h | h
        · unfold stoAll at h
          obtain ⟨p, hp2, hx2⟩ := List.mem_flatMap.1 h
          have hpl : p.length ≤ 3000 := by
            have : p.length ≤ (bss.take k).flatten.length := len_flat hp2
            omega
          rcases List.mem_append.1 hx2 with h' | h'
          · exact hh 0 p.length (by decide) (by omega) x h'
          · obtain ⟨i, hi, rfl⟩ := List.getElem_of_mem h'
            have := hval p hp2 i
            rw [List.getD, List.getElem?_eq_getElem hi] at this
            exact this
        · exact hh 1 0 (by decide) (by decide) x h
      by_cases hj : j < (stoAll (bss.take k) ++ hdr5 1 0).length
      · rw [List.getD, List.getElem?_eq_getElem hj]
        exact hs _ (List.getElem_mem hj)
      · rw [List.getD, List.getElem?_eq_none (by omega)]
        exact (by decide : (0 : Nat) < 256)
    · rintro e w' ⟨hB, hd⟩
      rw [hiu] at hd
      refine ⟨hB, ?_⟩
      rcases hd with ⟨_, ov, kv, rfl, ho, hk2⟩ | ⟨h0, _⟩
      · obtain ⟨_, a1, c1, rfl, hb⟩ := BytesIn.ofOwn ho
        simp only [List.length_replicate] at hk2
        obtain ⟨_, a2, c2, rfl, hr⟩ := rowIn_of hk2
        refine ⟨a1, c1, a2, c2, ?_, hb, by simpa using hr⟩
        have : ((8 * n + 7) / 8 : Nat) = n := by omega
        simp only [this]
      · exact absurd rfl h0)
  have HFV : Hid (∀ k j, (bss.take k).flatten.getD j 0 < 256) := hide (fun k j => by
    have hs : ∀ x ∈ (bss.take k).flatten, x < 256 := fun x hx => by
      obtain ⟨p, hp2, hx2⟩ := List.mem_flatten.1 hx
      obtain ⟨q, hq, rfl⟩ := List.getElem_of_mem (List.mem_of_mem_take hp2)
      obtain ⟨i, hi, rfl⟩ := List.getElem_of_mem hx2
      have := (hP (by omega)).val q i
      have e5 : bss.getD q [] = bss[q] := by rw [List.getD, List.getElem?_eq_getElem hq]; rfl
      rw [e5, List.getD, List.getElem?_eq_getElem hi] at this
      exact this
    by_cases hj : j < (bss.take k).flatten.length
    · rw [List.getD, List.getElem?_eq_getElem hj]
      exact hs _ (List.getElem_mem hj)
    · rw [List.getD, List.getElem?_eq_none (by omega)]
      exact (by decide : (0 : Nat) < 256))
  clear hP hap hp hbig
  go_enter Try.func6, Try.ntmps6
  have hmI : (m : Int) ≤ (cp : Int) := by omega
  have hmcp : m ≤ cp := by omega
  go_wp2
  go_loopw [3, 4, 5, 18] (fun v3 v4 v5 v18 wr => ∃ k : Nat, k ≤ m ∧ v18 = .int .i64 (k : Int) ∧ v5 = .int .i64 (k : Int) ∧ Hid (St2 N w wr v3 v4 (stoAll (bss.take k)) (bss.take k).flatten) ∧ Hid ((bss.take k).flatten.length ≤ 3000)) (fun _ _ _ v18 _ => 40 - (intOf v18).toNat)
  case atStart => exact ⟨0, Nat.zero_le _, rfl, rfl, HST0, hide (Nat.zero_le _)⟩
  case round =>
    obtain ⟨k, hk, rfl, rfl, hst, h3⟩ := hrel
    obtain ⟨a3, c3, rfl⟩ := own_slice' (unhide hst).o3
    obtain ⟨a4, c4, rfl⟩ := own_slice' (unhide hst).o4
    have hsl := sto_len (bss.take k)
    have hkt : (bss.take k).length = k := by rw [List.length_take, unhide HLP]; omega
    rw [hkt] at hsl
    obtain ⟨L4, hL4⟩ : ∃ L4, (bss.take k).flatten.length = L4 := ⟨_, rfl⟩
    obtain ⟨L3, hL3⟩ : ∃ L3, (stoAll (bss.take k)).length = L3 := ⟨_, rfl⟩
    have hL := unhide h3
    have HST2 : Hid (∀ (W : World) (v : Value) (X : Obj), W.ownsRow N 5 1 v ((stoAll (bss.take k)).length + 5) (u8s (stoAll (bss.take k) ++ hdr5 1 0)) → (wr.alloc X).grownBy W (Value.ownBlock (.slice a3 (stoAll (bss.take k)).length c3)) → (v.ownBlock = Value.ownBlock (.slice a3 (stoAll (bss.take k)).length c3) ∨ v.ownBlock = some (wr.alloc X).heap.size) → BytesIn W a4 (bss.take k).flatten ∧ Below N w W) := hide (fun W v X q1 q2 q3 => by
      have hNr : N ≤ wr.heap.size := by have := (unhide hst).bel.size; rw [unhide HN] at this; exact this
      have s1 := ((unhide hst).alloc hNr X).app3 (xs' := stoAll (bss.take k) ++ hdr5 1 0) (by simp; omega) (by rw [List.length_append]; exact q1) q2 q3
      obtain ⟨_, x1, x2, x3, x4⟩ := BytesIn.ofOwn s1.o4
      cases x3
      exact ⟨x4, s1.bel⟩)
    rw [hL4] at hL hsl ⊢
    rw [hL3] at hsl HST2 ⊢
    have HL4 := hide hL4
    have HL3 := hide hL3
    have hL3b : L3 ≤ 3200 := by omega
    have hL3c : L3 ≤ 200 + L4 := by omega
    have HST : Hid (St2 N w wr (.slice a3 L3 c3) (.slice a4 L4 c4) (stoAll (bss.take k)) (bss.take k).flatten) := hide (by rw [← hL3, ← hL4]; exact unhide hst)
    have HO3 : Hid (wr.ownsRow N 5 1 (.slice a3 L3 c3) L3 (u8s (stoAll (bss.take k)))) := hide (by have := (unhide hst).o3; rw [hL3] at this; exact this)
    have hNr : N ≤ wr.heap.size := by have := (unhide hst).bel.size; rw [unhide HN] at this; exact this
    clear hL4 hL3 hkt h3 hsl
    by_cases hlt : k < m
    · have hkI : (k : Int) < (m : Int) := by omega
      have hP := unhide HP (by omega)
      have hap := unhide HAP (by omega)
      subst hap
      have hkb : k < bss.length := by rw [unhide HLP]; omega
      obtain ⟨n, hn⟩ : ∃ n, (bss.getD k []).length = n := ⟨_, rfl⟩
      have hbl := hP.lt
      have hNw := (unhide hst).bel.size
      have c1 := ((unhide hst).bel.cell (p := ⟨b, o + k, none⟩) (by show b < N; rw [← unhide HN]; exact hbl)).trans (hP.cell k hkb)
      rw [hn] at c1
      have hnb := unhide HBIG k (by omega)
      rw [hn] at hnb
      have HBY : Hid (∀ W, Below N w W → BytesIn W (A k) (bss.getD k [])) := hide (fun W hW => (hP.byt k hkb).below hW (by rw [unhide HN]; exact Nat.le_refl _))
      have hnil := hP.nil k hkb
      obtain ⟨sn1, sn2⟩ := sto_next bss hkb
      have HS1 := hide sn1
      have HS2 := hide sn2
      have HNN := hide hn
      generalize A k = ak at *
      generalize C k = ck at *
      clear hP hn sn1 sn2
      by_cases hfit : 3000 < L4 + n
      · have hfI : (3000 : Int) < (L4 : Int) + (n : Int) := by omega
        have mk0 := fun W => run_make_row' (P := Try.prog) 22 3 (.int .i64 0) 8 Try.underlying22 info_int rfl .i64 .i64 (k + 1) (by omega) (by omega) W
        have ek1 : ((k + 1 : Nat) : Int) = (k : Int) + 1 := by omega
        rw [ek1] at mk0
        clear ek1
        go_wp2_with (at_builtin; refine wpList_append_in2 _ rfl (.tmp 64) (.tmp 65) rfl N _ L3 (stoAll (bss.take k)) rfl ((unhide HO3).alloc _) (some ⟨wr.heap.size, 0, none⟩) 5 5 (hdr5 1 0) rfl rfl (.inr ⟨_, 0, rfl, by simp, bytesNew wr (hdr5 1 0) _ _ _ rfl rfl⟩) (fun e => by cases e) (by omega) (by simp; omega) ?_)
        intro v5 w5 hO5 hg5 hs5
        replace hO5 : Hid (w5.ownsRow N 5 1 v5 (L3 + 5) (u8s (stoAll (bss.take k) ++ hdr5 1 0))) := hide (by rw [u8s_app]; exact unhide hO5)
        obtain ⟨hb4, hbel5⟩ := unhide HST2 w5 v5 _ (unhide hO5) (unhide hg5) (by simpa using unhide hs5)
        obtain ⟨_, a5, c5, rfl, hby5⟩ := BytesIn.ofOwn (unhide hO5)
        have HB5 := hide hbel5
        have HB4 := hide hb4
        have HU := hide (unhide HUN w5 a5 (L3 + 5) c5 k (by omega) (by rw [unhide HL4]; exact hL) (by rw [unhide HL3]) hby5 (by omega))
        rw [unhide HL4] at HU
        clear hO5 hg5 hs5 hb4 hbel5 hby5
        go_wp2_with fail
        refine (unhide HU).mono ?_
        rintro e w6 ⟨hB6, ao, co, kv, dv, rfl, hbo, hrk⟩
        have HBO := hide hbo
        have HRK := hide hrk
        have HB56 := hide hB6
        clear hB6 hbo hrk
        go_wp2_with fail
        refine (unhide HI w6).mono ?_
        rintro e w7 ⟨rfl, hB7⟩
        have hN5 : N ≤ w5.heap.size := by have := (unhide HB5).size; rw [unhide HN] at this; exact this
        have HB57 := hide ((unhide HB56).trans (hB7.mono (unhide HB56).size))
        have HBW7 := hide ((unhide HB5).trans ((unhide HB57).mono hN5))
        have HEQ := hide (bequal_in ao a4 L4 co L4 c4 (bss.take k).flatten (bss.take k).flatten w7 (unhide HL4) (unhide HL4) (unhide HFV k) (unhide HFV k) ((unhide HBO).below hB7 (Nat.le_refl _)) ((unhide HB4).below (unhide HB57) (Nat.le_refl _)))
        have hbt : ((bss.take k).flatten == (bss.take k).flatten) = true := by simp
        rw [hbt] at HEQ
        have hN7 : N ≤ w7.heap.size := by have := (unhide HB57).size; omega
        have HEK : Hid (∀ X : Obj, X = .cells (madeCells (Value.int .i64 0).cells (k + 1)) 3 → Calls Try.prog 25 #[.slice kv (k + 1) dv, .slice (some ⟨w7.heap.size, 0, none⟩) (k + 1) (k + 1)] (w7.alloc X) fun e w' => e = .returned (.bool true) ∧ Below N w w') := hide (fun X hX => by
          subst hX
          have hbk : ((List.replicate (k + 1) (0 : Int)) == (List.replicate (k + 1) (0 : Int))) = true := by simp
          have hq := equal_in kv (some ⟨w7.heap.size, 0, none⟩) (k + 1) dv (k + 1) (k + 1) (List.replicate (k + 1) 0) (List.replicate (k + 1) 0) (w7.alloc (.cells (madeCells (Value.int .i64 0).cells (k + 1)) 3)) (by simp) (by simp) (by omega) (by omega) (((unhide HRK).below hB7 (Nat.le_refl _)).alloc _) (.inr ⟨w7.heap.size, 0, rfl, by simp, fun j hj => ?_⟩)
          rw [hbk] at hq
          refine hq.mono ?_
          · rintro e w' ⟨rfl, r, rfl⟩
            exact ⟨rfl, below_drewN ((unhide HBW7).alloc hN7 _) r⟩
          · rw [Nat.zero_add, cell_of_row _ _ _ _ _ _ (heap_alloc_new w7 _)]
            have hm := made_i64 (k + 1)
            have hj2 : j < k + 1 := by simpa using hj
            have : (madeCells (Value.int .i64 0).cells (k + 1))[j]? = (madeCells (Value.int .i64 0).cells (k + 1)).toList[j]? := by simp
            rw [this]
            show (madeCells #[Value.int .i64 0] (k + 1)).toList[j]? = _
            rw [hm]
            simp [i64s, hj2, List.getD])
        clear hB7 hbt
        go_wp2_with fail
        refine (unhide HEQ).mono ?_
        rintro e w8 ⟨rfl, rfl⟩
        go_wp2_with fail
        refine (unhide HEK _ rfl).mono ?_
        rintro e w9 ⟨rfl, hB9⟩
        have HB9 := hide hB9
        clear hB9
        go_wp2
        go_ret
        exact ⟨rfl, by rw [unhide HN]; exact unhide HB9⟩
      · have hfI : ¬ (3000 : Int) < (L4 : Int) + (n : Int) := by omega
        have hfJ : ¬ (5900 : Int) < (L3 : Int) + (n : Int) := by omega
        obtain ⟨PK, hPK⟩ : ∃ PK, bss.getD k [] = PK := ⟨_, rfl⟩
        obtain ⟨FL, hFL⟩ : ∃ FL, (bss.take k).flatten = FL := ⟨_, rfl⟩
        obtain ⟨SA, hSA⟩ : ∃ SA, stoAll (bss.take k) = SA := ⟨_, rfl⟩
        rw [hPK] at HBY HS1 HS2 HNN
        rw [hFL] at HST HS2 HL4
        rw [hSA] at HST HO3 HS1 HL3
        clear hPK hFL hSA HUN HST2 hst HP HFV
        go_wp2_with (at_builtin; refine wpList_append_in2 _ rfl (.tmp 36) (.tmp 53) rfl N _ L3 (SA) rfl ((unhide HO3).alloc _) (some ⟨wr.heap.size, 0, none⟩) 5 5 (hdr5 0 n) rfl rfl (.inr ⟨_, 0, rfl, by simp, bytesNew wr (hdr5 0 n) _ _ _ rfl (hdr_cells n (by omega))⟩) (fun e => by cases e) (by omega) (by simp; omega) ?_)
        intro v5 w5 hO5 hg5 hs5
        replace hO5 : Hid (w5.ownsRow N 5 1 v5 (L3 + 5) (u8s (SA ++ hdr5 0 n))) := hide (by rw [u8s_app]; exact unhide hO5)
        have s5 := ((unhide HST).alloc hNr (.cells #[.int .u8 0, .int .u8 ((n : Int) % 256), .int .u8 ((n : Int) / 256), .int .u8 (bits .xor .u8 IntKind.u8.max ((n : Int) % 256)), .int .u8 (bits .xor .u8 IntKind.u8.max ((n : Int) / 256))] 5)).app3 (xs' := SA ++ hdr5 0 n) (by simp; omega) (by rw [List.length_append, unhide HL3]; exact unhide hO5) (unhide hg5) (by simpa using unhide hs5)
        have S5 := hide s5
        obtain ⟨a5, c5, rfl⟩ := own_slice' (unhide hO5)
        have hz5 : N ≤ w5.heap.size := by have := s5.bel.size; rw [unhide HN] at this; exact this
        have HO5 := hide (unhide hO5)
        have HBY5 := hide (unhide HBY w5 s5.bel)
        clear hO5 hg5 hs5 s5
        go_wp2_with (at_builtin; refine wpList_append_in2 _ rfl (.tmp 55) (.tmp 56) rfl N _ (L3 + 5) (SA ++ hdr5 0 n) rfl (unhide HO5) ak n ck PK rfl (unhide HNN) (unhide HBY5) hnil (by omega) hz5 ?_)
        intro v6 w6 hO6 hg6 hs6
        replace hO6 : Hid (w6.ownsRow N 5 1 v6 (L3 + 5 + n) (u8s (SA ++ hdr5 0 n ++ PK))) := hide (by first | exact unhide hO6 | (rw [u8s_app]; exact unhide hO6) | (rw [u8s_app, u8s_app]; exact unhide hO6) | (rw [u8s_app, u8s_app, List.append_assoc]; exact unhide hO6))
        have s6 := (unhide S5).app3 (xs' := SA ++ hdr5 0 n ++ PK) hz5 (by rw [List.length_append, List.length_append, unhide HL3, unhide HNN]; exact unhide hO6) (unhide hg6) (unhide hs6)
        have S6 := hide s6
        obtain ⟨a6, c6, rfl⟩ := own_slice' (unhide hO6)
        have hz6 : N ≤ w6.heap.size := by have := s6.bel.size; rw [unhide HN] at this; exact this
        have HBY6 := hide (unhide HBY w6 s6.bel)
        have HO4 : Hid (w6.ownsRow N 5 1 (.slice a4 L4 c4) L4 (u8s FL)) := hide (by have := s6.o4; rw [unhide HL4] at this; exact this)
        clear hO6 hg6 hs6 s6
        go_wp2_with (at_builtin; refine wpList_append_in2 _ rfl (.tmp 58) (.tmp 59) rfl N _ L4 FL rfl (unhide HO4) ak n ck PK rfl (unhide HNN) (unhide HBY6) hnil (by omega) hz6 ?_)
        intro v7 w7 hO7 hg7 hs7
        replace hO7 : Hid (w7.ownsRow N 5 1 v7 (L4 + n) (u8s (FL ++ PK))) := hide (by first | exact unhide hO7 | (rw [u8s_app]; exact unhide hO7))
        have s7 := (unhide S6).app4 (ys' := FL ++ PK) hz6 (by rw [List.length_append, unhide HL4, unhide HNN]; exact unhide hO7) (unhide hg7) (unhide hs7)
        obtain ⟨a7, c7, rfl⟩ := own_slice' (unhide hO7)
        have HS7 : Hid (St2 N w w7 (.slice a6 (L3 + 5 + n) c6) (.slice a7 (L4 + n) c7) (stoAll (bss.take (k + 1))) (bss.take (k + 1)).flatten) := hide (by
          rw [unhide HS1, unhide HS2, unhide HNN, ← List.append_assoc]
          exact s7)
        have H37 : Hid ((bss.take (k + 1)).flatten.length ≤ 3000) := hide (by rw [unhide HS2, List.length_append, unhide HL4, unhide HNN]; omega)
        clear hO7 hg7 hs7 s7
        go_wp2
        go_roundw
        case rel => exact ⟨k + 1, by omega, by go_num, by go_num, HS7, H37⟩
        case measure => simp [intOf]; omega
    · have hkI : ¬ (k : Int) < (m : Int) := by omega
      have mk0 := fun W => run_make_row' (P := Try.prog) 22 3 (.int .i64 0) 8 Try.underlying22 info_int rfl .i64 .i64 (k + 1) (by omega) (by omega) W
      have ek1 : ((k + 1 : Nat) : Int) = (k : Int) + 1 := by omega
      rw [ek1] at mk0
      clear ek1
      go_wp2_with (at_builtin; refine wpList_append_in2 _ rfl (.tmp 64) (.tmp 65) rfl N _ L3 (stoAll (bss.take k)) rfl ((unhide HO3).alloc _) (some ⟨wr.heap.size, 0, none⟩) 5 5 (hdr5 1 0) rfl rfl (.inr ⟨_, 0, rfl, by simp, bytesNew wr (hdr5 1 0) _ _ _ rfl rfl⟩) (fun e => by cases e) (by omega) (by simp; omega) ?_)
      intro v5 w5 hO5 hg5 hs5
      replace hO5 : Hid (w5.ownsRow N 5 1 v5 (L3 + 5) (u8s (stoAll (bss.take k) ++ hdr5 1 0))) := hide (by rw [u8s_app]; exact unhide hO5)
      obtain ⟨hb4, hbel5⟩ := unhide HST2 w5 v5 _ (unhide hO5) (unhide hg5) (by simpa using unhide hs5)
      obtain ⟨_, a5, c5, rfl, hby5⟩ := BytesIn.ofOwn (unhide hO5)
      have HB5 := hide hbel5
      have HB4 := hide hb4
      have HU := hide (unhide HUN w5 a5 (L3 + 5) c5 k (by omega) (by rw [unhide HL4]; exact hL) (by rw [unhide HL3]) hby5 (by omega))
      rw [unhide HL4] at HU
      clear hO5 hg5 hs5 hb4 hbel5 hby5
      go_wp2_with fail
      refine (unhide HU).mono ?_
      rintro e w6 ⟨hB6, ao, co, kv, dv, rfl, hbo, hrk⟩
      have HBO := hide hbo
      have HRK := hide hrk
      have HB56 := hide hB6
      clear hB6 hbo hrk
      go_wp2_with fail
      refine (unhide HI w6).mono ?_
      rintro e w7 ⟨rfl, hB7⟩
      have hN5 : N ≤ w5.heap.size := by have := (unhide HB5).size; rw [unhide HN] at this; exact this
      have HB57 := hide ((unhide HB56).trans (hB7.mono (unhide HB56).size))
      have HBW7 := hide ((unhide HB5).trans ((unhide HB57).mono hN5))
      have HEQ := hide (bequal_in ao a4 L4 co L4 c4 (bss.take k).flatten (bss.take k).flatten w7 (unhide HL4) (unhide HL4) (unhide HFV k) (unhide HFV k) ((unhide HBO).below hB7 (Nat.le_refl _)) ((unhide HB4).below (unhide HB57) (Nat.le_refl _)))
      have hbt : ((bss.take k).flatten == (bss.take k).flatten) = true := by simp
      rw [hbt] at HEQ
      have hN7 : N ≤ w7.heap.size := by have := (unhide HB57).size; omega
      have HEK : Hid (∀ X : Obj, X = .cells (madeCells (Value.int .i64 0).cells (k + 1)) 3 → Calls Try.prog 25 #[.slice kv (k + 1) dv, .slice (some ⟨w7.heap.size, 0, none⟩) (k + 1) (k + 1)] (w7.alloc X) fun e w' => e = .returned (.bool true) ∧ Below N w w') := hide (fun X hX => by
        subst hX
        have hbk : ((List.replicate (k + 1) (0 : Int)) == (List.replicate (k + 1) (0 : Int))) = true := by simp
        have hq := equal_in kv (some ⟨w7.heap.size, 0, none⟩) (k + 1) dv (k + 1) (k + 1) (List.replicate (k + 1) 0) (List.replicate (k + 1) 0) (w7.alloc (.cells (madeCells (Value.int .i64 0).cells (k + 1)) 3)) (by simp) (by simp) (by omega) (by omega) (((unhide HRK).below hB7 (Nat.le_refl _)).alloc _) (.inr ⟨w7.heap.size, 0, rfl, by simp, fun j hj => ?_⟩)
        rw [hbk] at hq
        refine hq.mono ?_
        · rintro e w' ⟨rfl, r, rfl⟩
          exact ⟨rfl, below_drewN ((unhide HBW7).alloc hN7 _) r⟩
        · rw [Nat.zero_add, cell_of_row _ _ _ _ _ _ (heap_alloc_new w7 _)]
          have hm := made_i64 (k + 1)
          have hj2 : j < k + 1 := by simpa using hj
          have : (madeCells (Value.int .i64 0).cells (k + 1))[j]? = (madeCells (Value.int .i64 0).cells (k + 1)).toList[j]? := by simp
          rw [this]
          show (madeCells #[Value.int .i64 0] (k + 1)).toList[j]? = _
          rw [hm]
          simp [i64s, hj2, List.getD])
      clear hB7 hbt
      go_wp2_with fail
      refine (unhide HEQ).mono ?_
      rintro e w8 ⟨rfl, rfl⟩
      go_wp2_with fail
      refine (unhide HEK _ rfl).mono ?_
      rintro e w9 ⟨rfl, hB9⟩
      have HB9 := hide hB9
      clear hB9
      go_wp2
      go_ret
      exact ⟨rfl, by rw [unhide HN]; exact unhide HB9⟩
end Go.Proofs.Ytfoaaamcpknjnah

/-
  Rows of bytes as arguments.
-/
namespace Go.Proofs.Ytfoaaamcpknjnah
open Go.RowKit Go.ChangeShapes Go.WideShapes Go.ChangeAt Go.Deep
set_option linter.unusedVariables false

theorem add_plain (b o j : Nat) : (⟨b, o, none⟩ : Addr).add j = ⟨b, o + j, none⟩ := by unfold Addr.add; split <;> simp_all

theorem cells5 : Try.prog.cellsOf 5 = 1 := by kernel_rfl

theorem open_bytes {H : Type} {enc : TypeId × Value → H} {w : World} {fuel : Nat} {a0 : Option Addr} {l0 c0 : Nat} {x : DataW H × List MemPlace}
    (h : DataW.trod enc Try.prog w 0 (fun _ => true) true fuel 23 [.slice a0 l0 c0] = some x) : l0 ≤ maxLen ∧ ∃ xs, xs.length = l0 ∧ (∀ j, xs.getD j 0 < 256) ∧ BytesIn w a0 xs := by
  rcases open_ints Try.underlying23 Try.underlying5 cells5 h with ⟨hcs, _⟩ | ⟨a, l, c, zs, hcs, _, hl, hm, hz, _, hcell, hwz⟩
  · simp at hcs
    obtain ⟨rfl, rfl, rfl⟩ := hcs
    exact ⟨Nat.zero_le _, [], rfl, fun j => by simp, .inl rfl⟩
  · simp at hcs
    obtain ⟨rfl, rfl, rfl⟩ := hcs
    have hz' : zs.length = c0 := by simpa using hz
    have hb : ∀ j, j < zs.length → 0 ≤ zs.getD j 0 ∧ zs.getD j 0 ≤ 255 := by
      intro j hj
      have hmem : zs.getD j 0 ∈ zs := by simp [List.getD, hj]
      have := hwz _ hmem
      simpa [Lit.wf, IntKind.min, IntKind.max, IntKind.signed, IntKind.bits] using this
    have e1 : ∀ j, j < l0 → ((zs.take l0).map Int.toNat).getD j 0 = (zs.getD j 0).toNat := by
      intro j hj
      have : j < zs.length := by omega
      simp [List.getD, hj, this]
    refine ⟨Nat.le_trans hl hm, (zs.take l0).map Int.toNat, by simp; omega, ?_, ?_⟩
    · intro j
      by_cases hj : j < l0
      · rw [e1 j hj]
        have := hb j (by omega)
        omega
      · have : ((zs.take l0).map Int.toNat).length ≤ j := by simp; omega
        rw [List.getD_eq_getElem?_getD, List.getElem?_eq_none this]; simp
    by_cases h0 : l0 = 0
    · subst h0
      exact .inl rfl
    · obtain ⟨b, o, spot⟩ := a
      have hc := hcell 0 (by omega)
      have hspot : spot = none := by simpa [Addr.add] using World.cell?_spot hc
      subst hspot
      refine .inr ⟨b, o, rfl, ?_, ?_⟩
      · have := World.block_lt_of_cell? _ _ hc
        simpa [Addr.add] using this
      · intro j hj
        have hj' : j < l0 := by simp at hj; omega
        have h1 := hcell j (by omega)
        rw [e1 j hj', Int.toNat_of_nonneg (hb j (by omega)).1]
        rw [add_plain] at h1
        exact h1
theorem open_cap {H : Type} {enc : TypeId × Value → H} {w : World} {fuel : Nat} {a0 : Option Addr} {l0 c0 : Nat} {x : DataW H × List MemPlace}
    (h : DataW.trod enc Try.prog w 0 (fun _ => true) true fuel 23 [.slice a0 l0 c0] = some x) : l0 ≤ c0 := by
  rcases open_ints Try.underlying23 Try.underlying5 cells5 h with ⟨hcs, _⟩ | ⟨a, l, c, zs, hcs, _, hl, hm, hz, _, hcell, hwz⟩
  · simp at hcs
    obtain ⟨rfl, rfl, rfl⟩ := hcs
    exact Nat.le_refl _
  · simp at hcs
    obtain ⟨rfl, rfl, rfl⟩ := hcs
    exact hl
end Go.Proofs.Ytfoaaamcpknjnah

/-
  How the arguments of a law lie in memory: a slice of numbers, of bytes is nil, or empty, or leads to a row that holds them.
-/
namespace Go.Proofs.Ytfoaaamcpknjnah
open Go.RowKit Go.ChangeShapes Go.WideShapes Go.ChangeAt Go.Deep
set_option linter.unusedVariables false

theorem cells3 : Try.prog.cellsOf 3 = 1 := by kernel_rfl
theorem open_nums {H : Type} {enc : TypeId × Value → H} {w : World} {fuel : Nat} {a0 : Option Addr} {l0 c0 : Nat} {x : DataW H × List MemPlace}
    (h : DataW.trod enc Try.prog w 0 (fun _ => true) true fuel 22 [.slice a0 l0 c0] = some x) : l0 ≤ maxLen ∧ ∃ xs, xs.length = l0 ∧ RowIn .i64 w a0 xs := by
  rcases open_ints Try.underlying22 Try.underlying3 cells3 h with ⟨hcs, _⟩ | ⟨a, l, c, zs, hcs, _, hl, hm, hz, _, hcell, hwz⟩
  · simp at hcs
    obtain ⟨rfl, rfl, rfl⟩ := hcs
    exact ⟨Nat.zero_le _, [], rfl, .inl rfl⟩
  · simp at hcs
    obtain ⟨rfl, rfl, rfl⟩ := hcs
    refine ⟨Nat.le_trans hl hm, zs.take l0, by simp at hz; simp; omega, ?_⟩
    by_cases h0 : l0 = 0
    · subst h0
      exact .inl rfl
    · obtain ⟨b, o, spot⟩ := a
      have hz' : zs.length = c0 := by simpa using hz
      have hc := hcell 0 (by omega)
      have hspot : spot = none := by simpa [Addr.add] using World.cell?_spot hc
      subst hspot
      refine .inr ⟨b, o, rfl, ?_, ?_⟩
      · have := World.block_lt_of_cell? _ _ hc
        simpa [Addr.add] using this
      · intro j hj
        have hj' : j < l0 := by simp at hj; omega
        have := hcell j (by omega)
        have e : (zs.take l0).getD j 0 = zs.getD j 0 := by simp [List.getD, hj']
        rw [e]
        rw [add_plain] at this
        exact this

end Go.Proofs.Ytfoaaamcpknjnah

/-
  Opening a slice of slices of bytes.
-/
namespace Go.Proofs.Ytfoaaamcpknjnah
open Go.ChangeShapes Go.WideShapes Go.ChangeAt Go.RowKit Go.Deep
set_option linter.unusedVariables false

theorem bytes5 : Try.prog.bytesOf 5 = 1 := by kernel_rfl
theorem cellsPP : Try.prog.cellsOf 23 = 1 := by kernel_rfl

theorem weightsAll_mem {H : Type} {P : Program} {e : TypeId} : ∀ {ds : List (DataW H)} {d : DataW H}, d ∈ ds → ∀ n ∈ d.weights P e, n ∈ DataW.weightsAll P e ds
  | x :: r, d, h, n, hn => by
    simp only [DataW.weightsAll, List.mem_append]
    rcases List.mem_cons.1 h with e | e
    · subst e; exact .inl hn
    · exact .inr (weightsAll_mem e n hn)
  | [], d, h, n, hn => by cases h
theorem row_bytes {w : World} {ar : Option Addr} {L C : Nat} {Z : List Int} (hl : L ≤ C) (hz : Z.length = C) (hwf : ∀ n ∈ Z, (Lit.int .u8 n).wf = true) (hnil : ar = none → C = 0) (hc : ∀ a', ar = some a' → ∀ c, c < C → w.cell? (a'.add c) = some (.int .u8 (Z.getD c 0))) :
    ((Z.take L).map Int.toNat).length = L ∧ (∀ j, ((Z.take L).map Int.toNat).getD j 0 < 256) ∧ BytesIn w ar ((Z.take L).map Int.toNat) := by
  have hb : ∀ j, j < Z.length → 0 ≤ Z.getD j 0 ∧ Z.getD j 0 ≤ 255 := by
    intro j hj
    have hmem : Z.getD j 0 ∈ Z := by simp [List.getD, hj]
    have := hwf _ hmem
    simpa [Lit.wf, IntKind.min, IntKind.max, IntKind.signed, IntKind.bits] using this
  have e1 : ∀ j, j < L → ((Z.take L).map Int.toNat).getD j 0 = (Z.getD j 0).toNat := by
    intro j hj
    have : j < Z.length := by omega
    simp [List.getD, hj, this]
  have hlen : ((Z.take L).map Int.toNat).length = L := by simp; omega
  refine ⟨hlen, ?_, ?_⟩
  · intro j
    by_cases hj : j < L
    · rw [e1 j hj]
      have := hb j (by omega)
      omega
    · rw [List.getD_eq_getElem?_getD, List.getElem?_eq_none (by rw [hlen]; omega)]; simp
  · by_cases h0 : L = 0
    · subst h0
      exact .inl rfl
    · cases ar with
      | none => have := hnil rfl; omega
      | some a =>
        obtain ⟨b, o, spot⟩ := a
        have h1 := hc _ rfl 0 (by omega)
        have hspot : spot = none := by simpa [Addr.add] using World.cell?_spot h1
        subst hspot
        refine .inr ⟨b, o, rfl, ?_, ?_⟩
        · have := World.block_lt_of_cell? _ _ h1
          simpa [Addr.add] using this
        · intro j hj
          have hj' : j < L := by rw [hlen] at hj; exact hj
          have h2 := hc _ rfl j (by omega)
          rw [e1 j hj', Int.toNat_of_nonneg (hb j (by omega)).1]
          rw [add_plain] at h2
          exact h2
set_option maxRecDepth 100000 in
theorem open_parts {H : Type} {enc : TypeId × Value → H} {w : World} {fuel : Nat} {a0 : Option Addr} {l0 c0 : Nat} {d : DataW H} {p : List MemPlace}
    (h : DataW.trod enc Try.prog w 0 (fun _ => true) true fuel 48 [.slice a0 l0 c0] = some (d, p)) (lt : ∀ x ∈ p, x.block < w.heap.size) {ts : List TypeId} {ds : List (DataW H)} {j : Nat}
    (hsz : (DataW.weightsEach Try.prog ts ds).all (· ≤ reachBytes) = true) (ht : ts[j]? = some 48) (hd : ds[j]? = some d) :
    l0 ≤ maxLen ∧ ∃ (b o : Nat) (A : Nat → Option Addr) (C : Nat → Nat) (bss : List (List Nat)), bss.length = l0 ∧ (0 < l0 → a0 = some ⟨b, o, none⟩ ∧ PartsIn w b o A C bss) ∧ ∀ j, j < l0 → (bss.getD j []).length ≤ 140737488351232 := by
  rcases open_int_rows Try.underlying48 Try.underlying23 Try.underlying5 cellsPP cells5 h with ⟨hcs, _⟩ | ⟨a, len, cap, A, L, C, Z, hcs, _, hl, hm, hx, hrow⟩
  · simp at hcs
    obtain ⟨rfl, rfl, rfl⟩ := hcs
    exact ⟨by unfold maxLen; omega, 0, 0, fun _ => none, fun _ => 0, [], rfl, fun h => by omega, fun j hj => by omega⟩
  · simp at hcs
    obtain ⟨rfl, rfl, rfl⟩ := hcs
    have hx1 := congrArg Prod.fst hx
    simp only at hx1
    have hbyt := fun r (hr : r < c0) => row_bytes (w := w) (ar := A r) (L := L r) (C := C r) (Z := Z r) (hrow r hr).2.1 (hrow r hr).2.2.2.1 (hrow r hr).2.2.2.2.1 (hrow r hr).2.2.2.2.2.1 (fun a' e => ((hrow r hr).2.2.2.2.2.2 a' e).2)
    have hbig : ∀ r, r < l0 → L r ≤ 140737488351232 := by
      intro r hr
      obtain ⟨r1, r2, r3, r4, r5, r6, r7⟩ := hrow r (by omega)
      cases hA : A r with
      | none => have := r6 hA; omega
      | some ar =>
        have hmem : (C r) * 1 ∈ (intRow (H := H) .u8 (A r) (L r) (Z r)).weights Try.prog 23 := by
          rw [hA]
          simp only [intRow, DataW.weights, Try.underlying23, bytes5]
          have e : (lits (H := H) .u8 ((Z r).take (L r))).length + (lits (H := H) .u8 ((Z r).drop (L r))).length = C r := by
            simp [lits]
            omega
          rw [e]
          exact List.mem_cons_self
        have hm2 : (C r) * 1 ∈ d.weights Try.prog 48 := by
          rw [hx1]
          simp only [DataW.weights, Try.underlying48]
          refine List.mem_cons_of_mem _ (List.mem_append.2 (.inl (weightsAll_mem (List.mem_map.2 ⟨r, List.mem_range.2 hr, rfl⟩) _ hmem)))
        have h3 := List.all_eq_true.1 hsz _ (DataW.weights_mem_each ht hd _ hm2)
        have h4 : C r * 1 ≤ reachBytes := by simpa using h3
        have : reachBytes = 140737488351232 := rfl
        omega
    have hget : ∀ r, r < l0 → ((List.range l0).map fun r => ((Z r).take (L r)).map Int.toNat).getD r [] = ((Z r).take (L r)).map Int.toNat := by
      intro r hr
      simp [List.getD, hr]
    obtain ⟨b, o, spot⟩ := a
    refine ⟨Nat.le_trans hl hm, b, o, A, C, (List.range l0).map fun r => ((Z r).take (L r)).map Int.toNat, by simp, ?_, ?_⟩
    · intro hpos
      have hc0 := (hrow 0 (by omega)).1
      have hspot : spot = none := by simpa [Addr.add] using World.cell?_spot hc0
      subst hspot
      refine ⟨rfl, ⟨?_, ?_, ?_, ?_, ?_, ?_, ?_⟩⟩
      · have := World.block_lt_of_cell? _ _ hc0
        simpa [Addr.add] using this
      · intro j hj
        have hj' : j < l0 := by simpa using hj
        rw [hget j hj', (hbyt j (by omega)).1]
        have := (hrow j (by omega)).1
        rw [add_plain] at this
        exact this
      · intro j hj
        have hj' : j < l0 := by simpa using hj
        rw [hget j hj']
        exact (hbyt j (by omega)).2.2
      · intro j hj
        have hj' : j < l0 := by simpa using hj
        rw [hget j hj', (hbyt j (by omega)).1]
        exact (hrow j (by omega)).2.1
      · intro j hj
        have hj' : j < l0 := by simpa using hj
        exact (hrow j (by omega)).2.2.2.2.2.1
      · intro j hj
        have hj' : j < l0 := by simpa using hj
        rw [hget j hj', (hbyt j (by omega)).1]
        have := hbig j hj'
        split <;> omega
      · intro j i
        by_cases hj : j < l0
        · rw [hget j hj]
          exact (hbyt j (by omega)).2.1 i
        · have e : ((List.range l0).map fun r => ((Z r).take (L r)).map Int.toNat).getD j [] = [] := by
            rw [List.getD, List.getElem?_eq_none (by simp; omega)]
            rfl
          rw [e]
          simp
    · intro j hj
      rw [hget j hj, (hbyt j (by omega)).1]
      exact hbig j hj

end Go.Proofs.Ytfoaaamcpknjnah
