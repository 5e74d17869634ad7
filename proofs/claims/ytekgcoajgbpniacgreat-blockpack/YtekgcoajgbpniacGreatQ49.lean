/-
  The document's reader in memory: Unpacked, where nothing goes wrong.
-/
import Derived.Test.YtekgcoajgbpniacGreatQ46
import Derived.Test.YtekgcoajgbpniacGreatUnpB3
import Derived.Test.YtekgcoajgbpniacGreatQ48
import Derived.Test.YtekgcoajgbpniacGreatQ31
import Derived.Test.YtekgcoajgbpniacGreatQ4
import Derived.Laws.BytesArg
import Derived.Lib.Strings
namespace Go.Proofs.YtekgcoajgbpniacGreat
open Go.RowKit
set_option linter.unusedVariables false
set_option maxRecDepth 100000

theorem block_ok (No : Nat → Prop) (B b n2 : Nat) (bs : List Nat) (u : US) (w : World) (h : UIs No B w b (rowB bs n2) u) (hl : bs.length = n2) (hn2 : n2 ≤ 25000) (hp : u.p ≤ 8 * n2) (ho : u.out.length ≤ 3000) (hks : u.ks.length ≤ 100) (hNo : ∀ g, w.heap.size ≤ g → ¬ No g) (t : Bool) (v : US) (hB : Blk1R (rowB bs n2) u t v) :
    Calls Tryz.prog 13 #[.pointer (some ⟨b, 0, none⟩)] w fun e w' => e = .returned (.bool t) ∧ UUp No B w b (rowB bs n2) v w' := by
  cases hB with
  | stored l x1 x2 h1 h2 h3 h4 => exact block_stored No B b n2 bs u w h hn2 hp ho hks hNo l x1 x2 h1 h2 h3 h4
  | coded l k x1 x2 x3 LA LB h1 h2 h3 h4 h5 h6 h7 =>
    rcases h4 with h4 | h4
    · subst h4
      unfold uopen at h5
      rw [if_pos rfl] at h5
      have e1 := (Prod.mk.inj h5).1
      have e2 := (Prod.mk.inj h5).2
      exact block_fixed No B b n2 bs u w h hl hn2 hp ho hks hNo l x1 x2 x3 h1 h2 h3 LA LB ⟨(Prod.mk.inj e1).1, (Prod.mk.inj e1).2, e2⟩ h6 _ rfl h7
    · subst h4
      unfold uopen at h5
      rw [if_neg (by decide), if_pos rfl] at h5
      exact block_dynamic No B b n2 bs u w h hl hn2 hp ho hks hNo l x1 x2 x3 h1 h2 h3 LA LB h5 h6 _ rfl h7

theorem UIs.fresh (No : Nat → Prop) (B : Nat) (w : World) (row : List Bool) (hB : B ≤ w.heap.size) (hn : ¬ No w.heap.size) :
    UIs No B (w.alloc (.cells #[.string (text row), .int .i64 0, .slice none 0 0, .slice none 0 0, .int .i64 0] 44)) w.heap.size row ⟨0, [], [], 0⟩ :=
  ⟨hB, hn, .slice none 0 0, .slice none 0 0, heap_alloc_new _ _, World.ownsRow_nil _ _ _ _, World.ownsRow_nil _ _ _ _, .inl rfl, (fun g e => by cases e), (fun g e => by cases e)⟩

set_option maxHeartbeats 2000000 in
theorem unpacked_ok (a : Option Addr) (n2 cap : Nat) (bs : List Nat) (w : World) (hl : bs.length = n2) (hn2 : n2 ≤ 25000) (hby : BytesIn w a bs) (hv : ∀ j, bs.getD j 0 < 256) (U : US) (hU : unpk (rowB bs n2) = U) (he : U.e = 0) (hk : U.ks.length ≤ 100) :
    Calls Tryz.prog 6 #[.slice a n2 cap] w fun e w' => ∃ ov kv, e = .returned (.tuple #[ov, .int .i64 (((U.p + 7) / 8 : Nat) : Int), kv, .int .i64 0]) ∧ w'.ownsRow w.heap.size 5 1 ov U.out.length (u8s U.out) ∧ w'.ownsRow w.heap.size 3 1 kv U.ks.length (i64s U.ks) ∧ Below w.heap.size w w' := by
  have HRO := hide (rowOf_in2 a n2 cap bs w hl hv hn2 hby)
  have hN := rowB_length bs n2
  have HU : Hid (ublocks (rowB bs n2) ((rowB bs n2).length + 1) ⟨0, [], [], 0⟩ = U) := hide hU
  clear hby hv hU
  go_enter Tryz.func6, Tryz.ntmps6
  go_wp2_with fail
  refine (unhide HRO).mono ?_
  rintro e w1 ⟨rfl, hB1⟩
  have HB1 := hide hB1
  have hz1 := hB1.size
  clear hB1
  have I2 : Hid (UIs (fun g => g < w.heap.size) w.heap.size (w1.alloc (.cells #[.string (text (rowB bs n2)), .int .i64 0, .slice none 0 0, .slice none 0 0, .int .i64 0] 44)) w1.heap.size (rowB bs n2) ⟨0, [], [], 0⟩) := hide (UIs.fresh _ _ w1 _ hz1 (by omega))
  have B2 := hide ((unhide HB1).alloc hz1 (.cells #[.string (text (rowB bs n2)), .int .i64 0, .slice none 0 0, .slice none 0 0, .int .i64 0] 44))
  generalize text (rowB bs n2) = TX at *
  go_wp2
  obtain ⟨W2, hW2⟩ : ∃ W2, w1.alloc (.cells #[.string TX, .int .i64 0, .slice none 0 0, .slice none 0 0, .int .i64 0] 44) = W2 := ⟨_, rfl⟩
  obtain ⟨b, hb⟩ : ∃ b, w1.heap.size = b := ⟨_, rfl⟩
  rw [hW2] at I2 B2 ⊢
  rw [hb] at I2 ⊢
  have hbw : w.heap.size ≤ b := by omega
  have hz2 := (unhide B2).size
  clear hW2 HRO
  go_loopw [12] (fun _ wr => ∃ (F : Nat) (x : US), Hid (ublocks (rowB bs n2) F x = U) ∧ Hid ((rowB bs n2).length < x.p + F) ∧ Hid (x.p ≤ (rowB bs n2).length) ∧ Hid (x.out.length ≤ 3000) ∧ Hid (UUp (fun g => g < w.heap.size) w.heap.size W2 b (rowB bs n2) x wr)) (fun _ wr => leftU n2 b wr)
  case atStart => exact ⟨(rowB bs n2).length + 1, ⟨0, [], [], 0⟩, HU, hide (by simp only; omega), hide (Nat.zero_le _), hide (Nat.zero_le _), hide (UUp.refl (unhide I2))⟩
  case round =>
    obtain ⟨F, x, hT, hF, hpx, hox, hW⟩ := hrel
    cases F with
    | zero => exact absurd (unhide hF) (by have := unhide hpx; omega)
    | succ F =>
      obtain ⟨t, y, hBk, hrw⟩ := ublocks_round (row := rowB bs n2) (F := F) (u := x) (by rw [unhide hT]; exact he)
      obtain ⟨a1, a2, a3, a4, a5⟩ := hBk.ahead
      have hxk : x.ks.length ≤ 100 := by
        have h1 := ublocks_ks (row := rowB bs n2) (F := F + 1) (u := x) (by rw [unhide hT]; exact he)
        rw [unhide hT] at h1
        omega
      rw [unhide hT] at hrw
      have HBK := hide (block_ok (fun g => g < w.heap.size) w.heap.size b n2 bs x wr (unhide hW).is hl hn2 (by have := unhide hpx; omega) (unhide hox) hxk (fun g hg => by have := (unhide hW).below.size; omega) t y hBk)
      have HAH : Hid ((rowB bs n2).length < y.p + F ∧ y.p ≤ (rowB bs n2).length ∧ y.out.length ≤ 3000 ∧ x.p < y.p) := hide ⟨by have := unhide hF; omega, a2, a5 (unhide hox), by omega⟩
      have hye := a3
      have HRW := hide hrw.symm
      clear a1 a2 a3 a4 a5 hT hF hpx hrw hBk
      cases t with
      | false =>
        go_wp2_with fail
        refine (unhide HBK).mono ?_
        rintro e w3 ⟨rfl, hU3⟩
        have W3 := hide ((unhide hW).trans hU3)
        clear hU3
        obtain ⟨_, _, c43, _⟩ := (unhide W3).is.cell
        rw [hye] at c43
        go_wp2
        go_roundw
        case rel =>
          obtain ⟨b1, b2, b3, b4⟩ := unhide HAH
          exact ⟨F, y, hide (by have := unhide HRW; simpa using this), hide b1, hide b2, hide b3, W3⟩
        case measure =>
          rw [leftU_is (unhide hW).is, leftU_is (unhide W3).is]
          obtain ⟨b1, b2, b3, b4⟩ := unhide HAH
          rw [hN] at b2
          omega
      | true =>
        have hyU : y = U := by have := unhide HRW; simpa using this
        subst hyU
        clear HRW
        go_wp2_with fail
        refine (unhide HBK).mono ?_
        rintro e w3 ⟨rfl, hU3⟩
        have W3 := hide ((unhide hW).trans hU3)
        clear hU3 HBK
        obtain ⟨_, c13, c43, _⟩ := (unhide W3).is.cell
        rw [hye] at c43
        obtain ⟨ov, kv, c23, c33, _, hov, hkv, _⟩ := (unhide W3).is.rows
        have HOV := hide (own_mono hov (B' := w.heap.size) (by omega))
        have HKV := hide (own_mono hkv (B' := w.heap.size) (by omega))
        have HB3 := hide ((unhide B2).trans (unhide W3).below)
        have hpb : y.p ≤ 200000 := by have := (unhide HAH).2.1; omega
        obtain ⟨oa, oc, rfl⟩ := own_slice' hov
        obtain ⟨ka, kc, rfl⟩ := own_slice' hkv
        have hp7 : Hid (((y.p : Int) + 7) / 8 = (((y.p + 7) / 8 : Nat) : Int)) := hide (by omega)
        clear hov hkv HAH
        go_wp2
        go_region
        all_goals go_wp2
        refine bodyPost_ret (v := .tuple #[.slice oa y.out.length oc, .int .i64 (((y.p : Int) + 7) / 8), .slice ka y.ks.length kc, .int .i64 0]) ?_ rfl ⟨_, _, by rw [unhide hp7], (unhide HOV).drew, (unhide HKV).drew, (unhide HB3).drew⟩
        first | rfl | kernel_rfl
end Go.Proofs.YtekgcoajgbpniacGreat

/-
  Pack of one part; Best.
-/
namespace Go.Proofs.YtekgcoajgbpniacGreat
open Go.RowKit
set_option linter.unusedVariables false
set_option maxRecDepth 100000

theorem rowB_inj {x y : List Nat} (hx : ∀ j, x.getD j 0 < 256) (hy : ∀ j, y.getD j 0 < 256) (h : rowB x x.length = rowB y y.length) : x = y := by
  have hl := congrArg List.length h
  rw [rowB_length, rowB_length] at hl
  have hl2 : x.length = y.length := by omega
  apply List.ext_getElem hl2
  intro j h1 h2
  have e1 : x[j] = x.getD j 0 := by simp [List.getD, h1]
  have e2 : y[j] = y.getD j 0 := by simp [List.getD, h2]
  rw [e1, e2]
  apply Nat.eq_of_testBit_eq
  intro i
  by_cases hi : i < 8
  · have p1 := rowB_getD x x.length (8 * j + i) (by omega)
    have p2 := rowB_getD y y.length (8 * j + i) (by omega)
    rw [h, p2] at p1
    unfold bitAt at p1
    rw [show (8 * j + i) / 8 = j by omega, show (8 * j + i) % 8 = i by omega] at p1
    exact p1.symm
  · have b : ∀ m, m < 256 → m.testBit i = false := fun m hm => Nat.testBit_lt_two_pow (Nat.lt_of_lt_of_le hm (show 2 ^ 8 ≤ 2 ^ i from Nat.pow_le_pow_right (by decide) (by omega)))
    rw [b _ (hx j), b _ (hy j)]

/-- the bits of one part's block -/
noncomputable def oneB (bs : List Nat) (k : Nat) : List Bool := padB (blkB [] bs k true)
noncomputable def lenP (bs : List Nat) (k : Nat) : Nat := (oneB bs k).length / 8
/-- the kind of the shortest of the first k kinds -/
noncomputable def bestP (bs : List Nat) : Nat → Nat
  | 0 => 0
  | 1 => 0
  | k + 2 => if lenP bs (k + 1) < lenP bs (bestP bs (k + 1)) then k + 1 else bestP bs (k + 1)
/-- bytes that are one part's block -/
structure IsOne (bs : List Nat) (k : Nat) (out : List Nat) : Prop where
  row : rowB out out.length = oneB bs k
  val : ∀ j, out.getD j 0 < 256
theorem IsOne.len {bs out : List Nat} {k : Nat} (h : IsOne bs k out) : out.length = lenP bs k := by
  unfold lenP
  rw [← h.row, rowB_length]
  omega
theorem IsOne.one {bs x y : List Nat} {k : Nat} (h : IsOne bs k x) (h2 : IsOne bs k y) : x = y := rowB_inj h.val h2.val (by rw [h.row, h2.row])
theorem blk_pos (bs : List Nat) (k : Nat) (last : Bool) : 3 ≤ (blkB [] bs k last).length := by
  unfold blkB
  split
  · unfold storB
    simp only [List.length_append, numBits_length, List.length_cons, List.length_nil, List.length_replicate]
    omega
  · split <;> simp only [List.length_append, numBits_length, List.length_cons, List.length_nil] <;> omega
theorem IsOne.pos {bs out : List Nat} {k : Nat} (h : IsOne bs k out) : 0 < out.length := by
  have h1 := congrArg List.length h.row
  rw [rowB_length] at h1
  unfold oneB at h1
  rw [padB_length] at h1
  have := blk_pos bs k true
  omega
theorem packF_one (bs : List Nat) (k : Nat) : packF (itemsP [bs] [(k : Int)]) [] = blkB [] bs k true := by
  have : itemsP [bs] [(k : Int)] = [(bs, k)] := by simp [itemsP]
  rw [this, packF, packF]
  simp
theorem parts_one {w : World} {a : Option Addr} {n cap : Nat} {bs : List Nat} (hl : bs.length = n) (hcap : n ≤ cap) (hnil : a = none → cap = 0) (hB : BytesIn w a bs) (hx : ∀ j, bs.getD j 0 < 256) (hm : n ≤ 9223372036854775807) (k : Int) (T U : TypeId) :
    PartsIn ((w.alloc (.cells #[.slice a n cap] T)).alloc (.cells #[.int .i64 k] U)) w.heap.size 0 (fun _ => a) (fun _ => cap) [bs] ∧ Row .i64 ((w.alloc (.cells #[.slice a n cap] T)).alloc (.cells #[.int .i64 k] U)) (w.heap.size + 1) 0 [k] := by
  have hj0 : ∀ j, j < [bs].length → j = 0 := fun j hj => by simp at hj; omega
  refine ⟨⟨by simp; omega, fun j hj => ?_, fun j hj => ?_, fun j hj => ?_, fun j hj => ?_, fun j hj => ?_, fun j i => ?_⟩, fun j hj => ?_⟩
  · rw [hj0 j hj]
    simp [hl]
  · rw [hj0 j hj]
    exact hB.below (((Below.refl w.heap.size w).alloc (Nat.le_refl _) _).alloc (by simp) _) (Nat.le_refl _)
  · rw [hj0 j hj]
    simpa [hl] using hcap
  · exact fun e => hnil e
  · rw [hj0 j hj]
    simpa [hl] using hm
  · cases j with
    | zero => simpa using hx i
    | succ j => simp
  · have : j = 0 := by simp at hj; omega
    subst this
    simp
theorem one_err {n : Nat} (h : 3000 < n) (bs : List Nat) (hl : bs.length = n) (k : Int) : errP ([bs].map List.length) [k] = 2 := by
  unfold errP
  rw [if_neg (by simp)]
  simp only [List.map_cons, List.map_nil, chkP]
  rw [if_pos (.inl (by omega))]
theorem one_fine {n k : Nat} (h : n ≤ 3000) (bs : List Nat) (hl : bs.length = n) (hk : k ≤ 2) : errP ([bs].map List.length) [(k : Int)] = 0 := by
  unfold errP
  rw [if_neg (by simp)]
  simp only [List.map_cons, List.map_nil, chkP]
  rw [if_neg (by omega)]
  exact if_pos (show (k : Int) = 0 ∨ (k : Int) = 1 ∨ (k : Int) = 2 by omega)

theorem one_many (a : Option Addr) (n cap : Nat) (k : Int) (bs : List Nat) (w : World) (T U : TypeId) (hl : bs.length = n) (hcap : n ≤ cap) (hnil : a = none → cap = 0) (hB : BytesIn w a bs) (hx : ∀ j, bs.getD j 0 < 256) (hm : n ≤ 9223372036854775807) (hn : 3000 < n) :
    Calls Tryz.prog 4 #[.slice (some ⟨w.heap.size, 0, none⟩) 1 1, .slice (some ⟨w.heap.size + 1, 0, none⟩) 1 1] ((w.alloc (.cells #[.slice a n cap] T)).alloc (.cells #[.int .i64 k] U)) fun e w' => e = .returned (.tuple #[.slice none 0 0, .int .i64 2]) ∧ Below w.heap.size w w' := by
  obtain ⟨h1, h2⟩ := parts_one hl hcap hnil hB hx hm k T U
  refine (pack_err w.heap.size 0 1 (some ⟨w.heap.size + 1, 0, none⟩) 1 1 1 _ _ [bs] [k] _ rfl rfl (.inr h1) (.inr ⟨_, 0, rfl, by simp, h2⟩) (some ⟨w.heap.size, 0, none⟩) (fun _ => rfl) 2 (hide (one_err hn bs hl k)) (by decide)).mono ?_
  rintro e w' ⟨rfl, rfl⟩
  exact ⟨rfl, ((Below.refl w.heap.size w).alloc (Nat.le_refl _) _).alloc (by simp) _⟩
theorem one_ok (a : Option Addr) (n cap k : Nat) (bs : List Nat) (w : World) (T U : TypeId) (hl : bs.length = n) (hcap : n ≤ cap) (hnil : a = none → cap = 0) (hB : BytesIn w a bs) (hx : ∀ j, bs.getD j 0 < 256) (hn : n ≤ 3000) (hk : k ≤ 2) :
    Calls Tryz.prog 4 #[.slice (some ⟨w.heap.size, 0, none⟩) 1 1, .slice (some ⟨w.heap.size + 1, 0, none⟩) 1 1] ((w.alloc (.cells #[.slice a n cap] T)).alloc (.cells #[.int .i64 (k : Int)] U)) fun e w' => ∃ g c out, e = .returned (.tuple #[.slice (some ⟨g, 0, none⟩) (lenP bs k) c, .int .i64 0]) ∧ g < w'.heap.size ∧ Bytes w' g 0 out ∧ IsOne bs k out ∧ Below w.heap.size w w' := by
  obtain ⟨h1, h2⟩ := parts_one hl hcap hnil hB hx (by omega) (k : Int) T U
  refine (pack_ok w.heap.size 0 1 (w.heap.size + 1) 0 1 1 _ _ [bs] [(k : Int)] _ rfl rfl h1 (by simp) h2 (one_fine hn bs hl hk)).mono ?_
  rintro e w' ⟨v, out, rfl, hO, hr, hv, hb⟩
  rw [packF_one] at hr
  have hI : IsOne bs k out := ⟨hr, hv⟩
  obtain ⟨g, c, rfl, _, hg⟩ := own_shape hO hI.pos
  refine ⟨g, c, out, by rw [hI.len], hg, fun j hj => ?_, hI, (((Below.refl w.heap.size w).alloc (Nat.le_refl _) _).alloc (by simp) _).trans (hb.mono (by simp; omega))⟩
  rw [Nat.zero_add]
  have := hO.cellAt j (by omega)
  rw [this]
  simp [List.getD, hj]
end Go.Proofs.YtekgcoajgbpniacGreat

/-
  Best.
-/
namespace Go.Proofs.YtekgcoajgbpniacGreat
open Go.RowKit
set_option linter.unusedVariables false
set_option maxRecDepth 100000

theorem idx0 (W : World) : (Instr.index 52 (.agg #[.int .i64 0, .int .i64 1, .int .i64 2]) (.int .i64 0)).run Tryz.prog W = .ok (.int .i64 0) W := by kernel_rfl
theorem idx1 (W : World) : (Instr.index 52 (.agg #[.int .i64 0, .int .i64 1, .int .i64 2]) (.int .i64 1)).run Tryz.prog W = .ok (.int .i64 1) W := by kernel_rfl
theorem idx2 (W : World) : (Instr.index 52 (.agg #[.int .i64 0, .int .i64 1, .int .i64 2]) (.int .i64 2)).run Tryz.prog W = .ok (.int .i64 2) W := by kernel_rfl
theorem idxK (k : Nat) (hk : k ≤ 2) (W : World) : (Instr.index 52 (.agg #[.int .i64 0, .int .i64 1, .int .i64 2]) (.int .i64 (k : Int))).run Tryz.prog W = .ok (.int .i64 (k : Int)) W := by
  rcases (by omega : k = 0 ∨ k = 1 ∨ k = 2) with rfl | rfl | rfl
  · exact idx0 W
  · exact idx1 W
  · exact idx2 W

theorem bestP_next (bs : List Nat) (k : Nat) (h : 0 < k) : bestP bs (k + 1) = if lenP bs k < lenP bs (bestP bs k) then k else bestP bs k := by
  obtain ⟨q, rfl⟩ : ∃ q, k = q + 1 := ⟨k - 1, by omega⟩
  rfl

theorem best_many (a : Option Addr) (n cap : Nat) (bs : List Nat) (w : World) (hl : bs.length = n) (hcap : n ≤ cap) (hnil : a = none → cap = 0) (hB : BytesIn w a bs) (hx : ∀ j, bs.getD j 0 < 256) (hm : n ≤ 9223372036854775807) (hn : 3000 < n) :
    Calls Tryz.prog 11 #[.slice a n cap] w fun e w' => e = .returned (.tuple #[.slice none 0 0, .int .i64 0, .int .i64 2]) ∧ Below w.heap.size w w' := by
  have HC := hide (fun T U => one_many a n cap 0 bs w T U hl hcap hnil hB hx hm hn)
  clear hB hx hnil
  go_enter Tryz.func11, Tryz.ntmps11
  go_wp2
  go_loopw [2, 3, 10] (fun v2 v3 v10 wr => v2 = .slice none 0 0 ∧ v3 = .int .i64 0 ∧ v10 = .int .i64 0 ∧ wr = w) (fun _ _ _ _ => 0)
  case atStart => exact ⟨rfl, rfl, rfl, rfl⟩
  case round =>
    obtain ⟨rfl, rfl, rfl, rfl⟩ := hrel
    have hix := idx0
    go_wp2_with fail
    refine (unhide HC _ _).mono ?_
    rintro e w1 ⟨rfl, hB1⟩
    have HB1 := hide hB1
    clear hB1
    go_wp2
    go_ret3
    exact ⟨rfl, unhide HB1⟩

set_option maxHeartbeats 1000000 in
theorem best_ok (a : Option Addr) (n cap : Nat) (bs : List Nat) (w : World) (hl : bs.length = n) (hcap : n ≤ cap) (hnil : a = none → cap = 0) (hB : BytesIn w a bs) (hx : ∀ j, bs.getD j 0 < 256) (hn : n ≤ 3000) :
    Calls Tryz.prog 11 #[.slice a n cap] w fun e w' => ∃ g c out, e = .returned (.tuple #[.slice (some ⟨g, 0, none⟩) (lenP bs (bestP bs 3)) c, .int .i64 (bestP bs 3 : Nat), .int .i64 0]) ∧ g < w'.heap.size ∧ Bytes w' g 0 out ∧ IsOne bs (bestP bs 3) out ∧ Below w.heap.size w w' := by
  have HC := hide (fun (W : World) (k : Nat) (hk : k ≤ 2) (hW : Below w.heap.size w W) T U => one_ok a n cap k bs W T U hl hcap hnil (hB.below hW (Nat.le_refl _)) hx hn hk)
  clear hB hx hnil
  have hI0 : (#[Value.int .i64 0, Value.int .i64 1, Value.int .i64 2] : Array Value).size = 3 := rfl
  go_enter Tryz.func11, Tryz.ntmps11
  go_wp2
  go_loopw [2, 3, 10] (fun v2 v3 v10 wr => ∃ k : Nat, k ≤ 3 ∧ v10 = .int .i64 (k : Int) ∧ Below w.heap.size w wr ∧ ((k = 0 ∧ v2 = .slice none 0 0 ∧ v3 = .int .i64 0) ∨ (0 < k ∧ ∃ g c out, v2 = .slice (some ⟨g, 0, none⟩) (lenP bs (bestP bs k)) c ∧ v3 = .int .i64 (bestP bs k : Nat) ∧ g < wr.heap.size ∧ Bytes wr g 0 out ∧ IsOne bs (bestP bs k) out))) (fun _ _ v10 _ => 3 - (intOf v10).toNat)
  case atStart => exact ⟨0, by decide, rfl, Below.refl _ _, .inl ⟨rfl, rfl, rfl⟩⟩
  case round =>
    obtain ⟨k, hk, rfl, hBw, hs⟩ := hrel
    have HBw := hide hBw
    clear hBw
    by_cases h3 : k = 3
    · subst h3
      rcases hs with ⟨h, _⟩ | ⟨_, g, c, out, rfl, rfl, hg, hby, hI⟩
      · omega
      · have HF := hide (And.intro hg (And.intro hby hI))
        clear hg hby hI
        go_wp2
        go_ret3
        exact ⟨g, c, out, rfl, (unhide HF).1, (unhide HF).2.1, (unhide HF).2.2, unhide HBw⟩
    · have hk2 : k ≤ 2 := by omega
      have hz := (unhide HBw).size
      have HCk := hide (fun T U => unhide HC wr k hk2 (unhide HBw) T U)
      clear HC
      rcases hs with ⟨rfl, rfl, rfl⟩ | ⟨h0, g, c, out, rfl, rfl, hg, hby, hI⟩
      · have hix := idx0
        go_wp2_with fail
        refine (unhide HCk _ _).mono ?_
        rintro e w1 ⟨g1, c1, out1, rfl, hg1, hby1, hI1, hB1⟩
        have HF := hide (And.intro hg1 (And.intro hby1 (And.intro hI1 ((unhide HBw).trans (hB1.mono hz)))))
        have e1 : bestP bs 1 = 0 := rfl
        clear hg1 hby1 hI1 hB1
        go_wp2
        rename_i hKK
        refine hKK _ _ ?_
        simp only [Act.put, List.setIfInBounds_toArray, List.set_cons_zero, List.set_cons_succ, Option.isNone]
        clear hKK
        go_wp2
        go_roundw
        case rel => exact ⟨1, by decide, by go_num, (unhide HF).2.2.2, .inr ⟨by decide, g1, c1, out1, by rw [e1], by rw [e1]; rfl, (unhide HF).1, (unhide HF).2.1, by rw [e1]; exact (unhide HF).2.2.1⟩⟩
        case measure => simp [intOf]
      · have HS := hide (And.intro hg (And.intro hby hI))
        have hix := idxK k hk2
        have hbp := bestP_next bs k h0
        clear hg hby hI
        have hqI : (k : Int) < 3 := by omega
        obtain ⟨B, hBB⟩ : ∃ B, bestP bs k = B := ⟨_, rfl⟩
        rw [hBB] at hbp HS ⊢
        obtain ⟨l1, hl1⟩ : ∃ l1, lenP bs k = l1 := ⟨_, rfl⟩
        obtain ⟨l2, hl2⟩ : ∃ l2, lenP bs B = l2 := ⟨_, rfl⟩
        rw [hl1, hl2] at hbp
        rw [hl1] at HCk
        rw [hl2]
        have HBP := hide hbp
        have HL1 := hide hl1
        have HL2 := hide hl2
        clear hbp hl1 hl2 hBB
        go_wp2_with fail
        refine (unhide HCk _ _).mono ?_
        rintro e w1 ⟨g1, c1, out1, rfl, hg1, hby1, hI1, hB1⟩
        have HF := hide (And.intro hg1 (And.intro hby1 (And.intro hI1 ((unhide HBw).trans (hB1.mono hz)))))
        have HK := hide (And.intro (Nat.lt_of_lt_of_le (unhide HS).1 hB1.size) ((unhide HS).2.1.below hB1 (unhide HS).1))
        clear hg1 hby1 hI1 hB1
        by_cases hlt : l1 < l2
        · have hltI : (l1 : Int) < (l2 : Int) := by omega
          have hb : Hid (bestP bs (k + 1) = k) := hide (by rw [unhide HBP, if_pos hlt])
          clear hlt
          go_wp2
          rename_i hKK
          refine hKK _ _ ?_
          simp only [Act.put, List.setIfInBounds_toArray, List.set_cons_zero, List.set_cons_succ]
          clear hKK
          go_wp2
          go_roundw
          case rel => exact ⟨k + 1, by omega, by go_num, (unhide HF).2.2.2, .inr ⟨by omega, g1, c1, out1, by rw [unhide hb, unhide HL1], by rw [unhide hb], (unhide HF).1, (unhide HF).2.1, by rw [unhide hb]; exact (unhide HF).2.2.1⟩⟩
          case measure => simp [intOf]; omega
        · have hltI : ¬ (l1 : Int) < (l2 : Int) := by omega
          have hb : Hid (bestP bs (k + 1) = B) := hide (by rw [unhide HBP, if_neg hlt])
          clear hlt
          go_wp2
          rename_i hKK
          refine hKK _ _ ?_
          simp only [Act.put, List.setIfInBounds_toArray, List.set_cons_zero, List.set_cons_succ]
          clear hKK
          go_wp2
          go_roundw
          case rel => exact ⟨k + 1, by omega, by go_num, (unhide HF).2.2.2, .inr ⟨by omega, g, c, out, by rw [unhide hb, unhide HL2], by rw [unhide hb], (unhide HK).1, (unhide HK).2, by rw [unhide hb]; exact (unhide HS).2.2⟩⟩
          case measure => simp [intOf]; omega
end Go.Proofs.YtekgcoajgbpniacGreat

/-
  The library's bytes.Equal: it answers whether the two rows hold the same bytes.
-/
namespace Go.Proofs.YtekgcoajgbpniacGreat
open Go.RowKit
set_option linter.unusedVariables false
set_option maxRecDepth 100000

theorem bequal_runs (v1 v2 : Value) (s1 s2 : ByteArray) (w : World) (h1 : (convert 24 9 v1).run Tryz.prog w = .ok (.string s1) w) (h2 : (convert 24 9 v2).run Tryz.prog w = .ok (.string s2) w) :
    Calls Tryz.prog 7 #[v1, v2] w fun e w' => e = .returned (.bool (s1.toList == s2.toList)) ∧ w' = w := by
  go_enter Tryz.func7, Tryz.ntmps7
  go_wp2
  go_ret
  exact ⟨rfl, rfl⟩

/-- the text of these bytes -/
def strN (xs : List Nat) : ByteArray := ⟨(xs.map UInt8.ofNat).toArray⟩
theorem strN_toList (xs : List Nat) : (strN xs).toList = xs.map UInt8.ofNat := by
  rw [Lib.toList_data]; rfl
theorem strN_size (xs : List Nat) : (strN xs).size = xs.length := by simp [strN, ByteArray.size]

theorem conv_in (a : Option Addr) (len cap : Nat) (xs : List Nat) (w : World) (hl : xs.length = len) (hB : BytesIn w a xs) :
    (convert 24 9 (.slice a len cap)).run Tryz.prog w = .ok (.string (strN xs)) w := by
  rcases hB with rfl | ⟨b, o, rfl, _, hB⟩
  · obtain rfl : len = 0 := by simp at hl; omega
    rw [run_convert_bytes_string w 24 9 5 _ 0 cap Tryz.underlying24 Tryz.underlying5 Tryz.underlying9]
    cases a <;> simp [Conv.bytesToString, loadCells, strN]
    all_goals rfl
  · have h := run_convert_bytes_arg (P := Tryz.prog) w 24 5 Tryz.underlying24 Tryz.underlying5 b o len cap (xs.map fun x : Nat => (x : Int)) (by simpa using hl) (by
      intro i hi
      rw [hB i (by omega)]
      have : i < xs.length := by omega
      simp [List.getD, this]) 9 Tryz.underlying9
    rw [h]
    simp [strOfNums, strN, Function.comp_def]

theorem ofNat_inj {xs ys : List Nat} (hx : ∀ j, xs.getD j 0 < 256) (hy : ∀ j, ys.getD j 0 < 256) (h : xs.map UInt8.ofNat = ys.map UInt8.ofNat) : xs = ys := by
  have hl : xs.length = ys.length := by have := congrArg List.length h; simpa using this
  apply List.ext_getElem hl
  intro j h1 h2
  have e := congrArg (fun l : List UInt8 => l[j]?) h
  simp [h1, h2] at e
  have a1 := hx j
  have a2 := hy j
  simp [List.getD, h1] at a1
  simp [List.getD, h2] at a2
  have e2 := congrArg UInt8.toNat e
  simp only [UInt8.toNat_ofNat'] at e2
  omega

theorem bequal_in (a1 a2 : Option Addr) (l1 c1 l2 c2 : Nat) (xs ys : List Nat) (w : World) (h1 : xs.length = l1) (h2 : ys.length = l2) (hx : ∀ j, xs.getD j 0 < 256) (hy : ∀ j, ys.getD j 0 < 256) (hB1 : BytesIn w a1 xs) (hB2 : BytesIn w a2 ys) :
    Calls Tryz.prog 7 #[.slice a1 l1 c1, .slice a2 l2 c2] w fun e w' => e = .returned (.bool (xs == ys)) ∧ w' = w := by
  refine (bequal_runs _ _ (strN xs) (strN ys) w (conv_in a1 l1 c1 xs w h1 hB1) (conv_in a2 l2 c2 ys w h2 hB2)).mono ?_
  rintro e w' ⟨rfl, rfl⟩
  refine ⟨ret_bool ?_, rfl⟩
  rw [strN_toList, strN_toList, Bool.eq_iff_iff, beq_iff_eq, beq_iff_eq]
  exact ⟨ofNat_inj hx hy, fun h => by rw [h]⟩

end Go.Proofs.YtekgcoajgbpniacGreat
