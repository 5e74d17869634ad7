/-
  The walk of the law BitsBack where the numbers are packed.
-/
import Derived.Test.YtmafecagcglaoaaBack
import Derived.Test.YtmafecagcglaoaaBackNum
import Derived.Test.YtmafecagcglaoaaApp
namespace Go.Proofs.Ytmafecagcglaoaa
open Go.RowKit
set_option linter.unusedVariables false
set_option maxRecDepth 100000

theorem take_snd {ps : List (Int × Int)} {k : Nat} (hk : k < ps.length) {x y : Int} (h : ps.getD k (0, 0) = (x, y)) : iv ((ps.map (·.2)).take (k + 1)) = iv ((ps.map (·.2)).take k) ++ [.int .i64 y] ∧ iv ((ps.map (·.1)).take (k + 1)) = iv ((ps.map (·.1)).take k) ++ [.int .i64 x] := by
  have e : ps[k] = (x, y) := by simpa [List.getD, hk] using h
  constructor
  · rw [List.take_succ_eq_append_getElem (by simpa using hk)]; simp [iv, e]
  · rw [List.take_succ_eq_append_getElem (by simpa using hk)]; simp [iv, e]

/-- both appends behind one another -/
theorem both_app {r W w5 W2 w6 a : World} {B k g1 c1 g2 c2 : Nat} {vn vs : Value} {ns ss : List Value} {x y : Int} (h1 : App r W w5 B vn k ns x g1 c1) (h2 : App w5 W2 w6 B vs k ss y g2 c2) (hS : r.ownsRow B 3 1 vs k ss) (ha : vs.ownBlock = none ∨ vs.ownBlock ≠ vn.ownBlock) (hb : Below B a r) (hB : B ≤ r.heap.size) :
    w6.ownsRow B 3 1 (.slice (some ⟨g2, 0, none⟩) (k + 1) c2) (k + 1) (ss ++ [.int .i64 y]) ∧ w6.ownsRow B 3 1 (.slice (some ⟨g1, 0, none⟩) (k + 1) c1) (k + 1) (ns ++ [.int .i64 x]) ∧
      ((Value.slice (some ⟨g2, 0, none⟩) (k + 1) c2).ownBlock = none ∨ (Value.slice (some ⟨g2, 0, none⟩) (k + 1) c2).ownBlock ≠ (Value.slice (some ⟨g1, 0, none⟩) (k + 1) c1).ownBlock) ∧ Below B a w6 := by
  have hap := h1.apart hS ha
  refine ⟨h2.own, h2.other h1.own (.inr hap), .inr ?_, h2.below (h1.below hb hB) (Nat.le_trans hB h1.size)⟩
  have e : (some g2 : Option Nat) ≠ some g1 := by
    rcases h2.spot with e | e
    · rw [← e]; exact fun h => hap h.symm
    · have := h1.lt
      have := h2.base.size
      intro h
      have : g2 = g1 := by simpa using h
      omega
  exact e

set_option maxHeartbeats 800000 in
theorem back_yes (b o len cap : Nat) (ps : List (Int × Int)) (n s : Int) (w : World) (hl : ps.length = len) (hm : len ≤ 3000) (hpos : 0 < len) (hb : b < w.heap.size) (hP : Pairs w b o ps) (hf : AllFit ps) :
    Calls Try.prog 6 #[.slice (some ⟨b, o, none⟩) len cap, .int .i64 n, .int .i64 s] w fun e w' => e = .returned (.bool true) ∧ Below w.heap.size w w' := by
  obtain ⟨i0, hi, hz0, hz1, hz2⟩ := info_parts info_int
  have HP := hide hP
  have HF := hide hf
  have HL := hide hl
  go_enter Try.func6, Try.ntmps6
  go_wp2_with fail
  refine (pack_yes b o len cap ps _ hl hm hb hP hf).mono ?_
  rintro e w1 ⟨g, rfl, hO1, hB1, hg1⟩
  have HB1 := hide hB1
  have HO1 := hide hO1
  have hz1' := hB1.size
  have hgl := (hO1.lt g rfl).2
  clear hB1 hO1 hP hf hl
  go_wp2_with fail
  refine (turn_any _ _ _).mono ?_
  rintro e w2 ⟨m, f, rfl, rfl, hf⟩
  go_wp2_with fail
  refine (rowed_any _).mono ?_
  rintro e w3 ⟨rfl, hB3⟩
  have HB3 := hide hB3
  have hz3 := hB3.size
  clear hB3
  have HBB := hide ((unhide HB1).trans ((unhide HB3).mono hz1'))
  have hnn : (n != n) = false := by simp
  have hloop : True := trivial
  rcases hf with hf | ⟨hf, hT⟩
  rotate_left
  · go_wp2_with fail
    refine (unhide hT _).mono ?_
    rintro e w4 ⟨rfl, hw⟩
    obtain rfl := hw.symm
    clear hT hw
    go_wp2
    go_loopw [13, 14, 50] (fun vs vn i wr => ∃ k : Nat, k ≤ len ∧ i = .int .i64 k ∧ wr.ownsRow w3.heap.size 3 1 vs k (iv ((ps.map (·.2)).take k)) ∧ wr.ownsRow w3.heap.size 3 1 vn k (iv ((ps.map (·.1)).take k)) ∧
        (vs.ownBlock = none ∨ vs.ownBlock ≠ vn.ownBlock) ∧ Below w3.heap.size w3 wr) (fun _ _ i _ => len - (intOf i).toNat)
    case atStart => exact ⟨0, Nat.zero_le _, rfl, World.ownsRow_nil _ _ _ _, World.ownsRow_nil _ _ _ _, .inl rfl, Below.refl _ _⟩
    case round =>
      rename_i vs vn _
      obtain ⟨k, hk, rfl, hS, hN, hne, hB⟩ := hrel
      have HS := hide hS
      have HN := hide hN
      have HE := hide hne
      have HBr := hide hB
      have hzr := hB.size
      by_cases hlt : k < len
      · obtain ⟨c1, c2⟩ := (unhide HP) k (by rw [unhide HL]; exact hlt)
        have c1' := ((hB.cell (p := ⟨b, o + k * 2, none⟩) (by simp; omega)).trans ((unhide HBB).cell (p := ⟨b, o + k * 2, none⟩) hb)).trans c1
        have c2' := ((hB.cell (p := ⟨b, o + k * 2 + 1, none⟩) (by simp; omega)).trans ((unhide HBB).cell (p := ⟨b, o + k * 2 + 1, none⟩) hb)).trans c2
        clear c1 c2 hB hne hS hN
        generalize hx : ps.getD k (0, 0) = x at *
        obtain ⟨xn, xs⟩ := x
        have HX := hide hx
        clear hx
        simp only at *
        go_wp2
        have HN1 := hide ((unhide HN).alloc (Obj.cells #[Value.int .i64 xn, Value.int .i64 xs] 34))
        have HS1 := hide ((unhide HS).alloc (Obj.cells #[Value.int .i64 xn, Value.int .i64 xs] 34))
        have HB1r := hide ((unhide HBr).alloc hzr (Obj.cells #[Value.int .i64 xn, Value.int .i64 xs] 34))
        have q0 : (wr.alloc (Obj.cells #[Value.int .i64 xn, Value.int .i64 xs] 34)).cell? ⟨wr.heap.size, 0, none⟩ = some (.int .i64 xn) := by simp
        have q1 : (wr.alloc (Obj.cells #[Value.int .i64 xn, Value.int .i64 xs] 34)).cell? ⟨wr.heap.size, 1, none⟩ = some (.int .i64 xs) := by simp
        have hzr1 : w3.heap.size ≤ (wr.alloc (Obj.cells #[Value.int .i64 xn, Value.int .i64 xs] 34)).heap.size := by simp; omega
        have hzr2 : wr.heap.size < (wr.alloc (Obj.cells #[Value.int .i64 xn, Value.int .i64 xs] 34)).heap.size := by simp
        have NN := hide (fun j e => Nat.ne_of_lt ((unhide HN).lt j e).2)
        have NS := hide (fun j e => Nat.ne_of_lt ((unhide HS).lt j e).2)
        generalize wr.alloc (Obj.cells #[Value.int .i64 xn, Value.int .i64 xs] 34) = r at *
        have NM := hide (fun (b : Nat) (hb : r.heap.size ≤ b) j e => Nat.ne_of_lt (Nat.lt_of_lt_of_le ((unhide HN1).lt j e).2 hb))
        generalize wr.heap.size = bX at *
        have RX : Hid (∀ W, r.grownBy W none → W.cell? ⟨bX, 0, none⟩ = some (.int .i64 xn) ∧ W.cell? ⟨bX, 1, none⟩ = some (.int .i64 xs)) := fun W hW => ⟨hW.cell q0 (by simp), hW.cell q1 (by simp)⟩
        clear hi hz0 hz1 hz2 HS HN HBr HP HF
        go_region_held3 (fun w' => w'.cell? ⟨bX, 0, none⟩ = some (.int .i64 xn) ∧ w'.cell? ⟨bX, 1, none⟩ = some (.int .i64 xs)) (go_keep) (first | (refine step_app rfl (.tmp 54) (.tmp 57) rfl r w3.heap.size _ k _ rfl (unhide HN1) (by omega) (by omega) _ rfl xn (by repeat (first | with_reducible exact grown_refl _ _ | with_reducible refine grown_drew ?_ | with_reducible refine ga ?_ _)) (by repeat (first | with_reducible refine cell_drew ?_ | with_reducible exact cell_last (by simp) | with_reducible exact cell_prev (by simp))) ?_; intro g1 cap1 w5 A5; have k0 := A5.cell (unhide NN) (unhide RX _ A5.base).1; have k1 := A5.cell (unhide NN) (unhide RX _ A5.base).2) | (refine step_app rfl (.tmp 59) (.tmp 62) rfl w5 w3.heap.size _ k _ rfl (A5.other (unhide HS1) (unhide HE)) (by omega) (Nat.le_trans hzr1 A5.size) _ rfl xs (by repeat (first | with_reducible exact grown_refl _ _ | with_reducible refine grown_drew ?_ | with_reducible refine ga ?_ _)) (by repeat (first | with_reducible refine cell_drew ?_ | with_reducible exact cell_last (by simp) | (refine A5.cell (unhide NM _ (by simp)) ?_) | with_reducible exact cell_prev (by simp))) ?_; intro g2 cap2 w6 A6; have k0' := A6.cell (unhide NS) (A6.base.cell k0 (by simp)); have k1' := A6.cell (unhide NS) (A6.base.cell k1 (by simp))))
        all_goals
          go_wp2
          have R := both_app A5 A6 (unhide HS1) (unhide HE) (unhide HB1r) hzr1
          have T := take_snd (by rw [unhide HL]; exact hlt) (unhide HX)
          go_roundw
          case rel => exact ⟨k + 1, by omega, by go_num, by rw [T.1]; exact R.1, by rw [T.2]; exact R.2.1, R.2.2.1, R.2.2.2⟩
          case measure => simp [intOf]; omega
      · obtain rfl : k = len := by omega
        have hat := atL_le ps (unhide HF) k (by rw [unhide HL]; exact Nat.le_refl _)
        have hfull2 : (ps.map (·.2)).take k = ps.map (·.2) := List.take_of_length_le (by simp [unhide HL])
        have hfull1 : (ps.map (·.1)).take k = ps.map (·.1) := List.take_of_length_le (by simp [unhide HL])
        rw [hfull2] at hS
        rw [hfull1] at hN
        obtain ⟨gs, cs, rfl, hgs, hgs2⟩ := hS.form hpos
        obtain ⟨gn, cn, rfl, hgn, hgn2⟩ := hN.form hpos
        have HSf := hide hS
        have HNf := hide (RowIn.iv hN)
        have hXr := hide (((BytesIn.own (unhide HO1)).below (unhide HB3) (Nat.le_refl _)).below hB (Nat.le_refl _))
        have hRs : Hid (Row .i64 wr gs 0 (ps.map (·.2))) := by
          rcases RowIn.iv hS with e | ⟨b', o', e, _, h⟩
          · exfalso
            have := congrArg List.length e
            simp [unhide HL] at this
            omega
          · cases e; exact h
        clear hS hN hB hne HS HN HE hfull1 hfull2
        go_wp2_with fail
        refine (unpack_yes (some ⟨g, 0, none⟩) _ _ gs 0 k cs (rowL ps k) (ps.map (·.2)) wr (by omega) (by rw [rowL_length, unhide HL]) (rowL_lt ps k) (unhide hXr) (by simp [unhide HL]) hm hgs2 (unhide hRs) (allSize_of ps (unhide HF)) (by rw [sum_at]; omega)).mono ?_
        rintro e w5 ⟨g5, rfl, hO5, hB5, hg5⟩
        have hz5 := hB5.size
        have h1 := RowIn.own hO5
        rw [back_nums ps (unhide HF) k (unhide HL)] at h1
        have H1 := hide h1
        have H2 := hide ((unhide HNf).below hB5 (Nat.le_refl _))
        have H3 := hide ((unhide HBB).trans (((unhide HBr).mono (by omega)).trans (hB5.mono (by omega))))
        clear hO5 hB5 h1
        go_wp2_with fail
        refine (equal_in _ _ _ _ _ _ (ps.map (·.1)) (ps.map (·.1)) _ (by simp [unhide HL]) (by simp [unhide HL]) (by omega) (by omega) (unhide H1) (unhide H2)).mono ?_
        rintro e w6 ⟨rfl, q, rfl⟩
        have e1 : (ps.map (·.1) == ps.map (·.1)) = true := by simp
        rw [e1]
        go_wp2
        go_ret
        exact ⟨rfl, below_drewN (unhide H3) q⟩
  · go_wp2
    go_loopw [13, 14, 50] (fun vs vn i wr => ∃ k : Nat, k ≤ len ∧ i = .int .i64 k ∧ wr.ownsRow w3.heap.size 3 1 vs k (iv ((ps.map (·.2)).take k)) ∧ wr.ownsRow w3.heap.size 3 1 vn k (iv ((ps.map (·.1)).take k)) ∧
        (vs.ownBlock = none ∨ vs.ownBlock ≠ vn.ownBlock) ∧ Below w3.heap.size w3 wr) (fun _ _ i _ => len - (intOf i).toNat)
    case atStart => exact ⟨0, Nat.zero_le _, rfl, World.ownsRow_nil _ _ _ _, World.ownsRow_nil _ _ _ _, .inl rfl, Below.refl _ _⟩
    case round =>
      rename_i vs vn _
      obtain ⟨k, hk, rfl, hS, hN, hne, hB⟩ := hrel
      have HS := hide hS
      have HN := hide hN
      have HE := hide hne
      have HBr := hide hB
      have hzr := hB.size
      by_cases hlt : k < len
      · obtain ⟨c1, c2⟩ := (unhide HP) k (by rw [unhide HL]; exact hlt)
        have c1' := ((hB.cell (p := ⟨b, o + k * 2, none⟩) (by simp; omega)).trans ((unhide HBB).cell (p := ⟨b, o + k * 2, none⟩) hb)).trans c1
        have c2' := ((hB.cell (p := ⟨b, o + k * 2 + 1, none⟩) (by simp; omega)).trans ((unhide HBB).cell (p := ⟨b, o + k * 2 + 1, none⟩) hb)).trans c2
        clear c1 c2 hB hne hS hN
        generalize hx : ps.getD k (0, 0) = x at *
        obtain ⟨xn, xs⟩ := x
        have HX := hide hx
        clear hx
        simp only at *
        go_wp2
        have HN1 := hide ((unhide HN).alloc (Obj.cells #[Value.int .i64 xn, Value.int .i64 xs] 34))
        have HS1 := hide ((unhide HS).alloc (Obj.cells #[Value.int .i64 xn, Value.int .i64 xs] 34))
        have HB1r := hide ((unhide HBr).alloc hzr (Obj.cells #[Value.int .i64 xn, Value.int .i64 xs] 34))
        have q0 : (wr.alloc (Obj.cells #[Value.int .i64 xn, Value.int .i64 xs] 34)).cell? ⟨wr.heap.size, 0, none⟩ = some (.int .i64 xn) := by simp
        have q1 : (wr.alloc (Obj.cells #[Value.int .i64 xn, Value.int .i64 xs] 34)).cell? ⟨wr.heap.size, 1, none⟩ = some (.int .i64 xs) := by simp
        have hzr1 : w3.heap.size ≤ (wr.alloc (Obj.cells #[Value.int .i64 xn, Value.int .i64 xs] 34)).heap.size := by simp; omega
        have hzr2 : wr.heap.size < (wr.alloc (Obj.cells #[Value.int .i64 xn, Value.int .i64 xs] 34)).heap.size := by simp
        have NN := hide (fun j e => Nat.ne_of_lt ((unhide HN).lt j e).2)
        have NS := hide (fun j e => Nat.ne_of_lt ((unhide HS).lt j e).2)
        generalize wr.alloc (Obj.cells #[Value.int .i64 xn, Value.int .i64 xs] 34) = r at *
        have NM := hide (fun (b : Nat) (hb : r.heap.size ≤ b) j e => Nat.ne_of_lt (Nat.lt_of_lt_of_le ((unhide HN1).lt j e).2 hb))
        generalize wr.heap.size = bX at *
        have RX : Hid (∀ W, r.grownBy W none → W.cell? ⟨bX, 0, none⟩ = some (.int .i64 xn) ∧ W.cell? ⟨bX, 1, none⟩ = some (.int .i64 xs)) := fun W hW => ⟨hW.cell q0 (by simp), hW.cell q1 (by simp)⟩
        clear hi hz0 hz1 hz2 HS HN HBr HP HF
        go_region_held3 (fun w' => w'.cell? ⟨bX, 0, none⟩ = some (.int .i64 xn) ∧ w'.cell? ⟨bX, 1, none⟩ = some (.int .i64 xs)) (go_keep) (first | (refine step_app rfl (.tmp 54) (.tmp 57) rfl r w3.heap.size _ k _ rfl (unhide HN1) (by omega) (by omega) _ rfl xn (by repeat (first | with_reducible exact grown_refl _ _ | with_reducible refine grown_drew ?_ | with_reducible refine ga ?_ _)) (by repeat (first | with_reducible refine cell_drew ?_ | with_reducible exact cell_last (by simp) | with_reducible exact cell_prev (by simp))) ?_; intro g1 cap1 w5 A5; have k0 := A5.cell (unhide NN) (unhide RX _ A5.base).1; have k1 := A5.cell (unhide NN) (unhide RX _ A5.base).2) | (refine step_app rfl (.tmp 59) (.tmp 62) rfl w5 w3.heap.size _ k _ rfl (A5.other (unhide HS1) (unhide HE)) (by omega) (Nat.le_trans hzr1 A5.size) _ rfl xs (by repeat (first | with_reducible exact grown_refl _ _ | with_reducible refine grown_drew ?_ | with_reducible refine ga ?_ _)) (by repeat (first | with_reducible refine cell_drew ?_ | with_reducible exact cell_last (by simp) | (refine A5.cell (unhide NM _ (by simp)) ?_) | with_reducible exact cell_prev (by simp))) ?_; intro g2 cap2 w6 A6; have k0' := A6.cell (unhide NS) (A6.base.cell k0 (by simp)); have k1' := A6.cell (unhide NS) (A6.base.cell k1 (by simp))))
        all_goals
          go_wp2
          have R := both_app A5 A6 (unhide HS1) (unhide HE) (unhide HB1r) hzr1
          have T := take_snd (by rw [unhide HL]; exact hlt) (unhide HX)
          go_roundw
          case rel => exact ⟨k + 1, by omega, by go_num, by rw [T.1]; exact R.1, by rw [T.2]; exact R.2.1, R.2.2.1, R.2.2.2⟩
          case measure => simp [intOf]; omega
      · obtain rfl : k = len := by omega
        have hat := atL_le ps (unhide HF) k (by rw [unhide HL]; exact Nat.le_refl _)
        have hfull2 : (ps.map (·.2)).take k = ps.map (·.2) := List.take_of_length_le (by simp [unhide HL])
        have hfull1 : (ps.map (·.1)).take k = ps.map (·.1) := List.take_of_length_le (by simp [unhide HL])
        rw [hfull2] at hS
        rw [hfull1] at hN
        obtain ⟨gs, cs, rfl, hgs, hgs2⟩ := hS.form hpos
        obtain ⟨gn, cn, rfl, hgn, hgn2⟩ := hN.form hpos
        have HSf := hide hS
        have HNf := hide (RowIn.iv hN)
        have hXr := hide (((BytesIn.own (unhide HO1)).below (unhide HB3) (Nat.le_refl _)).below hB (Nat.le_refl _))
        have hRs : Hid (Row .i64 wr gs 0 (ps.map (·.2))) := by
          rcases RowIn.iv hS with e | ⟨b', o', e, _, h⟩
          · exfalso
            have := congrArg List.length e
            simp [unhide HL] at this
            omega
          · cases e; exact h
        clear hS hN hB hne HS HN HE hfull1 hfull2
        go_wp2_with fail
        refine (unpack_yes (some ⟨g, 0, none⟩) _ _ gs 0 k cs (rowL ps k) (ps.map (·.2)) wr (by omega) (by rw [rowL_length, unhide HL]) (rowL_lt ps k) (unhide hXr) (by simp [unhide HL]) hm hgs2 (unhide hRs) (allSize_of ps (unhide HF)) (by rw [sum_at]; omega)).mono ?_
        rintro e w5 ⟨g5, rfl, hO5, hB5, hg5⟩
        have hz5 := hB5.size
        have h1 := RowIn.own hO5
        rw [back_nums ps (unhide HF) k (unhide HL)] at h1
        have H1 := hide h1
        have H2 := hide ((unhide HNf).below hB5 (Nat.le_refl _))
        have H3 := hide ((unhide HBB).trans (((unhide HBr).mono (by omega)).trans (hB5.mono (by omega))))
        clear hO5 hB5 h1
        go_wp2_with fail
        refine (equal_in _ _ _ _ _ _ (ps.map (·.1)) (ps.map (·.1)) _ (by simp [unhide HL]) (by simp [unhide HL]) (by omega) (by omega) (unhide H1) (unhide H2)).mono ?_
        rintro e w6 ⟨rfl, q, rfl⟩
        have e1 : (ps.map (·.1) == ps.map (·.1)) = true := by simp
        rw [e1]
        go_wp2
        go_ret
        exact ⟨rfl, below_drewN (unhide H3) q⟩
end Go.Proofs.Ytmafecagcglaoaa
