/-
  What code.Read answers.
-/
import Derived.Test.YtmafecagcglaoaaCode9
namespace Go.Proofs.Ytmafecagcglaoaa
open Go.RowKit
set_option linter.unusedVariables false

/-- k places were read, one behind the other, from the beginning up to p -/
def ReadTo (l : List Int) (bs xs : List Nat) : Nat → Nat → Prop
  | 0, p => p = 0
  | k + 1, p' => ∃ p, ReadTo l bs xs k p ∧ Outcome l bs p (xs.getD k 0) 0 p'
theorem ReadTo.congr {l : List Int} {bs xs ys : List Nat} : ∀ {k p : Nat}, (∀ j, j < k → xs.getD j 0 = ys.getD j 0) → ReadTo l bs xs k p → ReadTo l bs ys k p
  | 0, _, _, h => h
  | k + 1, _, he, ⟨p, h1, h2⟩ => ⟨p, h1.congr (fun j hj => he j (by omega)), by rw [← he k (by omega)]; exact h2⟩
theorem ReadTo.set {l : List Int} {bs xs : List Nat} {k p p' x : Nat} (h : ReadTo l bs xs k p) (hk : k < xs.length) (ho : Outcome l bs p x 0 p') : ReadTo l bs (xs.set k x) (k + 1) p' := by
  refine ⟨p, h.congr (fun j hj => ?_), ?_⟩
  · simp only [List.getD_eq_getElem?_getD]
    rw [List.getElem?_set_ne (by omega)]
  · simp only [List.getD_eq_getElem?_getD]
    rw [List.getElem?_set_self hk]
    exact ho

theorem read_err (a : Option Addr) (len cap : Nat) (l : List Int) (v m : Value) (w : World) (hl : l.length = len) (hM : len ≤ 9223372036854775807) (hR : RowIn .i64 w a l) (he : errL l ≠ 0) :
    Calls Try.prog 43 #[.slice a len cap, v, m] w fun e w' => e = .returned (.tuple #[.slice none 0 0, .int .i64 (errL l)]) ∧ Below w.heap.size w w' := by
  have hb : (errL l != 0) = true := by rw [bne_iff_ne]; exact he
  go_enter Try.func43, Try.ntmps43
  go_wp2_with fail
  refine (count_any a len cap l w hl hM hR).mono ?_
  rintro e w1 ⟨rfl, hB1⟩
  have hz := hB1.size
  have HB := hide (hB1.alloc hz (.cells (arr (cntE l)) 73))
  clear hB1 he
  go_wp2_with (refine store_new rfl (.tmp 8) (.tmp 16) rfl w1 (fun _ => 0) (cntE l) rfl rfl rfl ?_)
  go_ret2
  exact ⟨rfl, unhide HB⟩

theorem read_many (a : Option Addr) (len cap : Nat) (l : List Int) (ad : Option Addr) (n2 c2 : Nat) (m : Int) (w : World) (hl : l.length = len) (hR : RowIn .i64 w a l) (hG : Good l) (hM2 : n2 ≤ 9223372036854775807) (hbad : 6000 < n2 ∨ m < 0 ∨ 3000 < m) :
    Calls Try.prog 43 #[.slice a len cap, .slice ad n2 c2, .int .i64 m] w fun e w' => e = .returned (.tuple #[.slice none 0 0, .int .i64 2]) ∧ Below w.heap.size w w' := by
  have HE := hide (good_errL hG)
  have HC := hide (cntE_good hG)
  have hlen := hG.len
  go_enter Try.func43, Try.ntmps43
  go_wp2_with fail
  refine (count_any a len cap l w hl (by omega) hR).mono ?_
  rintro e w1 ⟨rfl, hB1⟩
  rw [unhide HC, unhide HE]
  have hz := hB1.size
  have HB := hide (hB1.alloc hz (.cells (arr (cnt l)) 73))
  clear hB1 hR hG HC HE
  by_cases h1 : (6000 : Int) < (n2 : Int)
  · clear hbad
    go_wp2_with (refine store_new rfl (.tmp 8) (.tmp 16) rfl w1 (fun _ => 0) (cnt l) rfl rfl rfl ?_)
    go_ret2
    exact ⟨rfl, unhide HB⟩
  · by_cases h2 : m < 0
    · clear hbad
      go_wp2_with (refine store_new rfl (.tmp 8) (.tmp 16) rfl w1 (fun _ => 0) (cnt l) rfl rfl rfl ?_)
      go_ret2
      exact ⟨rfl, unhide HB⟩
    · have h3 : 3000 < m := by omega
      clear hbad
      go_wp2_with (refine store_new rfl (.tmp 8) (.tmp 16) rfl w1 (fun _ => 0) (cnt l) rfl rfl rfl ?_)
      go_ret2
      exact ⟨rfl, unhide HB⟩

/-- newReader, its tables as letters -/
theorem newReader_gen (a : Option Addr) (len cap : Nat) (l : List Int) (ad : Option Addr) (n2 c2 : Nat) (w : World) (hl : l.length = len) (hR : RowIn .i64 w a l) (hG : Good l) :
    Calls Try.prog 51 #[.slice a len cap, .agg (arr (cnt l)), .slice ad n2 c2] w fun e w' => ∃ br ov c f bg os no, e = .returned (.pointer (some ⟨br, 0, none⟩)) ∧ w.heap.size ≤ br ∧ Rdr w' br c f bg ov (.slice ad n2 c2) 0 ∧ w'.ownsRow (br + 1) 3 1 ov no (i64s os) ∧ Below w.heap.size w w' ∧
      Hid (c = cnt l) ∧ Hid (f = firstN (cnt l)) ∧ Hid (bg = begP l 15) ∧ Hid (os = ordN l 15) ∧ Hid (os.length = no) := by
  refine (newReader_any a len cap l ad n2 c2 w hl hR hG).mono ?_
  rintro e w' ⟨br, ov, h1, h2, h3, h4, h5⟩
  exact ⟨br, ov, _, _, _, _, _, h1, h2, h3, h4, h5, hide rfl, hide rfl, hide rfl, hide rfl, hide rfl⟩

theorem BytesBelow.below {w w' : World} {B : Nat} {a : Option Addr} {bs : List Nat} (h : BytesBelow w B a bs) (hB : Below B w w') : BytesBelow w' B a bs := by
  rcases h with h | ⟨b, o, h1, h2, h3⟩
  · exact .inl h
  · exact .inr ⟨b, o, h1, h2, h3.below hB h2⟩

set_option maxHeartbeats 2000000 in
set_option maxRecDepth 100000 in
theorem read_ok (a : Option Addr) (len cap : Nat) (l : List Int) (ad : Option Addr) (n2 c2 : Nat) (bs : List Nat) (m : Nat) (w : World) (hl : l.length = len) (hR : RowIn .i64 w a l) (hG : Good l)
    (hl2 : bs.length = n2) (hn : n2 ≤ 6000) (hx : ∀ j, bs.getD j 0 < 256) (hB2 : BytesIn w ad bs) (hm : m ≤ 3000) :
    Calls Try.prog 43 #[.slice a len cap, .slice ad n2 c2, .int .i64 (m : Int)] w fun e w' => Below w.heap.size w w' ∧
      ((∃ g xs p, e = .returned (.tuple #[.slice (some ⟨g, 0, none⟩) m m, .int .i64 0]) ∧ xs.length = m ∧ w'.ownsRow w.heap.size 3 1 (.slice (some ⟨g, 0, none⟩) m m) m (i64s xs) ∧ ReadTo l bs xs m p) ∨
       (∃ xs k p p' err, e = .returned (.tuple #[.slice none 0 0, .int .i64 err]) ∧ err ≠ 0 ∧ k < m ∧ ReadTo l bs xs k p ∧ Outcome l bs p 0 err p')) := by
  obtain ⟨i0, hi, hz0, hz1, hz2⟩ := info_parts info_int
  have HE := hide (good_errL hG)
  have HC := hide (cntE_good hG)
  have HG := hide hG
  have HX := hide hx
  have HR := hide hR
  have HB2 := hide hB2
  have hlen := hG.len
  go_enter Try.func43, Try.ntmps43
  go_wp2_with fail
  refine (count_any a len cap l w hl (by omega) hR).mono ?_
  rintro e w1 ⟨rfl, hB1⟩
  rw [unhide HC, unhide HE]
  have hz := hB1.size
  have HB := hide (hB1.alloc hz (.cells (arr (cnt l)) 73))
  have HA := hide (Arr.new w1 (cnt l) rfl)
  have hs1 : w.heap.size ≤ (w1.alloc (.cells (arr (cnt l)) 73)).heap.size := by simp; omega
  clear hB1 hR hG HC HE hx hB2
  go_wp2_with (first | (refine store_new rfl (.tmp 8) (.tmp 16) rfl w1 (fun _ => 0) (cnt l) rfl rfl rfl ?_) | (refine load_arr rfl (.tmp 8) rfl _ (cnt l) rfl (unhide HA) ?_))
  refine (newReader_gen a len cap l ad n2 c2 _ hl ((unhide HR).below (unhide HB) (Nat.le_refl _)) (unhide HG)).mono ?_
  rintro e w2 ⟨br, ov, c, f, bg, os, no, rfl, hbr, hD, hO, hB, Hc, Hf, Hbg, Hos, Hno⟩
  have HD := hide hD
  have HO := hide hO
  have HBw := hide ((unhide HB).trans (hB.mono hs1))
  have hbr2 : w.heap.size ≤ br := by omega
  have hbl := hD.lt
  have hsz := (unhide HBw).size
  clear hD hO hB HB HA hs1 hbr
  generalize arr (cnt l) = A1 at *
  go_wp2_with (at_make; refine wpList_make_full _ rfl _ _ 24 rfl w.heap.size 3 i0 (.int .i64 0) 1 Try.underlying24 hi hz0 hz1 _ _ _ _ m rfl rfl rfl rfl (by rw [hz2]; omega) (by unfold maxLen; omega) hsz ?_)
  intro w3 hown3 hgrow3
  have e0 : (madeCells #[Value.int .i64 0] m).toList = i64s (List.replicate m 0) := made_i64 m
  rw [e0] at hown3
  have hgl := (hown3.lt _ rfl).2
  have hne : br ≠ w2.heap.size := by omega
  have HP := hide hown3
  have HBw3 := hide (below_none (unhide HBw) hgrow3 hsz)
  have HD3 : Hid (Rdr w3 br c f bg ov (.slice ad n2 c2) 0) := (hgrow3.block br hbl (by simp)).trans (unhide HD)
  have HO3 := hide (own_kept (unhide HO) hgrow3)
  have HOne : Hid (ov.ownBlock ≠ some w2.heap.size) := fun e => by have := ((unhide HO).lt _ e).2; omega
  have HB3 : Hid (BytesBelow w3 br ad bs) := by
    rcases unhide HB2 with h | ⟨b, o, h1, h2, h3⟩
    · exact .inl h
    · exact .inr ⟨b, o, h1, by omega, h3.below (unhide HBw3) h2⟩
  clear hown3 hgrow3 e0 HBw HD HO HB2 HR
  generalize w2.heap.size = g at *
  go_wp2
  go_loopw [40] (fun i wr => ∃ (k p : Nat) (xs : List Nat), k ≤ m ∧ i = .int .i64 (k : Int) ∧ xs.length = m ∧ wr.ownsRow w.heap.size 3 1 (.slice (some ⟨g, 0, none⟩) m m) m (i64s xs) ∧ ReadTo l bs xs k p ∧ p ≤ 8 * n2 ∧
      Rdr wr br c f bg ov (.slice ad n2 c2) p ∧ wr.ownsRow (br + 1) 3 1 ov no (i64s os) ∧ BytesBelow wr br ad bs ∧ Below w.heap.size w wr) (fun i _ => m - (intOf i).toNat)
  case atStart => exact ⟨0, 0, List.replicate m 0, Nat.zero_le _, rfl, by simp, unhide HP, rfl, Nat.zero_le _, unhide HD3, unhide HO3, unhide HB3, unhide HBw3⟩
  case round =>
    obtain ⟨k, p, xs, hk, rfl, hxl, hP, hRT, hp, hD, hO, hBB, hBw⟩ := hrel
    have HP1 := hide hP
    have HRT := hide hRT
    have HD1 := hide hD
    have HO1 := hide hO
    have HBB := hide hBB
    have HBw1 := hide hBw
    have hbr3 := hD.lt
    by_cases hlt : k < m
    · clear hP hRT hD hO hBB hBw HP HD3 HO3 HB3 HBw3
      go_wp2_with fail
      refine (place_gen l (unhide HG) c f bg os no Hc Hf Hbg Hos Hno br ov ad n2 c2 p bs wr hl2 hn hp (unhide HX) (unhide HD1) (unhide HO1) (unhide HBB)).mono ?_
      rintro e w4 ⟨x, p', err, rfl, hout, hp', hD4, hg4⟩
      have HOut := hide hout
      have hP4 := (unhide HP1).kept hg4 (.inr (by simp [Value.ownBlock]; omega))
      obtain ⟨y, hy⟩ : ∃ y, xs.getD k 0 = y := ⟨_, rfl⟩
      have cg : w4.cell? ⟨g, k, none⟩ = some (.int .i64 ((y : Nat) : Int)) := by
        rw [hP4.cellAt k (by omega), ← hy]
        simp [List.getD, hxl, hlt]
      have fg := hP4.frozenAt k
      have HP4 := hide hP4
      have HD4 := hide hD4
      have HG4 := hide hg4
      have HBw4 := hide ((unhide HBw1).grown hg4 (unhide HBw1).size (fun j h => by cases h; exact hbr2))
      have HB5 := hide ((unhide HBw4).setCell (p := ⟨g, k, none⟩) hsz (.int .i64 (x : Int)))
      clear hout hD4 hg4 hP4 hy
      by_cases he : err = 0
      · subst he
        have HP5 := hide ((unhide HP4).stored k (.int .i64 (x : Int))).1
        have HD5 : Hid (Rdr (w4.setCell ⟨g, k, none⟩ (.int .i64 (x : Int))) br c f bg ov (.slice ad n2 c2) p') := (heap_setCell_other w4 _ br _ (by simpa using hne)).trans (unhide HD4)
        have HO5 := hide (((unhide HO1).kept (unhide HG4) (.inr (own_far (unhide HO1) (by omega)))).kept (grown_setCell w4 g k (.int .i64 (x : Int))) (.inr (unhide HOne)))
        have HBB5 := hide (((unhide HBB).grown (unhide HG4) hbr3).below ((Below.refl br w4).setCell (p := ⟨g, k, none⟩) (by simp; omega) (.int .i64 (x : Int))))
        have HRT5 := hide ((unhide HRT).set (by omega) (unhide HOut))
        have e5 : i64s (xs.set k x) = (i64s xs).set k (.int .i64 (x : Int)) := by rw [i64s, List.map_set]
        rw [← e5] at HP5
        have hxl5 : (xs.set k x).length = m := by rw [List.length_set]; exact hxl
        clear e5 HOut
        go_wp2
        go_roundw
        case rel => exact ⟨k + 1, p', xs.set k x, by omega, by go_num, hxl5, unhide HP5, unhide HRT5, hp', unhide HD5, unhide HO5, unhide HBB5, unhide HB5⟩
        case measure => simp [intOf]; omega
      · have hb : (err != 0) = true := by rw [bne_iff_ne]; exact he
        have hx0 : x = 0 := by
          rcases unhide HOut with ⟨_, _, _, _, _, _, _, h, _⟩ | ⟨_, _, _, _, _, _, h⟩ | ⟨_, _, _, _, h⟩
          · exact absurd h he
          · exact h
          · exact h
        subst hx0
        go_wp2
        go_ret2
        exact ⟨unhide HB5, .inr ⟨xs, k, p, p', err, rfl, he, hlt, unhide HRT, unhide HOut⟩⟩
    · obtain rfl : k = m := by omega
      clear hP hRT hD hO hBB hBw HP HD3 HO3 HB3 HBw3
      go_wp2
      go_ret2
      exact ⟨unhide HBw1, .inl ⟨g, xs, p, rfl, hxl, unhide HP1, unhide HRT⟩⟩
end Go.Proofs.Ytmafecagcglaoaa
