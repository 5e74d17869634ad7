/-
  The law MergeShown, walked: which of any files are shown, and which others lack, is told as the document says, errors too.
-/
import Derived.Test.YtfojmdbpjkkpbaeDoorMg13
import Derived.Test.YtfojmdbpjkkpbaeDoorMg14
import Derived.Test.YtfojmdbpjkkpbaeDoorMg15
import Derived.Test.YtfojmdbpjkkpbaeDoorMg16
namespace Go.Proofs.YtfojmdbpjkkpbaeDoor
open Go.RowKit
set_option linter.unusedVariables false
set_option maxRecDepth 100000

theorem cf_l {w : World} {v : Value} {a : List Fl} (h : LIn w v a) :
    Calls Tryd.prog 24 #[v] w fun e w' => e = .returned (.int .i64 (errM a : Nat)) ∧ Below w.heap.size w w' := by
  obtain ⟨ad, c, out, rfl, h2, h3⟩ := h
  refine (checkFiles_any ad c out w h2 _ (fls_len h3)).mono ?_
  rintro e w' ⟨rfl, ha⟩
  rw [h3]
  exact ⟨rfl, ha⟩
/-- what the loop holds -/
structure ShSt (w4 : World) (xs : List Fv) (L : Fl → Bool) (k : Nat) (v10 v11 : Value) (o1 o2 : List Fv) (wr : World) : Prop where
  r1 : GRow wr w4.heap.size v10 o1
  r2 : GRow wr w4.heap.size v11 o2
  ap : v10.ownBlock = none ∨ v10.ownBlock ≠ v11.ownBlock
  bel : Below w4.heap.size w4 wr
  l1 : fls o1 = ((fls xs).take k).filter (fun f => !f.gone)
  l2 : fls o2 = ((fls xs).take k).filter L
  n1 : o1.length ≤ k
  n2 : o2.length ≤ k
theorem filt_step {l : List Fl} {k : Nat} {x : Fl} (p : Fl → Bool) (hx : l[k]? = some x) : (l.take (k + 1)).filter p = (l.take k).filter p ++ (if p x then [x] else []) := by
  rw [List.take_add_one, hx, List.filter_append]
  congr 1
  cases h : p x <;> simp [h]

set_option maxHeartbeats 8000000 in
theorem shownLaw_any (a b : Value) (A B : List Fl) (w : World) (ha : LIn w a A) (hb : LIn w b B) :
    Calls Tryd.prog 7 #[a, b] w fun e w' => e = .returned (.bool true) ∧ Below w.heap.size w w' := by
  have HA := hide ha
  have HB := hide hb
  obtain ⟨ad, c, xs, rfl, hxs, rfl⟩ := ha
  obtain ⟨bd, d, ys, rfl, hys, rfl⟩ := hb
  have HXS := hide hxs
  have HYS := hide hys
  obtain ⟨n, hn⟩ : ∃ n, (fls xs).length = n := ⟨_, rfl⟩
  obtain ⟨m, hm⟩ : ∃ m, (fls ys).length = m := ⟨_, rfl⟩
  rw [hn] at HA ⊢
  rw [hm] at HB ⊢
  have hxn : xs.length = n := by rw [← hn]; simp [fls]
  have hyn : ys.length = m := by rw [← hm]; simp [fls]
  have hlim := hxs.lim
  rw [hxn] at hlim
  have HN := hide hxn
  have HM := hide hyn
  have HFN := hide hn
  have HFM := hide hm
  obtain ⟨EA, hEA⟩ : ∃ EA, errM (fls xs) = EA := ⟨_, rfl⟩
  obtain ⟨EB, hEB⟩ : ∃ EB, errM (fls ys) = EB := ⟨_, rfl⟩
  obtain ⟨EE, hEE⟩ : ∃ EE, errE (fls xs) (fls ys) = EE := ⟨_, rfl⟩
  have HC1 := hide (fun (W : World) (h : LIn W (.slice ad n c) (fls xs)) => shown_l h)
  have HC2 := hide (fun (W : World) (h : LIn W (.slice ad n c) (fls xs)) (k : LIn W (.slice bd m d) (fls ys)) => less_l h k)
  have HC3 := hide (fun (W : World) (h : LIn W (.slice ad n c) (fls xs)) => cf_l h)
  have HC4 := hide (fun (W : World) (h : LIn W (.slice bd m d) (fls ys)) => cf_l h)
  rw [hEA] at HC1 HC3
  rw [hEB] at HC4
  rw [hEE] at HC2
  have HE0 : Hid (EA = 0 → shownL (fls xs) = (fls xs).filter (fun f => !f.gone)) := by rw [← hEA]; intro h; unfold shownL; rw [if_pos h]
  have HE1 : Hid (EA ≠ 0 → shownL (fls xs) = []) := by rw [← hEA]; intro h; unfold shownL; rw [if_neg h]
  have HE2 : Hid (EE = 0 → lessL (fls xs) (fls ys) = (fls xs).filter (lackF (fls ys))) := by rw [← hEE]; intro h; unfold lessL; rw [if_pos h]
  have HE3 : Hid (EE ≠ 0 → lessL (fls xs) (fls ys) = []) := by rw [← hEE]; intro h; unfold lessL; rw [if_neg h]
  have HE4 : Hid ((EA ≠ 0 → EE = EA) ∧ (EA = 0 → EE = EB)) := by rw [← hEA, ← hEB, ← hEE]; exact ⟨errE_fst, errE_snd⟩
  clear hxs hys hn hm hxn hyn hEA hEB hEE
  go_enter Tryd.func7, Tryd.ntmps7
  go_wp2_with fail
  refine (unhide HC1 _ (unhide HA)).mono ?_
  rintro e w1 ⟨s, rfl, hls, hbw1⟩
  replace HA := hide ((unhide HA).below hbw1)
  replace HB := hide ((unhide HB).below hbw1)
  have Hs := hide hls
  have HBEL := hide hbw1
  clear hbw1 hls
  go_wp2_with fail
  refine (unhide HC2 _ (unhide HA) (unhide HB)).mono ?_
  rintro e w2 ⟨l, rfl, hll, hbw2⟩
  replace HA := hide ((unhide HA).below hbw2)
  replace HB := hide ((unhide HB).below hbw2)
  replace Hs := hide ((unhide Hs).below hbw2)
  have Hl := hide hll
  replace HBEL := hide ((unhide HBEL).trans (hbw2.mono (unhide HBEL).size))
  clear hbw2 hll
  go_wp2_with fail
  refine (unhide HC3 _ (unhide HA)).mono ?_
  rintro e w3 ⟨rfl, hbw3⟩
  replace HA := hide ((unhide HA).below hbw3)
  replace HB := hide ((unhide HB).below hbw3)
  replace Hs := hide ((unhide Hs).below hbw3)
  replace Hl := hide ((unhide Hl).below hbw3)
  replace HBEL := hide ((unhide HBEL).trans (hbw3.mono (unhide HBEL).size))
  clear hbw3
  go_wp2_with fail
  refine (merged_any _).mono ?_
  rintro e w4 ⟨rfl, hbw4⟩
  replace HA := hide ((unhide HA).below hbw4)
  replace HB := hide ((unhide HB).below hbw4)
  replace Hs := hide ((unhide Hs).below hbw4)
  replace Hl := hide ((unhide Hl).below hbw4)
  replace HBEL := hide ((unhide HBEL).trans (hbw4.mono (unhide HBEL).size))
  clear hbw4
  replace HXS := hide ((unhide HXS).below (unhide HBEL) (Nat.le_refl _))
  replace HYS := hide ((unhide HYS).below (unhide HBEL) (Nat.le_refl _))
  have HLT := hide (fun (x y : Fv) (W : World) (h : FvIn W x) (k : FvIn W y) => later_any x y W h k)
  go_wp2
  go_loopw [10, 11, 13, 14, 37] (fun v10 v11 _ _ i wr => ∃ (k : Nat) (o1 o2 : List Fv), k ≤ n ∧ i = .int .i64 (k : Int) ∧ Hid (ShSt w4 xs (lackF (fls ys)) k v10 v11 o1 o2 wr)) (fun _ _ _ _ i _ => n - (intOf i).toNat)
  case atStart => exact ⟨0, [], [], Nat.zero_le _, rfl, ⟨GRow.nil _ _, GRow.nil _ _, .inl rfl, Below.refl _ _, by simp, by simp, by simp, by simp⟩⟩
  case round =>
    obtain ⟨k, o1, o2, hk, rfl, HST⟩ := hrel
    by_cases hlt : k < n
    · obtain ⟨z, hz, hzm⟩ := get_of (xs := xs) (k := k) (by rw [unhide HN]; exact hlt)
      have hst := unhide HST
      obtain ⟨b, o, hA, hb, c0, c1, c2, c3, c4⟩ := (unhide HXS).get hst.bel hz
      have hzw := hst.bel.size
      have HZIN := hide ((unhide HXS).all z hzm)
      have hzf : (fls xs)[k]? = some z.f := by simp [fls, hz]
      have hzap : z.f.bytes ≠ [] → ∀ b o, z.a = some ⟨b, o, none⟩ → b < w4.heap.size := by
        intro hne b o e
        rcases (unhide HZIN).bs with ⟨_, h, _⟩ | ⟨h, _⟩ | ⟨b', o', h1, h2, _⟩
        · exact absurd h hne
        · exact absurd h hne
        · rw [h1] at e; cases e; exact h2
      have HZAP := hide hzap
      have HF1 := hide (filt_step (fun f => !f.gone) hzf)
      have HF2 := hide (filt_step (lackF (fls ys)) hzf)
      have hgz : z.f.gone = z.f.gone := rfl
      have hn1 := hst.n1
      have hn2 := hst.n2
      have hap := hst.ap
      have HAP := hide hap
      have hgb : ∀ g, u10.ownBlock = some g → g < wr.heap.size := fun g e => (hst.r1.lt e).2
      have HGB := hide hgb
      have HZC : Hid (z.cells = [.string (B z.f.name), .slice z.a z.f.bytes.length z.c, .int .i64 z.f.stamp, .int .i64 z.f.node, .bool z.f.gone]) := rfl
      have hzs : z.sl = .slice z.a z.f.bytes.length z.c := rfl
      rw [hzs] at c1
      have HLZ := hide (fun (y : Fv) (W : World) (h : FvIn W z) (k : FvIn W y) => unhide HLT z y W h k)
      rw [val_is] at HLZ
      have HLZ' : Hid (∀ (y : Fv) (W : World), FvIn W z → FvIn W y → Calls Tryd.prog 26 #[.agg #[.string (B z.f.name), .slice z.a z.f.bytes.length z.c, .int .i64 z.f.stamp, .int .i64 z.f.node, .bool z.f.gone], .agg #[.string (B y.f.name), .slice y.a y.f.bytes.length y.c, .int .i64 y.f.stamp, .int .i64 y.f.node, .bool y.f.gone]] W fun e w' => e = .returned (.int .i64 (nwr z.f y.f)) ∧ Below W.heap.size W w') := unhide HLZ
      clear HLZ hst hz hzm hzap hzf hap hgb hzs hgz
      subst hA
      obtain ⟨nx, hnx⟩ : ∃ nx, z.f.name = nx := ⟨_, rfl⟩
      obtain ⟨zg, hzg⟩ : ∃ zg, z.f.gone = zg := ⟨_, rfl⟩
      rw [hnx] at c0 HZC HLZ'
      rw [hzg] at c4 HZC HLZ' HF1
      have HNX := hide hnx
      clear hnx hzg
      obtain ⟨zt, hzt⟩ : ∃ zt, B nx = zt := ⟨_, rfl⟩
      rw [hzt] at c0 HZC HLZ'
      have HZT := hide hzt
      clear hzt
      generalize z.f.bytes.length = zn at *
      generalize z.f.stamp = zs at *
      generalize z.f.node = zd at *
      go_upto_if 43 with (fail)
      go_cut [10] (fun v wc => ∃ o1', Hid (ShSt w4 xs (lackF (fls ys)) k v u11 o1' o2 wc ∨ True) ∧ Hid (GRow wc w4.heap.size v o1' ∧ GRow wc w4.heap.size u11 o2 ∧ (v.ownBlock = none ∨ v.ownBlock ≠ u11.ownBlock) ∧ Below w4.heap.size w4 wc ∧ fls o1' = ((fls xs).take (k + 1)).filter (fun f => !f.gone) ∧ o1'.length ≤ k + 1 ∧ wc.heap[wr.heap.size]? = some (.cells #[.string zt, .slice z.a zn z.c, .int .i64 zs, .int .i64 zd, .bool zg] 40 (0, 0))))
      case first =>
        have hbx : Below wr.heap.size wr (wr.alloc (.cells #[.string zt, .slice z.a zn z.c, .int .i64 zs, .int .i64 zd, .bool zg] 40)) := bel_al (Below.refl _ _) _
        have HBX := hide hbx
        clear hbx
        cases zg with
        | true =>
          go_wp2_with fail
          go_meet
          have hst := unhide HST
          refine ⟨o1, .inr trivial, hst.r1.below (unhide HBX), hst.r2.below (unhide HBX), hst.ap, hst.bel.trans ((unhide HBX).mono hzw), ?_, by omega, heap_alloc_new _ _⟩
          rw [unhide HF1, hst.l1]
          simp
        | false =>
          have HW5 := hide (bel_al (unhide HBX) (.cells #[.string zt, .slice z.a zn z.c, .int .i64 zs, .int .i64 zd, .bool false] 40))
          have HR5 := hide ((unhide HST).r1.below (unhide HW5))
          have HR6 := hide ((unhide HST).r2.below (unhide HW5))
          have HV5 := hide ((unhide HZIN).below ((unhide HST).bel.trans ((unhide HW5).mono hzw)) (Nat.le_refl _))
          have HC5 : Hid (∀ j u, z.cells[j]? = some u → ((wr.alloc (.cells #[.string zt, .slice z.a zn z.c, .int .i64 zs, .int .i64 zd, .bool false] 40)).alloc (.cells #[.string zt, .slice z.a zn z.c, .int .i64 zs, .int .i64 zd, .bool false] 40)).cell? ⟨wr.heap.size + 1, j, none⟩ = some u) := by
            intro j u hj
            rw [unhide HZC] at hj
            rw [World.cell?_alloc_at _ _ _ _ (by rw [World.size_alloc])]
            simpa using hj
          go_wp2_with (at_builtin; refine wpList_append_fileG _ rfl _ _ rfl w4.heap.size _ o1 rfl (unhide HR5) (wr.heap.size + 1) z rfl (unhide HC5) (unhide HV5) (unhide HZAP) (by omega) (by simp; omega) ?_)
          intro v' w5 hR hG
          obtain ⟨hg1, hg2⟩ := unhide hG
          have HFIN : Hid (GRow w5 w4.heap.size v' (o1 ++ [z]) ∧ GRow w5 w4.heap.size u11 o2 ∧ (v'.ownBlock = none ∨ v'.ownBlock ≠ u11.ownBlock) ∧ Below w4.heap.size w4 w5 ∧ fls (o1 ++ [z]) = ((fls xs).take (k + 1)).filter (fun f => !f.gone) ∧ (o1 ++ [z]).length ≤ k + 1 ∧ w5.heap[wr.heap.size]? = some (.cells #[.string zt, .slice z.a zn z.c, .int .i64 zs, .int .i64 zd, .bool false] 40 (0, 0))) := by
            have hst := unhide HST
            have hlt1 : ∀ g, u10.ownBlock = some g → w4.heap.size ≤ g ∧ g < wr.heap.size := fun g e => hst.r1.lt e
            have hlt2 : ∀ g, u11.ownBlock = some g → w4.heap.size ≤ g ∧ g < wr.heap.size := fun g e => hst.r2.lt e
            refine ⟨unhide hR, (unhide HR6).grown hg1 (fun g e => (hlt1 g e).1) ?_, ?_, (hst.bel.trans ((unhide HW5).mono hzw)).grown hg1 (by simp; omega) (fun g e => (hlt1 g e).1), ?_, by simp; omega, ?_⟩
            · cases h11 : u11.ownBlock with
              | none => exact .inl rfl
              | some g =>
                refine .inr (fun e => ?_)
                rcases hst.ap with h | h
                · rw [h] at e; cases e
                · exact h (by rw [← e, h11])
            · cases h11 : u11.ownBlock with
              | none =>
                cases hv' : v'.ownBlock with
                | none => exact .inl rfl
                | some g => exact .inr (by simp)
              | some g =>
                rcases hg2 with e | e
                · rcases hst.ap with h | h
                  · left; rw [e, h]
                  · right; rw [e, ← h11]; exact h
                · right
                  rw [e]
                  intro e2
                  have := hlt2 g h11
                  have := Option.some.inj e2
                  try simp at this
                  omega
            · rw [unhide HF1, fls_snoc, hst.l1]
              simp
            · rw [hg1.block _ (by simp; omega) (fun e => by have := (hlt1 _ e.symm).2; omega), Below.heap_alloc _ _ _ (by simp), heap_alloc_new]
          clear hg1 hg2 hR hG
          go_wp2_with fail
          go_meet
          exact ⟨_, .inr trivial, HFIN⟩
      case rest =>
        rename World => wq
        obtain ⟨o1', _, HQ⟩ := hcut
        obtain ⟨q1, q2, q3, q4, q5, q6, q7⟩ := unhide HQ
        have hzq := q4.size
        have hgl : wr.heap.size < wq.heap.size := by
          rcases Nat.lt_or_ge wr.heap.size wq.heap.size with h' | h'
          · exact h'
          · rw [Array.getElem?_eq_none h'] at q7; cases q7
        have hg0 : wq.cell? ⟨wr.heap.size, 0, none⟩ = some (.string (B nx)) := by rw [unhide HZT]; exact heap_row q7
        have HIX := hide (indexName_any bd d ys wr.heap.size nx wq ((unhide HYS).below q4 (Nat.le_refl _)) m (unhide HM) hg0 hgl)
        have Q1 := hide q1
        have Q2 := hide q2
        have Q3 := hide q3
        have Q4 := hide q4
        have Q5 := hide q5
        have Q7 := hide q7
        clear HQ q1 q2 q3 q4 q5 q7 hg0 c0 c1 c2 c3 c4 HF1
        go_wp2_with fail
        refine (unhide HIX).mono ?_
        rintro e w6 ⟨r, rfl, hr, hb6⟩
        have h6 : w6.heap[wr.heap.size]? = some (.cells #[.string zt, .slice z.a zn z.c, .int .i64 zs, .int .i64 zd, .bool zg] 40 (0, 0)) := (hb6.block _ hgl).trans (unhide Q7)
        have H6 := hide h6
        have e0 : w6.cell? ⟨wr.heap.size, 0, none⟩ = some (.string zt) := heap_row h6
        have e1 : w6.cell? ⟨wr.heap.size, 1, none⟩ = some (.slice z.a zn z.c) := heap_row h6
        have e2 : w6.cell? ⟨wr.heap.size, 2, none⟩ = some (.int .i64 zs) := heap_row h6
        have e3 : w6.cell? ⟨wr.heap.size, 3, none⟩ = some (.int .i64 zd) := heap_row h6
        have e4 : w6.cell? ⟨wr.heap.size, 4, none⟩ = some (.bool zg) := heap_row h6
        have hz6 := hb6.size
        have HB6 := hide ((unhide Q4).trans (hb6.mono (unhide Q4).size))
        have Q1' := hide ((unhide Q1).below hb6)
        have Q2' := hide ((unhide Q2).below hb6)
        have HR := hide hr
        obtain ⟨lk, hlk⟩ : ∃ lk, lackF (fls ys) z.f = lk := ⟨_, rfl⟩
        rw [hlk] at HF2
        have HLK := hide hlk
        clear hb6 hr hlk h6 Q1 Q2 Q7 HIX
        go_upto_region 13 with fail
        go_cut [61] (fun v wc => v = .bool lk ∧ Hid (Below w6.heap.size w6 wc))
        case first =>
          rcases unhide HR with ⟨rfl, hnone⟩ | ⟨i, y, rfl, him, hy, hlook⟩
          · have hlk0 : lk = true := by rw [← unhide HLK]; unfold lackF; rw [unhide HNX, hnone]
            subst hlk0
            clear hnone
            go_wp2_with fail
            go_quiet (fail)
            go_wp2_with fail
            go_meet
            exact ⟨rfl, below_drewN (Below.refl _ _) _⟩
          · have hlk0 : lk = decide (0 < nwr z.f y.f) := by rw [← unhide HLK]; unfold lackF; rw [unhide HNX, hlook]
            obtain ⟨b2, o2', hbd, hb2, d0, d1, d2, d3, d4⟩ := (unhide HYS).get (unhide HB6) hy
            have hym : y ∈ ys := List.mem_of_getElem? hy
            have HCY := hide (fun (W : World) (hW : Below w4.heap.size w4 W) => unhide HLZ' y W ((unhide HZIN).below hW (Nat.le_refl _)) (((unhide HYS).all y hym).below hW (Nat.le_refl _)))
            obtain ⟨nw, hnw⟩ : ∃ nw, nwr z.f y.f = nw := ⟨_, rfl⟩
            rw [hnw] at HCY hlk0
            have hys : y.sl = .slice y.a y.f.bytes.length y.c := rfl
            rw [hys] at d1
            subst hlk0
            clear hlook hnw hys hym hy
            subst hbd
            generalize B y.f.name = t2 at *
            generalize y.f.bytes.length = n2 at *
            generalize y.f.stamp = s2 at *
            generalize y.f.node = nd2 at *
            generalize y.f.gone = g2 at *
            have hbr : b2 < w6.heap.size := by omega
            have hgr : wr.heap.size < w6.heap.size := by omega
            have k0 : ∀ W : World, Below w6.heap.size w6 W → W.cell? ⟨b2, o2' + i * 5, none⟩ = some (.string t2) := fun W hW => (hW.cell (p := ⟨b2, _, none⟩) hbr).trans d0
            have k1 : ∀ W : World, Below w6.heap.size w6 W → W.cell? ⟨b2, o2' + i * 5 + 1, none⟩ = some (.slice y.a n2 y.c) := fun W hW => (hW.cell (p := ⟨b2, _, none⟩) hbr).trans d1
            have k2 : ∀ W : World, Below w6.heap.size w6 W → W.cell? ⟨b2, o2' + i * 5 + 2, none⟩ = some (.int .i64 s2) := fun W hW => (hW.cell (p := ⟨b2, _, none⟩) hbr).trans d2
            have k3 : ∀ W : World, Below w6.heap.size w6 W → W.cell? ⟨b2, o2' + i * 5 + 3, none⟩ = some (.int .i64 nd2) := fun W hW => (hW.cell (p := ⟨b2, _, none⟩) hbr).trans d3
            have k4 : ∀ W : World, Below w6.heap.size w6 W → W.cell? ⟨b2, o2' + i * 5 + 4, none⟩ = some (.bool g2) := fun W hW => (hW.cell (p := ⟨b2, _, none⟩) hbr).trans d4
            have l0 : ∀ W : World, Below w6.heap.size w6 W → W.cell? ⟨wr.heap.size, 0, none⟩ = some (.string zt) := fun W hW => (hW.cell (p := ⟨wr.heap.size, 0, none⟩) hgr).trans e0
            have l1 : ∀ W : World, Below w6.heap.size w6 W → W.cell? ⟨wr.heap.size, 1, none⟩ = some (.slice z.a zn z.c) := fun W hW => (hW.cell (p := ⟨wr.heap.size, 1, none⟩) hgr).trans e1
            have l2 : ∀ W : World, Below w6.heap.size w6 W → W.cell? ⟨wr.heap.size, 2, none⟩ = some (.int .i64 zs) := fun W hW => (hW.cell (p := ⟨wr.heap.size, 2, none⟩) hgr).trans e2
            have l3 : ∀ W : World, Below w6.heap.size w6 W → W.cell? ⟨wr.heap.size, 3, none⟩ = some (.int .i64 zd) := fun W hW => (hW.cell (p := ⟨wr.heap.size, 3, none⟩) hgr).trans e3
            have l4 : ∀ W : World, Below w6.heap.size w6 W → W.cell? ⟨wr.heap.size, 4, none⟩ = some (.bool zg) := fun W hW => (hW.cell (p := ⟨wr.heap.size, 4, none⟩) hgr).trans e4
            have hq3 : (i : Int) < (m : Int) := by omega
            have hneg : decide ((i : Int) < 0) = false := decide_eq_false (by omega)
            have HB6d : Hid (Below w4.heap.size w4 w6.drew) := bel_dr (unhide HB6)
            clear e0 e1 e2 e3 e4 d0 d1 d2 d3 d4
            go_wp2_with fail
            go_region_held3 (fun W => Below w6.heap.size w6 W) (first | exact bel_dr (Below.refl _ _) | exact hb7) ((go_at_call 26; refine (unhide HCY _ (unhide HB6d)).mono ?_; rintro e w5' ⟨rfl, hb5⟩; have hb7 : Below w6.heap.size w6 w5' := (bel_dr (Below.refl _ _)).trans hb5; clear hb5))
            clear k0 k1 k2 k3 k4 l0 l1 l2 l3 l4
            go_wp2_with fail
            go_meet
            exact ⟨rfl, hb7⟩
        case rest =>
          rename World => w7
          obtain ⟨rfl, HB7⟩ := hcut
          have h7 : w7.heap[wr.heap.size]? = some (.cells #[.string zt, .slice z.a zn z.c, .int .i64 zs, .int .i64 zd, .bool zg] 40 (0, 0)) := ((unhide HB7).block _ (by omega)).trans (unhide H6)
          have f0 : w7.cell? ⟨wr.heap.size, 0, none⟩ = some (.string zt) := heap_row h7
          have f1 : w7.cell? ⟨wr.heap.size, 1, none⟩ = some (.slice z.a zn z.c) := heap_row h7
          have f2 : w7.cell? ⟨wr.heap.size, 2, none⟩ = some (.int .i64 zs) := heap_row h7
          have f3 : w7.cell? ⟨wr.heap.size, 3, none⟩ = some (.int .i64 zd) := heap_row h7
          have f4 : w7.cell? ⟨wr.heap.size, 4, none⟩ = some (.bool zg) := heap_row h7
          have hz7 := (unhide HB7).size
          have R1 := hide ((unhide Q1').below (unhide HB7))
          have R2 := hide ((unhide Q2').below (unhide HB7))
          have R4 := hide ((unhide HB6).trans ((unhide HB7).mono (unhide HB6).size))
          clear e0 e1 e2 e3 e4 h7 Q1' Q2' HR HLZ'
          cases lk with
          | false =>
            go_wp2
            go_roundw
            case rel =>
              refine ⟨k + 1, o1', o2, by omega, by go_num, ⟨unhide R1, unhide R2, unhide Q3, unhide R4, unhide Q5, ?_, q6, by omega⟩⟩
              rw [unhide HF2, (unhide HST).l2]
              simp
            case measure => simp [intOf]; omega
          | true =>
            have HW8 := hide (bel_al (Below.refl w7.heap.size w7) (.cells #[.string zt, .slice z.a zn z.c, .int .i64 zs, .int .i64 zd, .bool zg] 40))
            have R5 := hide ((unhide R1).below (unhide HW8))
            have R6 := hide ((unhide R2).below (unhide HW8))
            have HV5 := hide ((unhide HZIN).below ((unhide R4).trans ((unhide HW8).mono (unhide R4).size)) (Nat.le_refl _))
            have HC5 : Hid (∀ j u, z.cells[j]? = some u → (w7.alloc (.cells #[.string zt, .slice z.a zn z.c, .int .i64 zs, .int .i64 zd, .bool zg] 40)).cell? ⟨w7.heap.size, j, none⟩ = some u) := by
              intro j u hj
              rw [unhide HZC] at hj
              rw [World.cell?_alloc_at _ _ _ _ rfl]
              simpa using hj
            go_wp2_with (at_builtin; refine wpList_append_fileG _ rfl _ _ rfl w4.heap.size _ o2 rfl (unhide R6) w7.heap.size z rfl (unhide HC5) (unhide HV5) (unhide HZAP) (by omega) (by simp; omega) ?_)
            intro v' w8 hR hG
            obtain ⟨hg1, hg2⟩ := unhide hG
            have HFIN : Hid (GRow w8 w4.heap.size u10 o1' ∧ (u10.ownBlock = none ∨ u10.ownBlock ≠ v'.ownBlock) ∧ Below w4.heap.size w4 w8) := by
              have hlt1 : ∀ g, u10.ownBlock = some g → w4.heap.size ≤ g ∧ g < w7.heap.size := fun g e => (unhide R1).lt e
              have hlt2 : ∀ g, u11.ownBlock = some g → w4.heap.size ≤ g ∧ g < w7.heap.size := fun g e => (unhide R2).lt e
              refine ⟨(unhide R5).grown hg1 (fun g e => (hlt2 g e).1) (unhide Q3), ?_, ((unhide R4).trans ((unhide HW8).mono (unhide R4).size)).grown hg1 (by simp; omega) (fun g e => (hlt2 g e).1)⟩
              rcases hg2 with e | e
              · rw [e]; exact unhide Q3
              · cases h10 : u10.ownBlock with
                | none => exact .inl rfl
                | some g =>
                  right
                  rw [e]
                  intro e2
                  have := hlt1 g h10
                  have := Option.some.inj e2
                  try simp at this
                  omega
            have HR8 := hide (unhide hR)
            clear hg1 hg2 hR hG R5 R6 HV5 HC5
            go_wp2
            go_roundw
            case rel =>
              obtain ⟨t1, t2, t3⟩ := unhide HFIN
              refine ⟨k + 1, o1', o2 ++ [z], by omega, by go_num, ⟨t1, unhide HR8, t2, t3, unhide Q5, ?_, q6, by simp; omega⟩⟩
              rw [unhide HF2, fls_snoc, (unhide HST).l2]
              simp
            case measure => simp [intOf]; omega
    · obtain rfl : n = k := by omega
      have hst := unhide HST
      have h1 := hst.l1
      have h2 := hst.l2
      rw [List.take_of_length_le (by rw [unhide HFN]; exact Nat.le_refl _)] at h1 h2
      have L1 := hide (hst.r1.lin (by have := hst.n1; omega))
      have L2 := hide (hst.r2.lin (by have := hst.n2; omega))
      rw [h1] at L1
      rw [h2] at L2
      have hbe := hst.bel
      have Hs' := hide ((unhide Hs).below hbe)
      have Hl' := hide ((unhide Hl).below hbe)
      have HB' := hide ((unhide HB).below hbe)
      have HBE := hide ((unhide HBEL).trans (hbe.mono (unhide HBEL).size))
      clear hst h1 h2 hbe HST HXS HYS HLT Hs Hl HB HA HC1 HC2 HC3
      obtain ⟨as', cs', hss⟩ := (unhide Hs').shape
      obtain ⟨al, cl, hll⟩ := (unhide Hl').shape
      subst hss
      subst hll
      obtain ⟨S1, hS1⟩ : ∃ S1, shownL (fls xs) = S1 := ⟨_, rfl⟩
      obtain ⟨S2, hS2⟩ : ∃ S2, lessL (fls xs) (fls ys) = S2 := ⟨_, rfl⟩
      rw [hS1] at Hs' HE0 HE1
      rw [hS2] at Hl' HE2 HE3
      rw [hS1, hS2]
      clear hS1 hS2
      by_cases hA0 : EA = 0
      · subst hA0
        have hee : EE = EB := (unhide HE4).2 rfl
        subst hee
        have hs1 := unhide HE0 rfl
        have HSS := hide hs1
        obtain ⟨N1, hN1⟩ : ∃ N1, S1.length = N1 := ⟨_, rfl⟩
        rw [hN1] at Hs' ⊢
        clear hs1 hN1 HE0 HE1 HE4
        by_cases hB0 : EE = 0
        · subst hB0
          have hs2 := unhide HE2 rfl
          have HSL := hide hs2
          obtain ⟨N2, hN2⟩ : ∃ N2, S2.length = N2 := ⟨_, rfl⟩
          rw [hN2] at Hl' ⊢
          clear hs2 hN2 HE2 HE3
          go_wp2_with fail
          refine (same_yes (unhide Hs') (unhide L1) (unhide HSS)).mono ?_
          rintro e w5 ⟨rfl, hb5⟩
          replace Hl' := hide ((unhide Hl').below hb5)
          replace HB' := hide ((unhide HB').below hb5)
          replace L2 := hide ((unhide L2).below hb5)
          replace HBE := hide ((unhide HBE).trans (hb5.mono (unhide HBE).size))
          clear hb5
          go_wp2_with fail
          refine (unhide HC4 _ (unhide HB')).mono ?_
          rintro e w6 ⟨rfl, hb6⟩
          replace Hl' := hide ((unhide Hl').below hb6)
          replace L2 := hide ((unhide L2).below hb6)
          replace HBE := hide ((unhide HBE).trans (hb6.mono (unhide HBE).size))
          clear hb6
          go_wp2_with fail
          refine (same_yes (unhide Hl') (unhide L2) (unhide HSL)).mono ?_
          rintro e w7 ⟨rfl, hb7⟩
          replace HBE := hide ((unhide HBE).trans (hb7.mono (unhide HBE).size))
          clear hb7
          go_wp2
          go_ret
          exact ⟨rfl, unhide HBE⟩
        · have hs2 := unhide HE3 hB0
          subst hs2
          simp only [List.length_nil]
          have hbe : ((EE : Int) == (EE : Int)) = true := by simp
          clear HE2 HE3
          go_wp2_with fail
          refine (same_yes (unhide Hs') (unhide L1) (unhide HSS)).mono ?_
          rintro e w5 ⟨rfl, hb5⟩
          replace HB' := hide ((unhide HB').below hb5)
          replace HBE := hide ((unhide HBE).trans (hb5.mono (unhide HBE).size))
          clear hb5
          go_wp2_with fail
          refine (unhide HC4 _ (unhide HB')).mono ?_
          rintro e w6 ⟨rfl, hb6⟩
          replace HBE := hide ((unhide HBE).trans (hb6.mono (unhide HBE).size))
          clear hb6
          go_wp2
          go_ret
          exact ⟨rfl, unhide HBE⟩
      · have hee : EE = EA := (unhide HE4).1 hA0
        subst hee
        have hs1 := unhide HE1 hA0
        have hs2 := unhide HE3 hA0
        subst hs1
        subst hs2
        simp only [List.length_nil]
        have hbe : ((EE : Int) == 0) = false := by simpa using hA0
        have hbn : ((EE : Int) != 0) = true := by simpa using hA0
        have hbq : ((EE : Int) == (EE : Int)) = true := by simp
        clear HE0 HE1 HE2 HE3 HE4 Hs' Hl' L1 L2 HB' HC4
        go_wp2
        go_ret
        exact ⟨rfl, unhide HBE⟩
end Go.Proofs.YtfojmdbpjkkpbaeDoor
