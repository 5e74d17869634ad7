import Derived.Test.YtcdnbiiaoaeflafGreatDoorQ43
import Derived.Test.YtcdnbiiaoaeflafGreatDoorQ46
import Derived.Test.YtcdnbiiaoaeflafGreatDoorQ45
import Derived.Shelf.Slices.Equal
import Derived.Shelf.Slices.Empties2
import Derived.Lib.SlBytesConst
import Derived.Test.YtcdnbiiaoaeflafGreatDoorQ23
set_option maxHeartbeats 4000000
namespace Go.Proofs.YtcdnbiiaoaeflafGreatDoor
open Go.RowKit
set_option linter.unusedVariables false
set_option maxRecDepth 100000
def WrA (w : World) (fs : List Fl) (e : Ending) (w' : World) : Prop :=
 Below w.heap.size w w' /\ ((errM fs ≠ 0 /\ e = .returned (.tuple #[.slice none 0 0, .int .i64 (errM fs : Nat)])) \/ (errM fs = 0 /\ ∃ l : List En, l.map En.f = fs /\ (∀ x ∈ l, EOf x) /\ ((12000 < (archL l).length /\ e = .returned (.tuple #[.slice none 0 0, .int .i64 11])) \/ ((archL l).length <= 12000 /\ ∃ a c, e = .returned (.tuple #[.slice a (archL l).length c, .int .i64 0]) /\ (archL l).length <= c /\ PkIn w' a c (archL l)))))
theorem row_string {w : World} {Bs : Nat} {v : Value} {xs : List Ev} {g : Nat} (h : ERow w Bs v xs) (hg : v.ownBlock = some g) (hne : xs ≠ []) : ∃ s, w.cell? ⟨g, 0, none⟩ = some (.string s) := by
 obtain ⟨ad, c, rfl, hes⟩ := h.entries
 cases xs with
 | nil => exact absurd rfl hne
 | cons x r =>
  rcases hes.at_ with h1 | ⟨b, o, rfl, hb, hE⟩
  . cases h1
  . have h0 := hE 0 x rfl 0 (by decide)
    have hsh := own_shape h.own (by simp)
    obtain ⟨g', cap, hv, _⟩ := hsh
    cases hv
    cases hg
    have h1 : w.cell? ⟨b, 0 + 0 * 8 + 0, none⟩ = some (.string (B x.e.f.name)) := h0
    exact ⟨_, h1⟩
theorem EOf.num {x : En} (h : EOf x) (hv : errV x.f = 0) : ENum x /\ ∀ y ∈ x.pk, y < 256 := by
 obtain ⟨h1, h2, h3, h4, h5, h6⟩ := errV_num hv
 have hcr : x.crc < 4294967296 := by rw [h.cr]; exact crcN_lt (n8_val _) (by decide)
 obtain ⟨out, ho, (⟨q1, q2, q3⟩ | ⟨q1, q2, q3⟩)⟩ := h.pk
 . exact ⟨⟨⟨h3, h4⟩, ⟨h5, h6⟩, h1, h2, by rw [q3]; omega, hcr, by rw [q2]; decide⟩, by rw [q3]; exact getD_val ho.val⟩
 . exact ⟨⟨⟨h3, h4⟩, ⟨h5, h6⟩, h1, h2, by rw [q3, n8_len]; omega, hcr, by rw [q2]; decide⟩, by rw [q3]; exact n8_val _⟩
theorem zwrite_any (ad : Option Addr) (c n : Nat) (xs : List Fv) (w : World) (h : FsIn w ad c xs) (hn : xs.length = n) :
 Calls Tryz.prog 6 #[.slice ad n c] w fun e w' => WrA w (fls xs) e w' := by
 have HCC := Hd (check_files ad c xs w h n hn)
 obtain ⟨E, hE⟩ : ∃ E, errM (fls xs) = E := ⟨_, rfl⟩
 rw [hE] at HCC
 have HI := Hd h
 have HN := Hd hn
 have HE := Hd hE
 clear h hn hE
 go_enter Tryz.func6, Tryz.ntmps6
 go_wp2_with fail
 refine (uh HCC).mono ?_
 rintro e w1 ⟨rfl, hB1⟩
 by_cases hE0 : E = 0
 . subst hE0
   have hok := errM_all (uh HE)
   have hn12 : n <= 12 := by
    have h1 := hok.1
    have h2 := uh HN
    simp [fls] at h1
    omega
   have hvx : ∀ x ∈ xs, errV x.f = 0 := fun x hx => hok.2 x.f (List.mem_map_of_mem hx)
   have HVX := Hd hvx
   have HB1 := Hd hB1
   clear hB1 hok hvx HCC
   go_wp2
   go_loopw [5, 7, 16] (fun v5 _ i wr => ∃ (k : Nat) (es : List Ev), k <= n /\ i = .int .i64 (k : Int) /\ Hid (ERow wr w.heap.size v5 es /\ es.map (fun y => y.e.f) = (fls xs).take k /\ (∀ y ∈ es, EOf y.e) /\ (es = [] -> v5 = .slice none 0 0)) /\ Hid (Below w.heap.size w wr)) (fun _ _ i _ => n - (intOf i).toNat)
   case atStart => exact ⟨0, [], Nat.zero_le _, rfl, Hd ⟨ERow.nil _ _, by simp, (fun y hy => absurd hy List.not_mem_nil), fun _ => rfl⟩, HB1⟩
   case round =>
    obtain ⟨k, es, hk, rfl, HR, HB⟩ := hrel
    have hel : es.length = k := by
     have := congrArg List.length (uh HR).2.1
     have h2 := uh HN
     simp [fls] at this
     omega
    by_cases hlt : k < n
    . obtain ⟨x, hx, hxm⟩ := get_of (xs := xs) (k := k) (by rw [uh HN]; exact hlt)
      obtain ⟨b, o, rfl, hb, c0, c1, c2, c3, c4⟩ := (uh HI).get (uh HB) hx
      have hz := (uh HB).size
      have hxin := (uh HI).all x hxm
      have HEO := Hd (fun (W : World) (hW : Below w.heap.size w W) => entryOf_any x W (hxin.below hW (Nat.le_refl _)) (by have := errV_num (uh HVX x hxm); omega))
      have hfl : (fls xs).take (k + 1) = (fls xs).take k ++ [x.f] := take_snoc (by simp [fls, hx])
      have hxlt : ∀ g o, x.a = some ⟨g, o, none⟩ -> x.f.bytes ≠ [] -> g < w.heap.size := fun g o e1 e2 => by
       have := pk_lt (bs_pk hxin.bs) g o e1 (fun e => e2 (by rw [<- o8_n8 x.f.bytes, e]; rfl))
       exact this
      have HXLT := Hd hxlt
      have HFL := Hd hfl
      rw [val_is] at HEO
      unfold Fv.sl at c1
      clear hx hxm hxin hfl hxlt
      have HEL := Hd hel
      have hB2 : ∀ o1 : Obj, Below w.heap.size w (wr.alloc o1) := fun o1 => (uh HB).alloc hz o1
      have HB2 := Hd hB2
      have HR2 := Hd (fun o1 : Obj => (uh HR).1.below ((Below.refl wr.heap.size wr).alloc (Nat.le_refl _) o1))
      obtain ⟨xf, xa, xc⟩ := x
      dsimp only at c0 c1 c2 c3 c4
      have HEO' := HEO
      clear hB2 hel
      generalize hnm : B xf.name = nm at c0 HEO
      generalize hbl : xf.bytes.length = bl at c1 HEO
      generalize hst : xf.stamp = st at c2 HEO
      generalize hnd : xf.node = nd at c3 HEO
      generalize hgn : xf.gone = gn at c4 HEO
      clear hnm hbl hst hnd hgn HEO'
      go_wp2_with fail
      refine (uh HEO _ (uh HB2 _)).mono ?_
      rintro e w2 ⟨y, rfl, hyf, hyo, hyi, hB3, hya, hyp⟩
      replace hyf : y.e.f = xf := hyf
      replace hya : y.fa = xa := hya
      have hB4 := (uh HB2 _).trans (hB3.mono (by simp; omega))
      have hrow := (uh HR2 _).below hB3
      have hlies : y.lies (fun g => some g ≠ u5.ownBlock) := by
       have hold : ∀ g o, xa = some ⟨g, o, none⟩ -> xf.bytes ≠ [] -> some g ≠ u5.ownBlock := fun g o e1 e2 e3 => by
        have h1 := uh HXLT g o e1 e2
        have h2 := (hrow.own.lt g e3.symm).1
        omega
       constructor
       . intro g o e1 e2
         exact hold g o (hya.symm.trans e1) (by rw [<- hyf]; exact e2)
       . intro g o e1 e2
         rcases hyp g o e1 e2 with ⟨q1, q2⟩ | rfl
         . exact hold g o q1 (by rw [<- hyf]; exact q2)
         . intro e3
           have hne : es ≠ [] := by
            intro e4
            rw [(uh HR).2.2.2 e4] at e3
            cases e3
           obtain ⟨s, hs⟩ := row_string hrow e3.symm hne
           rcases hyi.pk.1 with h5 | ⟨b', o', e5, hb5, hc5⟩
           . exact e2 h5
           . rw [e1] at e5
             cases e5
             have := hc5 0 (List.length_pos_iff.2 e2)
             rw [Nat.zero_add, hs] at this
             cases this
      have HR3 := Hd (fun o1 : Obj => hrow.below ((Below.refl w2.heap.size w2).alloc (Nat.le_refl _) o1))
      have HYI := Hd (fun o1 : Obj => hyi.below ((Below.refl w2.heap.size w2).alloc (Nat.le_refl _) o1))
      have HYL := Hd hlies
      have HYO := Hd hyo
      have HYF := Hd hyf
      have hz2 := hB4.size
      have HB5 := Hd (fun o1 : Obj => hB4.alloc hz2 o1)
      have hel2 : es.length + 1 <= 100000 := by rw [uh HEL]; omega
      have HCE : Hid (∀ o1, o1 = Obj.cells y.cells.toArray 53 -> ∀ j u, y.cells[j]? = some u -> (w2.alloc o1).cell? ⟨w2.heap.size, j, none⟩ = some u) := Hd (fun o1 e j u hj => by
       subst e
       rw [hpZ (heap_alloc_new w2 _)]
       simpa using hj)
      clear hB3 hB4 hrow hlies hyi hyo hyf hya hyp HEO c0 c1 c2 c3 c4
      unfold Ev.val
      go_wp2_with (at_builtin; refine wpList_append_entry _ rfl _ _ rfl w.heap.size _ es rfl (uh HR3 _) w2.heap.size y rfl (uh HCE _ rfl) (uh HYI _) (uh HYL) hel2 (by simp; omega) ?_)
      intro v' w3 hrow3 hg3
      have HR4 : Hid (ERow w3 w.heap.size v' (es ++ [y]) /\ (es ++ [y]).map (fun y => y.e.f) = (fls xs).take (k + 1) /\ (∀ z ∈ es ++ [y], EOf z.e) /\ (es ++ [y] = [] -> v' = .slice none 0 0)) := Hd (by
       refine ⟨uh hrow3, ?_, fun z hz => ?_, fun e => by simp at e⟩
       . rw [List.map_append, (uh HR).2.1, uh HFL]
         simp [uh HYF]
       . rcases List.mem_append.1 hz with hz | hz
         . exact (uh HR).2.2.1 z hz
         . rw [List.mem_singleton.1 hz]; exact uh HYO)
      have HB6 : Hid (Below w.heap.size w w3) := Hd ((uh HB5 _).grown (uh hg3) (by simp; omega) (fun g e => ((uh HR3 (.cells y.cells.toArray 53)).own.lt g e).1))
      clear hrow3 hg3
      go_wp2
      go_roundw
      case rel => exact ⟨k + 1, es ++ [y], by omega, by go_num, HR4, HB6⟩
      case measure => simp [intOf]; omega
    . obtain rfl : n = k := by omega
      obtain ⟨hrow, hfs, heo, _⟩ := uh HR
      have hta : (fls xs).take n = fls xs := List.take_of_length_le (by simp [fls, uh HN])
      rw [hta] at hfs
      obtain ⟨ad2, c2, hv, hes⟩ := hrow.entries
      rw [hel] at hv
      subst hv
      obtain ⟨l, hll⟩ : ∃ l, es.map Ev.e = l := ⟨_, rfl⟩
      have hlf : l.map En.f = fls xs := by rw [<- hll, List.map_map]; exact hfs
      have hlo : ∀ x ∈ l, EOf x := by
       rw [<- hll]
       intro x hx
       obtain ⟨y, hy, rfl⟩ := List.mem_map.1 hx
       exact heo y hy
      have hev : ∀ x ∈ l, errV x.f = 0 := fun x hx => by
       have : x.f ∈ fls xs := by rw [<- hlf]; exact List.mem_map_of_mem hx
       obtain ⟨z, hz, hze⟩ := List.mem_map.1 this
       rw [<- hze]
       exact uh HVX z hz
      have hnum : ∀ x ∈ es, ENum x.e := fun x hx => ((hlo x.e (by rw [<- hll]; exact List.mem_map_of_mem hx)).num (hev x.e (by rw [<- hll]; exact List.mem_map_of_mem hx))).1
      have HCA := Hd (archive_any ad2 c2 n es wr hes hel hn12 hnum)
      rw [hll] at HCA
      have HLF := Hd hlf
      have HLO := Hd hlo
      clear hrow hfs heo hta hes hll hlf hlo hev hnum hel
      go_wp2_with fail
      refine (uh HCA).mono ?_
      rintro e w4 ⟨v4, rfl, ho, hB4⟩
      obtain ⟨a4, c4, rfl, q1, q2, q3, q4⟩ := own_pk ho
      have hB5 := (uh HB).trans (hB4.mono (uh HB).size)
      obtain ⟨AL, hAL⟩ : ∃ AL, (archL l).length = AL := ⟨_, rfl⟩
      rw [hAL] at q2
      rw [hAL]
      by_cases hbig : 12000 < AL
      . have HF : Hid (WrA w (fls xs) (.returned (.tuple #[.slice none 0 0, .int .i64 11])) w4) := Hd ⟨hB5, .inr ⟨uh HE, l, uh HLF, uh HLO, .inl ⟨by rw [hAL]; exact hbig, rfl⟩⟩⟩
        have hbI : (12000 : Int) < (AL : Int) := by omega
        clear hB4 hB5 ho q1 q2 q3 q4 hAL hbig HCA
        go_wp2
        go_ret2
        exact uh HF
      . have HF : Hid (WrA w (fls xs) (.returned (.tuple #[.slice a4 AL c4, .int .i64 0])) w4) := Hd ⟨hB5, .inr ⟨uh HE, l, uh HLF, uh HLO, .inr ⟨by rw [hAL]; omega, a4, c4, by rw [hAL], by rw [hAL]; exact q2, q1⟩⟩⟩
        have hbI : ¬ (12000 : Int) < (AL : Int) := by omega
        clear hB4 hB5 ho q1 q2 q3 q4 hAL hbig HCA
        go_wp2
        go_ret2
        exact uh HF
 . have HF : Hid (WrA w (fls xs) (.returned (.tuple #[.slice none 0 0, .int .i64 (E : Int)])) w1) := Hd ⟨hB1, .inl ⟨by rw [uh HE]; exact hE0, by rw [uh HE]⟩⟩
   have hEb : ((E : Int) == 0) = false := by rw [beq_eq_false_iff_ne]; omega
   have hEc : ((E : Int) != 0) = true := by rw [bne, hEb]; rfl
   clear hB1 hE0
   go_wp2
   go_ret2
   exact uh HF
def equRen : Go.Shelf.Ren := ⟨fun | 193 => 17 | n => n, fun | 31 => 43 | 9 => 9 | 4 => 4 | 3 => 3 | 0 => 0 | n => n, fun | n => n⟩
theorem equLays : Go.Proofs.Lays.n193 Tryz.prog equRen := {
 mixed := by kernel_rfl
 f193 := Tryz.func17.trans (congrArg some (by kernel_rfl))
 t0 := Tryz.underlying0
 a0 := Tryz.isAgg0
 z0 := Tryz.sizeOf0
 v0 := Tryz.zeroValue0
 t3 := Tryz.underlying3
 a3 := Tryz.isAgg3
 z3 := Tryz.sizeOf3
 v3 := Tryz.zeroValue3
 t4 := Tryz.underlying4
 a4 := Tryz.isAgg4
 z4 := Tryz.sizeOf4
 v4 := Tryz.zeroValue4
 t9 := Tryz.underlying9
 a9 := Tryz.isAgg9
 z9 := Tryz.sizeOf9
 v9 := Tryz.zeroValue9
 t31 := Tryz.underlying43
 a31 := Tryz.isAgg43
 z31 := Tryz.sizeOf43
 v31 := Tryz.zeroValue43 }
theorem getD_B (ps : List (List UInt8)) (j : Nat) (hj : j < (ps.map B).length) : (ps.map B)[j]? = some ((ps.map B).getD j ByteArray.empty) := by
 simp only [List.length_map] at hj
 simp [List.getD, hj]
theorem equalS {b c : Nat} {v u : Value} {ps qs : List (List UInt8)} {w : World} (h : SRow w b v ps) (h2 : SRow w c u qs) :
 Calls Tryz.prog 17 #[v, u] w fun e w' => e = .returned (.bool (decide (ps = qs))) /\ ∃ q, w' = w.drewN q := by
 have done0 : ∀ w' : World, w' = w -> ∃ q, w' = w.drewN q := fun w' e => ⟨0, by rw [e]; rfl⟩
 rcases h.cases with ⟨rfl, rfl⟩ | ⟨g, cap, rfl, hg, hgs, hc, hm, hcell⟩
 . rcases h2.cases with ⟨rfl, rfl⟩ | ⟨g2, cap2, rfl, hg2, hgs2, hc2, hm2, hcell2⟩
   . refine (Any.slices_Equal_string_empty equLays none none 0 0 0 w (by decide)).mono ?_
     rintro e w' ⟨rfl, hw⟩
     exact ⟨rfl, done0 _ hw⟩
   . unfold maxLen at hm2
     refine (Any.slices_Equal_string_empty equLays none _ 0 qs.length cap2 w (by omega)).mono ?_
     rintro e w' ⟨rfl, hw⟩
     refine ⟨ret_bool ?_, done0 _ hw⟩
     rw [decide_eq_decide]
     rw [List.length_eq_zero_iff]
     exact ⟨fun e => e.symm, fun e => e.symm⟩
 . rcases h2.cases with ⟨rfl, rfl⟩ | ⟨g2, cap2, rfl, hg2, hgs2, hc2, hm2, hcell2⟩
   . by_cases h0 : ps.length = 0
     . rw [h0]
       refine (Any.slices_Equal_string_empty equLays _ none cap 0 0 w (by decide)).mono ?_
       rintro e w' ⟨rfl, hw⟩
       refine ⟨ret_bool ?_, done0 _ hw⟩
       rw [List.length_eq_zero_iff.1 h0]
       rfl
     . refine (Any.slices_Equal_string_lens equLays _ none ps.length cap 0 0 w h0).mono ?_
       rintro e w' ⟨rfl, hw⟩
       refine ⟨ret_bool ?_, done0 _ hw⟩
       have : ps ≠ [] := fun e => h0 (by rw [e]; rfl)
       simp [this]
   . unfold maxLen at hm hm2
     refine (Any.slices_Equal_string equLays g 0 ps.length cap g2 0 qs.length cap2 (ps.map B) (qs.map B) w (by simp) (by simp) (by omega) (by omega) (fun j hj => hcell j _ (getD_B ps j hj)) (fun j hj => hcell2 j _ (getD_B qs j hj))).mono ?_
     rintro e w' ⟨rfl, hw⟩
     refine ⟨ret_bool ?_, hw⟩
     rw [decide_eq_decide, List.take_of_length_le (by simp), List.take_of_length_le (by simp)]
     constructor
     . intro e
       have := congrArg (List.map fun x : ByteArray => x.data.toList) e
       simp only [List.map_map] at this
       have e3 : ((fun x : ByteArray => x.data.toList) ∘ B) = id := by funext l; rfl
       rw [e3, List.map_id, List.map_id] at this
       exact this
     . intro e; rw [e]
theorem info_strz : (Tryz.prog.info? 9).map (fun i => (i.zero, i.size, i.bytes)) = some (some (.string ByteArray.empty), 1, 16) := by kernel_rfl
theorem znames_any (n cap : Nat) (a : Option Addr) (bs : List Nat) (w : World) (hl : bs.length = n) (hc : n <= cap) (hP : PkIn w a cap bs) (hv : ∀ x ∈ bs, x < 256) (hm : n <= 9223372036854775807) :
 Calls Tryz.prog 14 #[.slice a n cap] w fun e w' => ∃ v, e = .returned (.tuple #[v, .int .i64 (readE bs : Nat)]) /\ SRow w' w.heap.size v ((readL bs).map Fl.name) /\ Below w.heap.size w w' := by
 obtain ⟨i0, hi, hz0, hz1, hz2⟩ := info_parts info_strz
 have HC := Hd (zread_any n cap a bs w hl hc hP hv hm)
 have hl12 : (readL bs).length <= 12 := by
  by_cases h0 : readE bs = 0
  . obtain ⟨l, _, h2, _, _, h5, _⟩ := read_some h0
    rw [h5]
    exact (errM_all h2).1
  . unfold readL; rw [if_pos h0]; exact Nat.zero_le _
 have hbad : readE bs ≠ 0 -> readL bs = [] := fun h => by unfold readL; rw [if_pos h]
 unfold RdA at HC
 obtain ⟨E, hE⟩ : ∃ E, readE bs = E := ⟨_, rfl⟩
 obtain ⟨fs, hfs⟩ : ∃ fs, readL bs = fs := ⟨_, rfl⟩
 rw [hE, hfs] at HC hbad
 rw [hfs] at hl12
 rw [hE, hfs]
 have HBAD := Hd hbad
 clear hl hP hv hbad hE hfs
 go_enter Tryz.func14, Tryz.ntmps14
 go_wp2_with fail
 refine (uh HC).mono ?_
 rintro e w1 ⟨v, rfl, ⟨ad, c, xs, rfl, hx, hxl⟩, hB1⟩
 obtain ⟨k, hk⟩ : ∃ k, fs.length = k := ⟨_, rfl⟩
 rw [hk] at hl12 ⊢
 have hxn : xs.length = k := by rw [<- hk, <- hxl]; simp [fls]
 by_cases hE0 : E = 0
 . subst hE0
   have HX := Hd hx
   have HXL := Hd hxl
   have HXN := Hd hxn
   have HK := Hd hk
   have HB1 := Hd hB1
   clear hx hxl hxn hk hB1 HC
   go_wp2
   go_loopw [6, 8, 19] (fun v6 _ i wr => ∃ j : Nat, j <= k /\ i = .int .i64 (j : Int) /\ Hid (SRow wr w1.heap.size v6 ((fs.take j).map Fl.name)) /\ Hid (Below w1.heap.size w1 wr)) (fun _ _ i _ => k - (intOf i).toNat)
   case atStart => exact ⟨0, Nat.zero_le _, rfl, Hd (SRow.nil _ _), Hd (Below.refl _ _)⟩
   case round =>
    obtain ⟨j, hj, rfl, HS, HB⟩ := hrel
    by_cases hlt : j < k
    . obtain ⟨x, hx, hxm⟩ := get_of (xs := xs) (k := j) (by rw [uh HXN]; exact hlt)
      obtain ⟨b, o, rfl, hb, c0, c1, c2, c3, c4⟩ := (uh HX).get (uh HB) hx
      have hz := (uh HB).size
      have hz1' := (uh HB1).size
      have htk : (fs.take (j + 1)).map Fl.name = (fs.take j).map Fl.name ++ [x.f.name] := by
       have : fs[j]? = some x.f := by rw [<- uh HXL]; simp [fls, hx]
       rw [take_snoc this]; simp
      have hln : ((fs.take j).map Fl.name).length = j := by rw [List.length_map, List.length_take, uh HK]; omega
      unfold Fv.sl at c1
      have hS := uh HS
      unfold SRow at hS
      rw [hln] at hS
      obtain ⟨NS, hNS⟩ : ∃ NS, (fs.take j).map Fl.name = NS := ⟨_, rfl⟩
      rw [hNS] at hS htk hln
      have HTK := Hd htk
      clear hNS
      have HO := Hd (fun o1 o2 : Obj => (hS.alloc o1).alloc o2)
      have HB2 := Hd (fun o1 o2 : Obj => ((uh HB).alloc hz o1).alloc (by simp; omega) o2)
      have hbl : ∀ g, u6.ownBlock = some g -> w1.heap.size <= g := fun g e => (hS.lt g e).1
      have HBL := Hd hbl
      have HLN := Hd hln
      obtain ⟨⟨nml, bys, st, nd, gn⟩, xa, xc⟩ := x
      dsimp only at c0 c1 c2 c3 c4
      obtain ⟨nm, hnm⟩ : ∃ nm, B nml = nm := ⟨_, rfl⟩
      rw [hnm] at c0
      have HNM := Hd hnm
      generalize bys.length = bl at c1
      clear hx hxm htk hln hnm hS hbl
      go_wp2_with (at_builtin; refine wpList_append_own_at _ rfl _ _ 43 rfl w1.heap.size 9 i0 (.string ByteArray.empty) 1 16 Tryz.underlying43 hi hz0 hz1 hz2 rfl (by decide) _ j (strV NS) rfl (uh HO _ _) ⟨wr.heap.size + 1, 0, none⟩ 1 1 [.string nm] rfl rfl (fun i u hi => new_cell (cell_last (by simp)) hi) (one_cell rfl) (by unfold maxLen; omega) (by omega) (by simp; omega) ?_)
      intro v' w3 hO3 hg3 _ _
      have HS3 : Hid (SRow w3 w1.heap.size v' ((fs.take (j + 1)).map Fl.name)) := Hd (by
       rw [uh HTK]
       unfold SRow
       rw [List.length_append, uh HLN, strV, List.map_append]
       rw [<- uh HNM] at hO3
       exact hO3)
      have HB3 : Hid (Below w1.heap.size w1 w3) := Hd ((uh HB2 _ _).grown hg3 (by simp; omega) (uh HBL))
      clear hO3 hg3 c0 c1 c2 c3 c4
      go_wp2
      go_roundw
      case rel => exact ⟨j + 1, by omega, by go_num, HS3, HB3⟩
      case measure => simp [intOf]; omega
    . obtain rfl : k = j := by omega
      have hta : fs.take k = fs := List.take_of_length_le (by rw [uh HK]; exact Nat.le_refl _)
      have HTA := Hd hta
      clear hta
      go_wp2
      go_ret2
      exact ⟨_, rfl, by have := uh HS; rw [uh HTA] at this; exact this.mono (uh HB1).size, (uh HB1).trans ((uh HB).mono (uh HB1).size)⟩
 . have hf0 := uh HBAD hE0
   subst hf0
   have HB1 := Hd hB1
   have hEb : ((E : Int) == 0) = false := by rw [beq_eq_false_iff_ne]; omega
   have hEc : ((E : Int) != 0) = true := by rw [bne, hEb]; rfl
   clear hx hxl hxn hk hB1 HC hE0
   go_wp2
   go_ret2
   exact ⟨_, rfl, SRow.nil _ _, uh HB1⟩
theorem EOf.ok {x : En} (h : EOf x) (hv : errV x.f = 0) : EOk x := by
 obtain ⟨hn, hp⟩ := h.num hv
 have h2 := (errV_num hv).2.1
 refine ⟨⟨hn.st.1, by have := hn.st.2; omega⟩, ⟨hn.nd.1, by have := hn.nd.2; omega⟩, by have := hn.nm; omega, by have := hn.pl; omega, hn.cr, hn.mt, ?_⟩
 obtain ⟨out, ho, (⟨q1, q2, q3⟩ | ⟨q1, q2, q3⟩)⟩ := h.pk
 . have hu := one_unpk ho (best_le _) (val_getD (n8_val _)) (by rw [n8_len]; exact h2) [] 0
   rw [List.append_nil, Nat.add_zero] at hu
   unfold unpF
   rw [q2, q3, if_neg (by decide), if_pos rfl, if_pos ⟨by omega, hu.2.1, hu.2.2⟩, hu.1]
 . unfold unpF
   rw [q2, q3, if_pos rfl]
theorem write_read (l : List En) (hE : errM (l.map En.f) = 0) (ho : ∀ x ∈ l, EOf x) (hn : (archL l).length <= 12000) :
 (∀ x ∈ l, EOk x) /\ readE (archL l) = 0 /\ readL (archL l) = l.map En.f := by
 have hv : ∀ x ∈ l, errV x.f = 0 := fun x hx => (errM_all hE).2 x.f (List.mem_map_of_mem hx)
 have hk : ∀ x ∈ l, EOk x := fun x hx => (ho x hx).ok (hv x hx)
 refine ⟨hk, read_arch l hk hE ?_ hn⟩
 unfold sumsF
 rw [List.all_eq_true]
 intro x hx
 exact decide_eq_true (ho x hx).cr
theorem arch_len : ∀ (l : List En), (archL l).length = 22 + (hereL l).length + (thereL 0 l).length := fun l => by
 unfold archL
 rw [List.length_append, List.length_append, endL_len]
 omega
theorem two_le {k : Nat} {out : List Nat} (h : IsOne [120, 121] k out) : 2 <= out.length := by
 have h1 := congrArg List.length h.row
 rw [rbL] at h1
 unfold oneB at h1
 rw [padB_length] at h1
 have h2 : 10 <= (blkB [] [120, 121] k true).length := by
  unfold blkB
  split
  . unfold storB
    simp only [List.length_append, nbL]
    omega
  . split
    . have h3 : (fixBits (toks [120, 121])).length = 23 := by decide +kernel
      simp only [List.length_append, h3]
      omega
    . have h3 : 14 <= (dynB [120, 121]).length := by
       have hp : ∀ a b ts, 14 <= (planB a b ts).length := fun a b ts => by
        unfold planB headB
        simp only [List.length_append, nbL]
        omega
       unfold dynB
       split
       . exact hp _ _ _
       . exact hp _ _ _
      simp only [List.length_append]
      omega
 omega
theorem one_map {α β : Type} {f : α -> β} {l : List α} {b : β} (h : l.map f = [b]) : ∃ x, l = [x] /\ f x = b := by
 cases l with
 | nil => cases h
 | cons x r =>
  cases r with
  | nil => exact ⟨x, rfl, by simpa using h⟩
  | cons y r => simp at h
def arF : Fl := ⟨[97], [120, 121], 3, 0, false⟩
theorem arF_ok : errM [arF] = 0 := by decide
theorem arF_len {x : En} (h : EOf x) (hf : x.f = arF) : (archL [x]).length = 124 := by
 obtain ⟨out, ho, hq⟩ := h.pk
 rw [hf] at ho hq
 have h2 := two_le ho
 rw [arch_len]
 rcases hq with ⟨q1, q2, q3⟩ | ⟨q1, q2, q3⟩
 . have : out.length < 2 := q1
   omega
 . have hl : x.pk.length = 2 := by rw [q3]; rfl
   simp only [hereL, thereL, List.length_append, fstL_len, sndL_len, List.length_nil, hl, hf]
   rfl
theorem archived_any (w : World) : Calls Tryz.prog 8 #[] w fun e w' => e = .returned (.bool true) /\ Below w.heap.size w w' := by
 have hcc := Lib.run_convert_bytes_const (P := Tryz.prog) w 23 5 #[.int .u8 120, .int .u8 121] 2 2 Tryz.underlying23 Tryz.underlying5
 have hbs : BsIn (w.alloc (.cells #[.int .u8 120, .int .u8 121] 5 (2, 3))) (some ⟨w.heap.size, 0, none⟩) 2 [120, 121] := by
  refine .inr (.inr ⟨w.heap.size, 0, rfl, by simp, by decide, fun j hj => ?_⟩)
  rw [Nat.zero_add, cell_of_row _ _ _ _ _ _ (heap_alloc_new w _)]
  match j, hj with
  | 0, _ => rfl
  | 1, _ => rfl
 have hx : ∀ x ∈ [(⟨arF, some ⟨w.heap.size, 0, none⟩, 2⟩ : Fv)], FvIn (w.alloc (.cells #[.int .u8 120, .int .u8 121] 5 (2, 3))) x := by
  intro x hx
  rw [List.mem_singleton.1 hx]
  exact ⟨hbs, by show 2 <= _; decide, by show 1 <= _; decide⟩
 have hfs := FsIn.new (w.alloc (.cells #[.int .u8 120, .int .u8 121] 5 (2, 3))) [⟨arF, some ⟨w.heap.size, 0, none⟩, 2⟩] 30 #[.string ⟨#[97]⟩, .slice (some ⟨w.heap.size, 0, none⟩) 2 2, .int .i64 3, .int .i64 0, .bool false] 1 rfl rfl hx (by show 1 <= _; decide)
 have HW := Hd (zwrite_any _ 1 1 _ _ hfs rfl)
 have HBA := Hd (((Below.refl w.heap.size w).alloc (Nat.le_refl _) (.cells #[.int .u8 120, .int .u8 121] 5 (2, 3))).alloc (by simp) (.cells #[.string ⟨#[97]⟩, .slice (some ⟨w.heap.size, 0, none⟩) 2 2, .int .i64 3, .int .i64 0, .bool false] 30))
 have hfl : fls [(⟨arF, some ⟨w.heap.size, 0, none⟩, 2⟩ : Fv)] = [arF] := rfl
 rw [hfl] at HW
 simp only [World.size_alloc] at HW
 clear hbs hx hfs hfl
 go_enter Tryz.func8, Tryz.ntmps8
 go_wp2_with fail
 refine (uh HW).mono ?_
 rintro e w1 ⟨hB1, (⟨h1, _⟩ | ⟨_, l, hlf, hlo, hq⟩)⟩
 . exact absurd arF_ok h1
 . obtain ⟨x, rfl, hxf⟩ := one_map hlf
   have hlen := arF_len (hlo x (by simp)) hxf
   have hE : errM ([x].map En.f) = 0 := by rw [hlf]; exact arF_ok
   have hwr := write_read [x] hE hlo (by rw [hlen]; decide)
   have hav := arch_val [x] (fun y hy => (((hlo y hy).num (by rw [List.mem_singleton.1 hy, hxf]; decide)).2))
   rcases hq with ⟨h1, _⟩ | ⟨_, a, c, rfl, hac, hP⟩
   . rw [hlen] at h1; exact absurd h1 (by decide)
   . have hrl : readL (archL [x]) = [arF] := by rw [hwr.2.2, hlf]
     have hre := hwr.2.1
     have hB2 := (uh HBA).trans (hB1.mono (by simp; omega))
     obtain ⟨AR, hAR⟩ : ∃ AR, archL [x] = AR := ⟨_, rfl⟩
     rw [hAR] at hlen hav hP hrl hre hac
     have HRD := Hd (fun (W : World) (hW : Below w1.heap.size w1 W) => zread_any AR.length c a AR W rfl hac (hP.below hW) hav (by rw [hlen]; decide))
     have HNM := Hd (fun (W : World) (hW : Below w1.heap.size w1 W) => znames_any AR.length c a AR W rfl hac (hP.below hW) hav (by rw [hlen]; decide))
     unfold RdA at HRD
     rw [hre, hrl] at HRD HNM
     rw [hAR, hlen]
     rw [hlen] at HRD HNM
     have HB2 := Hd hB2
     clear hB1 hB2 hP hav hlen hwr hlo hlf hE hrl hre hAR hac hxf
     go_wp2_with fail
     refine (uh HRD w1 (Below.refl _ _)).mono ?_
     rintro e w2 ⟨v2, rfl, ⟨ad, c2, out, rfl, hfs2, hout⟩, hB3⟩
     obtain ⟨z, rfl, hzf⟩ := one_map (f := Fv.f) hout
     have HB3 := Hd hB3
     have HFS := Hd hfs2
     clear hB3 hfs2 hout
     go_wp2_with fail
     refine (uh HNM w2 (uh HB3)).mono ?_
     rintro e w3 ⟨v3, rfl, hS3, hB4⟩
     obtain ⟨b, o, hpq, hblt, d0, d1, d2, _⟩ := (uh HFS).get (k := 0) (x := z) (w' := w3) hB4 rfl
     have hzb := ((uh HFS).all z (by simp)).bs.below hB4 (Nat.le_refl _)
     cases hpq
     simp only [Nat.zero_mul, Nat.add_zero] at d0 d1 d2
     unfold Fv.sl at d1
     have hconv := conv_any hzb
     rw [hzf] at d1 d2 hconv
     have hB5 := ((uh HB2).trans ((uh HB3).mono (uh HB2).size)).trans (hB4.mono (by have := (uh HB2).size; have := (uh HB3).size; omega))
     replace d1 : w3.cell? ⟨b, o + 1, none⟩ = some (.slice z.a 2 z.c) := d1
     replace d2 : w3.cell? ⟨b, o + 2, none⟩ = some (.int .i64 3) := d2
     replace hconv : (convert 23 9 (.slice z.a 2 z.c)).run Tryz.prog w3 = .ok (.string (B [120, 121])) w3 := hconv
     have hTl : ((B [120, 121]).toList == [120, 121]) = true := by rw [toList_B]; rfl
     obtain ⟨T, hT⟩ : ∃ T, B [120, 121] = T := ⟨_, rfl⟩
     rw [hT] at hconv hTl
     have HEQ := Hd (equalS (hS3.below ((Below.refl w3.heap.size w3).alloc (Nat.le_refl _) (.cells (strV [[97]]).toArray 9))) (SRow.new w3 [[97]] (by show 1 <= maxLen; decide)))
     obtain ⟨va, vc, rfl⟩ := own_slice' hS3
     have HB5 := Hd (hB5.alloc hB5.size (.cells (strV [[97]]).toArray 9))
     clear hB4 hB5 hS3 hzb hT HFS d0 hblt hzf
     go_wp2_with fail
     refine (uh HEQ).mono ?_
     rintro e w4 ⟨rfl, q, rfl⟩
     have hdec : decide ([arF].map Fl.name = [[97]]) = true := by decide
     rw [hdec]
     go_wp2
     go_ret
     exact ⟨rfl, bdN (uh HB5) _⟩
theorem fl_eq (a b : Fl) : (a = b) ↔ (a.name = b.name /\ a.bytes = b.bytes /\ a.stamp = b.stamp /\ a.node = b.node /\ a.gone = b.gone) := by
 cases a; cases b; simp
theorem same_any (x y : Fv) (w : World) (hx : FvIn w x) (hy : FvIn w y) :
 Calls Tryz.prog 10 #[x.val, y.val] w fun e w' => e = .returned (.bool (decide (x.f = y.f))) /\ Below w.heap.size w w' := by
 have HE := Hd (fun W (hW : Below w.heap.size w W) => eq_bytes (hx.bs.below hW (Nat.le_refl _)) (hy.bs.below hW (Nat.le_refl _)))
 have hq := fl_eq x.f y.f
 have hn : ((B x.f.name).toList == (B y.f.name).toList) = decide (x.f.name = y.f.name) := by
  rw [toList_B, toList_B, Bool.eq_iff_iff, beq_iff_eq, decide_eq_true_iff]
 rw [val_is, val_is]
 obtain ⟨r, hr⟩ : ∃ r, decide (x.f = y.f) = r := ⟨_, rfl⟩
 have hr2 : r = decide (x.f.name = y.f.name /\ x.f.bytes = y.f.bytes /\ x.f.stamp = y.f.stamp /\ x.f.node = y.f.node /\ x.f.gone = y.f.gone) := by rw [<- hr]; exact decide_eq_decide.2 hq
 rw [hr]
 clear hq hr hx hy
 have HR := Hd hr2
 clear hr2
 by_cases h1 : x.f.name = y.f.name
 . rw [decide_eq_true h1] at hn
   by_cases h2 : x.f.bytes = y.f.bytes
   . by_cases h3 : x.f.stamp = y.f.stamp
     . by_cases h4 : x.f.node = y.f.node
       . have h5 : r = decide (x.f.gone = y.f.gone) := by rw [uh HR]; exact decide_eq_decide.2 ⟨fun k => k.2.2.2.2, fun k => ⟨h1, h2, h3, h4, k⟩⟩
         rw [h5]
         rw [decide_eq_true h2] at HE
         clear h1 h2 h5 HR
         generalize B x.f.name = t at *
         generalize B y.f.name = t2 at *
         generalize x.f.bytes.length = n at *
         generalize y.f.bytes.length = n2 at *
         generalize x.f.stamp = s1 at *
         generalize y.f.stamp = s2 at *
         generalize x.f.node = d1 at *
         generalize y.f.node = d2 at *
         generalize x.f.gone = g1 at *
         generalize y.f.gone = g2 at *
         subst h3
         subst h4
         go_enter Tryz.func10, Tryz.ntmps10
         go_wp2_with (go_at_call 12; refine (uh HE _ (bel_al (bel_al (Below.refl _ _) _) _)).mono ?_; rintro e w' ⟨rfl, rfl⟩)
         go_ret
         exact ⟨ret_bool (by cases g1 <;> cases g2 <;> rfl), bel_al (bel_al (Below.refl _ _) _) _⟩
       . have h5 : r = false := by rw [uh HR]; exact decide_eq_false (fun k => h4 k.2.2.2.1)
         have hb : (x.f.node == y.f.node) = false := by simpa using h4
         rw [h5]
         rw [decide_eq_true h2] at HE
         clear h1 h2 h5 HR h4
         generalize B x.f.name = t at *
         generalize B y.f.name = t2 at *
         generalize x.f.bytes.length = n at *
         generalize y.f.bytes.length = n2 at *
         generalize x.f.stamp = s1 at *
         generalize y.f.stamp = s2 at *
         subst h3
         go_enter Tryz.func10, Tryz.ntmps10
         go_wp2_with (go_at_call 12; refine (uh HE _ (bel_al (bel_al (Below.refl _ _) _) _)).mono ?_; rintro e w' ⟨rfl, rfl⟩)
         go_ret
         exact ⟨rfl, bel_al (bel_al (Below.refl _ _) _) _⟩
     . have h5 : r = false := by rw [uh HR]; exact decide_eq_false (fun k => h3 k.2.2.1)
       have hb : (x.f.stamp == y.f.stamp) = false := by simpa using h3
       rw [h5]
       rw [decide_eq_true h2] at HE
       clear h1 h2 h5 HR h3
       generalize B x.f.name = t at *
       generalize B y.f.name = t2 at *
       generalize x.f.bytes.length = n at *
       generalize y.f.bytes.length = n2 at *
       go_enter Tryz.func10, Tryz.ntmps10
       go_wp2_with (go_at_call 12; refine (uh HE _ (bel_al (bel_al (Below.refl _ _) _) _)).mono ?_; rintro e w' ⟨rfl, rfl⟩)
       go_ret
       exact ⟨rfl, bel_al (bel_al (Below.refl _ _) _) _⟩
   . have h5 : r = false := by rw [uh HR]; exact decide_eq_false (fun k => h2 k.2.1)
     rw [h5]
     rw [decide_eq_false h2] at HE
     clear h1 h2 h5 HR
     generalize B x.f.name = t at *
     generalize B y.f.name = t2 at *
     generalize x.f.bytes.length = n at *
     generalize y.f.bytes.length = n2 at *
     go_enter Tryz.func10, Tryz.ntmps10
     go_wp2_with (go_at_call 12; refine (uh HE _ (bel_al (bel_al (Below.refl _ _) _) _)).mono ?_; rintro e w' ⟨rfl, rfl⟩)
     go_ret
     exact ⟨rfl, bel_al (bel_al (Below.refl _ _) _) _⟩
 . have h5 : r = false := by rw [uh HR]; exact decide_eq_false (fun k => h1 k.1)
   rw [h5]
   rw [decide_eq_false h1] at hn
   clear h1 h5 HR HE
   generalize B x.f.name = t at *
   generalize B y.f.name = t2 at *
   generalize x.f.bytes.length = n at *
   generalize y.f.bytes.length = n2 at *
   go_enter Tryz.func10, Tryz.ntmps10
   go_wp2
   go_ret
   exact ⟨rfl, bel_al (bel_al (Below.refl _ _) _) _⟩
theorem take_ne {α : Type} {a b : List α} {k : Nat} {x y : α} (hx : a[k]? = some x) (hy : b[k]? = some y) (h : x ≠ y) : a ≠ b := by
 rintro rfl
 rw [hx] at hy
 exact h (Option.some.inj hy)
theorem take_eq {α : Type} {a b : List α} {k : Nat} {x : α} (h : a.take k = b.take k) (hx : a[k]? = some x) (hy : b[k]? = some x) : a.take (k + 1) = b.take (k + 1) := by
 rw [List.take_add_one, List.take_add_one, h, hx, hy]
theorem equalFunc_any (ad bd : Option Addr) (c d : Nat) (xs ys : List Fv) (w : World) (h : FsIn w ad c xs) (k : FsIn w bd d ys) (n m : Nat) (hn : xs.length = n) (hm : ys.length = m) :
 Calls Tryz.prog 29 #[.slice ad n c, .slice bd m d, .func (.func 10) #[] #[]] w fun e w' => e = .returned (.bool (decide (fls xs = fls ys))) /\ Below w.heap.size w w' := by
 have hl1 : (fls xs).length = n := by simp [fls, hn]
 have hl2 : (fls ys).length = m := by simp [fls, hm]
 have hlim := h.lim
 rw [hn] at hlim
 by_cases hnm : n = m
 . subst hnm
   obtain ⟨r, hr⟩ : ∃ r, decide (fls xs = fls ys) = r := ⟨_, rfl⟩
   rw [hr]
   have HI := Hd h
   have HK := Hd k
   have HN := Hd hn
   have HM := Hd hm
   have HR := Hd hr
   have HL1 := Hd hl1
   have HL2 := Hd hl2
   have hnn : ((n : Int) != (n : Int)) = false := by simp
   clear h k hn hm hr hl1 hl2
   go_enter Tryz.func29, Tryz.ntmps29
   go_wp2
   go_loopw [7, 8, 9, 17] (fun _ _ _ i wr => ∃ k : Nat, k <= n /\ i = .int .i64 (k : Int) /\ Hid ((fls xs).take k = (fls ys).take k) /\ Hid (Below w.heap.size w wr)) (fun _ _ _ i _ => n - (intOf i).toNat)
   case atStart => exact ⟨0, Nat.zero_le _, rfl, by simp; exact trivial, Below.refl _ _⟩
   case round =>
    obtain ⟨k, hk, rfl, HT, HB⟩ := hrel
    by_cases hlt : k < n
    . obtain ⟨x, hx, hxm⟩ := get_of (xs := xs) (k := k) (by rw [uh HN]; exact hlt)
      obtain ⟨y, hy, hym⟩ := get_of (xs := ys) (k := k) (by rw [uh HM]; exact hlt)
      obtain ⟨b, o, hA, hb, c0, c1, c2, c3, c4⟩ := (uh HI).get (uh HB) hx
      obtain ⟨b', o', hC, hb', d0, d1, d2, d3, d4⟩ := (uh HK).get (uh HB) hy
      have hzw := (uh HB).size
      have hfx : (fls xs)[k]? = some x.f := by simp [fls, hx]
      have hfy : (fls ys)[k]? = some y.f := by simp [fls, hy]
      have HFX := Hd hfx
      have HFY := Hd hfy
      have HSA := Hd (fun W (hW : Below w.heap.size w W) => same_any x y W (((uh HI).all x hxm).below hW (Nat.le_refl _)) (((uh HK).all y hym).below hW (Nat.le_refl _)))
      rw [val_is, val_is] at HSA
      have hxs : x.sl = .slice x.a x.f.bytes.length x.c := rfl
      have hys : y.sl = .slice y.a y.f.bytes.length y.c := rfl
      rw [hxs] at c1
      rw [hys] at d1
      obtain ⟨q, hq⟩ : ∃ q, decide (x.f = y.f) = q := ⟨_, rfl⟩
      rw [hq] at HSA
      have HQ := Hd hq
      clear hx hy hxm hym hfx hfy hxs hys hq
      subst hA
      subst hC
      generalize B x.f.name = t at *
      generalize B y.f.name = t2 at *
      generalize x.f.bytes.length = nb at *
      generalize y.f.bytes.length = nb2 at *
      generalize x.f.stamp = s1 at *
      generalize y.f.stamp = s2 at *
      generalize x.f.node = n1 at *
      generalize y.f.node = n2 at *
      generalize x.f.gone = g1 at *
      generalize y.f.gone = g2 at *
      have HBL := Hd (fun o1 o2 => bel_al (bel_al (uh HB) o1) o2)
      have d0' := fun o => cell_al (o := o) d0
      have d1' := fun o => cell_al (o := o) d1
      have d2' := fun o => cell_al (o := o) d2
      have d3' := fun o => cell_al (o := o) d3
      have d4' := fun o => cell_al (o := o) d4
      clear d0 d1 d2 d3 d4
      go_wp2_with fail
      refine (uh HSA _ (uh HBL _ _)).mono ?_
      rintro e w1 ⟨rfl, hb1⟩
      have HB1 := Hd ((uh HBL _ _).trans (hb1.mono (by simp; omega)))
      clear hb1 d0' d1' d2' d3' d4'
      cases q with
      | false =>
       have hrf : r = false := by
        rw [<- uh HR]
        exact decide_eq_false (take_ne (uh HFX) (uh HFY) (of_decide_eq_false (uh HQ)))
       subst hrf
       go_wp2
       go_ret
       exact ⟨rfl, uh HB1⟩
      | true =>
       have he : x.f = y.f := of_decide_eq_true (uh HQ)
       have HT2 := Hd (take_eq (uh HT) (uh HFX) (by rw [he]; exact uh HFY))
       clear he
       go_wp2
       go_roundw
       case rel => exact ⟨k + 1, by omega, by go_num, uh HT2, uh HB1⟩
       case measure => simp [intOf]; omega
    . obtain rfl : n = k := by omega
      have hrt : r = true := by
       rw [<- uh HR]
       have := uh HT
       rw [List.take_of_length_le (by rw [uh HL1]; exact Nat.le_refl _), List.take_of_length_le (by rw [uh HL2]; exact Nat.le_refl _)] at this
       exact decide_eq_true this
      subst hrt
      go_wp2
      go_ret
      exact ⟨rfl, uh HB⟩
 . have e : decide (fls xs = fls ys) = false := decide_eq_false (fun h => hnm (by rw [<- hl1, <- hl2, h]))
   rw [e]
   have hnn : ((n : Int) != (m : Int)) = true := by simp; omega
   clear h k hn hm e hl1 hl2
   go_enter Tryz.func29, Tryz.ntmps29
   go_wp2
   go_ret
   exact ⟨rfl, Below.refl _ _⟩
theorem sameFiles_any (ad bd : Option Addr) (c d : Nat) (xs ys : List Fv) (w : World) (h : FsIn w ad c xs) (k : FsIn w bd d ys) (n m : Nat) (hn : xs.length = n) (hm : ys.length = m) :
 Calls Tryz.prog 16 #[.slice ad n c, .slice bd m d] w fun e w' => e = .returned (.bool (decide (fls xs = fls ys))) /\ Below w.heap.size w w' := by
 have HE := Hd (equalFunc_any ad bd c d xs ys w h k n m hn hm)
 clear h k
 generalize decide (fls xs = fls ys) = r at *
 go_enter Tryz.func16, Tryz.ntmps16
 go_wp2_with fail
 refine (uh HE).mono ?_
 rintro e w1 ⟨rfl, hb1⟩
 have HB1 := Hd hb1
 clear hb1
 go_wp2
 go_ret
 exact ⟨rfl, uh HB1⟩
end Go.Proofs.YtcdnbiiaoaeflafGreatDoor
