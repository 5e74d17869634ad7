/-
  Package merge: together.
-/
import Derived.Test.YtmgmganbamjnmaaGreatDoorS3
import Derived.Test.YtmgmganbamjnmaaGreatDoorS5
import Derived.Test.YtmgmganbamjnmaaGreatDoorQ6
import Derived.Deep.DeepCutAuto
namespace Go.Proofs.YtmgmganbamjnmaaGreatDoor
open Go.RowKit
set_option linter.unusedVariables false
set_option maxRecDepth 100000
def slen : Value → Nat
  | .slice _ n _ => n
  | _ => 0
/-- what the loops hold -/
structure TSt (w : World) (T : List Fl) (N : Nat) (A C : Option Addr × Nat) (pa pb : List Fv) (v : Value) (out : List Fv) (wr : World) : Prop where
  fa : FsIn w A.1 A.2 pa
  fb : FsIn w C.1 C.2 pb
  row : FRow wr w.heap.size v out
  bel : Below w.heap.size w wr
  all : fls out ++ tog (fls pa) (fls pb) = T
  cnt : out.length + pa.length + pb.length ≤ N

theorem TSt.lt {w : World} {T : List Fl} {N b o cA : Nat} {C : Option Addr × Nat} {x y z : Fv} {pa pb out : List Fv} {v v' : Value} {wr w' : World} (h : TSt w T N (some ⟨b, o, none⟩, cA) C (x :: pa) (y :: pb) v out wr) (hc : cmpB x.f.name y.f.name < 0) (hz : z.f = x.f) (hr : FRow w' w.heap.size v' (out ++ [z])) (hb : Below w.heap.size w w') :
    TSt w T N (some (tlA b o cA), cA - 1) C pa (y :: pb) v' (out ++ [z]) w' := by
  have ha := h.all
  have hn := h.cnt
  simp only [fls, List.map_cons] at ha
  rw [tog_lt hc] at ha
  refine ⟨h.fa.tail, h.fb, hr, hb, ?_, ?_⟩
  · rw [fls_snoc, hz, ← ha]; simp [fls]
  · simp only [List.length_append, List.length_cons, List.length_nil] at hn ⊢; omega
theorem TSt.gt {w : World} {T : List Fl} {N b o cC : Nat} {A : Option Addr × Nat} {x y z : Fv} {pa pb out : List Fv} {v v' : Value} {wr w' : World} (h : TSt w T N A (some ⟨b, o, none⟩, cC) (x :: pa) (y :: pb) v out wr) (hc : 0 < cmpB x.f.name y.f.name) (hz : z.f = y.f) (hr : FRow w' w.heap.size v' (out ++ [z])) (hb : Below w.heap.size w w') :
    TSt w T N A (some (tlA b o cC), cC - 1) (x :: pa) pb v' (out ++ [z]) w' := by
  have ha := h.all
  have hn := h.cnt
  simp only [fls, List.map_cons] at ha
  rw [tog_gt hc] at ha
  refine ⟨h.fa, h.fb.tail, hr, hb, ?_, ?_⟩
  · rw [fls_snoc, hz, ← ha]; simp [fls]
  · simp only [List.length_append, List.length_cons, List.length_nil] at hn ⊢; omega
theorem TSt.eq {w : World} {T : List Fl} {N b o cA b' o' cC : Nat} {x y z : Fv} {pa pb out : List Fv} {v v' : Value} {wr w' : World} (h : TSt w T N (some ⟨b, o, none⟩, cA) (some ⟨b', o', none⟩, cC) (x :: pa) (y :: pb) v out wr) (hc : cmpB x.f.name y.f.name = 0) (hz : z.f = pickF x.f y.f) (hr : FRow w' w.heap.size v' (out ++ [z])) (hb : Below w.heap.size w w') :
    TSt w T N (some (tlA b o cA), cA - 1) (some (tlA b' o' cC), cC - 1) pa pb v' (out ++ [z]) w' := by
  have ha := h.all
  have hn := h.cnt
  simp only [fls, List.map_cons] at ha
  rw [tog_eq hc] at ha
  refine ⟨h.fa.tail, h.fb.tail, hr, hb, ?_, ?_⟩
  · rw [fls_snoc, hz, ← ha]; simp [fls]
  · simp only [List.length_append, List.length_cons, List.length_nil] at hn ⊢; omega

set_option maxHeartbeats 4000000 in
theorem together_any (ad bd : Option Addr) (c d : Nat) (xs ys : List Fv) (w : World) (h : FsIn w ad c xs) (k : FsIn w bd d ys) (n m : Nat) (hn : xs.length = n) (hm : ys.length = m) (hN : n + m ≤ 1000) :
    Calls Tryz.prog 50 #[.slice ad n c, .slice bd m d] w fun e w' => ∃ v out, e = .returned v ∧ FRow w' w.heap.size v out ∧ fls out = tog (fls xs) (fls ys) ∧ Below w.heap.size w w' := by
  obtain ⟨T, hT⟩ : ∃ T, tog (fls xs) (fls ys) = T := ⟨_, rfl⟩
  rw [hT]
  have HS := hide (TSt.mk (T := T) (N := n + m) (A := (ad, c)) (C := (bd, d)) h k (FRow.nil w w.heap.size) (Below.refl _ _) (by simpa using hT) (by simp [hn, hm]))
  have HN := hide hn
  have HM := hide hm
  clear h k hT hn hm
  go_enter Tryz.func50, Tryz.ntmps50
  go_wp2
  go_loopw [0, 1, 5, 6, 7] (fun v0 v1 v5 _ _ wr => ∃ A C pa pb out, v0 = .slice A.1 pa.length A.2 ∧ v1 = .slice C.1 pb.length C.2 ∧ Hid (TSt w T (n + m) A C pa pb v5 out wr)) (fun v0 v1 _ _ _ _ => slen v0 + slen v1)
  case atStart => exact ⟨(ad, c), (bd, d), xs, ys, [], by rw [unhide HN], by rw [unhide HM], HS⟩
  case round =>
    obtain ⟨⟨A, cA⟩, ⟨C, cC⟩, pa, pb, out, rfl, rfl, HT⟩ := hrel
    simp only at *
    by_cases hend : pa = [] ∨ pb = []
    · have hfin : fls out ++ (fls pa ++ fls pb) = T := by
        have h0 := (unhide HT).all
        rcases hend with rfl | rfl
        · simpa [fls, tog_nil] using h0
        · simpa [fls, tog_nil'] using h0
      have HFA := hide (unhide HT).fa
      have HFB := hide (unhide HT).fb
      have hcnt := (unhide HT).cnt
      have HO0 := hide (And.intro (unhide HT).row (And.intro (unhide HT).bel (by omega : out.length + pa.length + pb.length ≤ 1000)))
      have HFIN := hide hfin
      have hfork : pa.length = 0 ∨ (0 < pa.length ∧ pb.length = 0) := by
        rcases hend with rfl | rfl
        · exact .inl rfl
        · rcases Nat.eq_zero_or_pos pa.length with h | h
          · exact .inl h
          · exact .inr ⟨h, rfl⟩
      simp only at HFA HFB
      clear hend hfin HT
      have i0 := idxF0 A C pa.length pb.length cA cC
      have i1 := idxF1 A C pa.length pb.length cA cC
      have HCPY := hide (fun (z : Fv) (W : World) (h : FvIn W z) => copyOf_any z W h)
      have HNA : Hid (∃ na, pa.length = na) := ⟨_, rfl⟩
      obtain ⟨na, hna⟩ := unhide HNA
      obtain ⟨nb, hnb⟩ : ∃ nb, pb.length = nb := ⟨_, rfl⟩
      have HLA := hide hna
      have HLB := hide hnb
      rw [hna, hnb] at i0 i1 hfork hcnt HO0
      rw [hna, hnb]
      clear hna hnb HNA
      have hfork2 : (¬ (0 < na) ∧ ¬ ((0 : Int) < (na : Int))) ∨ ((0 < na ∧ (0 : Int) < (na : Int)) ∧ (¬ (0 < nb) ∧ ¬ ((0 : Int) < (nb : Int)))) := by omega
      clear hfork
      rcases hfork2 with ⟨hf, hfi⟩ | ⟨⟨hf, hfi⟩, hf2, hf2i⟩
      all_goals (
        go_wp2
        clear hf hfi
        try clear hf2 hf2i
        go_loopw [5, 9, 11, 65] (fun v5 _ _ i wr => ∃ out', Hid (FRow wr w.heap.size v5 out' ∧ Below w.heap.size w wr) ∧ ((i = .int .i64 0 ∧ Hid (fls out' ++ (fls pa ++ fls pb) = T ∧ out'.length + pa.length + pb.length ≤ 1000)) ∨ (i = .int .i64 1 ∧ Hid (fls out' ++ fls pb = T ∧ out'.length + pb.length ≤ 1000)) ∨ (i = .int .i64 2 ∧ Hid (fls out' = T)))) (fun _ _ _ i _ => 2 - (intOf i).toNat)
        case atStart => exact ⟨out, ⟨(unhide HO0).1, (unhide HO0).2.1⟩, .inl ⟨rfl, unhide HFIN, by rw [unhide HLA, unhide HLB]; exact (unhide HO0).2.2⟩⟩
        case round =>
          obtain ⟨out', HO, ⟨rfl, HI⟩ | ⟨rfl, HI⟩ | ⟨rfl, HI⟩⟩ := hrel
          · have HOL := hide (unhide HI).2
            go_wp2
            go_loopw [5, 11, 70] (fun v5 _ j wr' => ∃ (k : Nat) (o2 : List Fv), k ≤ na ∧ j = .int .i64 (k : Int) ∧ Hid (FRow wr' w.heap.size v5 o2 ∧ Below w.heap.size w wr' ∧ fls o2 = fls out' ++ (fls pa).take k ∧ o2.length = out'.length + k)) (fun _ _ j _ => na - (intOf j).toNat)
            case atStart => exact ⟨0, out', Nat.zero_le _, rfl, (unhide HO).1, (unhide HO).2, by simp, rfl⟩
            case round =>
              obtain ⟨k, o2, hk, rfl, HS2⟩ := hrel
              by_cases hlt : k < na
              · obtain ⟨z, hz, hzm⟩ := get_of (xs := pa) (k := k) (by rw [unhide HLA]; exact hlt)
                obtain ⟨h1, h2, h3, h4⟩ := unhide HS2
                obtain ⟨b, o, hA, hb, c0, c1, c2, c3, c4⟩ := (unhide HFA).get h2 hz
                have hzw := h2.size
                have hzin := ((unhide HFA).all z hzm).below h2 (Nat.le_refl _)
                have HCP := hide (unhide HCPY z _ (hzin.alloc (.cells z.cells.toArray 49)))
                have HROW := hide (h1.below (bel_al (Below.refl _ _) (.cells z.cells.toArray 49)))
                have HBW := hide (bel_al h2 (.cells z.cells.toArray 49))
                have hzf : fls o2 ++ [z.f] = fls out' ++ (fls pa).take (k + 1) := by
                  have hk2 : (fls pa)[k]? = some z.f := by simp [fls, hz]
                  have hk3 : k < (fls pa).length := by simp [fls]; rw [unhide HLA]; exact hlt
                  rw [h3, List.take_add_one, hk2]
                  simp
                have HZF := hide hzf
                clear hzf
                have hzc : z.cells.toArray = #[.string (B z.f.name), .slice z.a z.f.bytes.length z.c, .int .i64 z.f.stamp, .int .i64 z.f.node, .bool z.f.gone] := rfl
                rw [val_is, hzc] at HCP
                rw [hzc] at HROW HBW
                have hzs : z.sl = .slice z.a z.f.bytes.length z.c := rfl
                rw [hzs] at c1
                have HV : Hid (∀ a c, Fv.val ⟨z.f, a, c⟩ = .agg #[.string (B z.f.name), .slice a z.f.bytes.length c, .int .i64 z.f.stamp, .int .i64 z.f.node, .bool z.f.gone] ∧ Fv.cells ⟨z.f, a, c⟩ = [.string (B z.f.name), .slice a z.f.bytes.length c, .int .i64 z.f.stamp, .int .i64 z.f.node, .bool z.f.gone]) := fun a c => ⟨rfl, rfl⟩
                have hol := unhide HOL
                have hlen := h4
                rw [unhide HLA] at hol
                clear hzc hzs hzin hzm hz h1 h2 h3 h4 HS2
                subst hA
                have HZ4 := hide hlen
                generalize B z.f.name = zt at *
                generalize z.f.bytes.length = zn at *
                generalize z.f.stamp = zs at *
                generalize z.f.node = zd at *
                generalize z.f.gone = zg at *
                go_wp2_with fail
                refine (unhide HCP).mono ?_
                rintro e w6 ⟨a6, c6, rfl, hv6, hb6, hl6⟩
                obtain ⟨hv, hvc⟩ := unhide HV a6 c6
                rw [hv]
                have hz6 := hb6.size
                simp only [World.size_alloc] at hz6
                have HR6 := hide (((unhide HROW).below hb6).below ((Below.refl w6.heap.size w6).alloc (Nat.le_refl _) (.cells #[.string zt, .slice a6 zn c6, .int .i64 zs, .int .i64 zd, .bool zg] 49)))
                have HV6 := hide (hv6.alloc (.cells #[.string zt, .slice a6 zn c6, .int .i64 zs, .int .i64 zd, .bool zg] 49))
                have HB6 := hide (bel_al ((unhide HBW).trans (hb6.mono (unhide HBW).size)) (.cells #[.string zt, .slice a6 zn c6, .int .i64 zs, .int .i64 zd, .bool zg] 49))
                have HL6 : Hid (∀ b o, a6 = some ⟨b, o, none⟩ → some b ≠ u5.ownBlock ∧ b < (w6.alloc (.cells #[.string zt, .slice a6 zn c6, .int .i64 zs, .int .i64 zd, .bool zg] 49)).heap.size) := by
                  intro b o e
                  have h1 := hl6 b o e
                  refine ⟨fun e2 => ?_, by simp; omega⟩
                  have := ((unhide HROW).lt e2.symm).2
                  omega
                have HC6 : Hid (∀ j u, (Fv.cells ⟨z.f, a6, c6⟩)[j]? = some u → (w6.alloc (.cells #[.string zt, .slice a6 zn c6, .int .i64 zs, .int .i64 zd, .bool zg] 49)).cell? ⟨w6.heap.size, j, none⟩ = some u) := by
                  intro j u hj
                  rw [hvc] at hj
                  rw [World.cell?_alloc_at _ _ _ _ rfl]
                  simpa using hj
                clear hv hvc hv6 hb6 hl6
                go_wp2_with (at_builtin; refine wpList_append_file _ rfl _ _ rfl w.heap.size _ o2 rfl (unhide HR6) w6.heap.size ⟨z.f, a6, c6⟩ rfl (unhide HC6) (unhide HV6) (unhide HL6) (by omega) (by simp; omega) ?_)
                intro v' w7 hR7 hB7
                have HB7 := hide ((unhide HB6).trans (unhide hB7))
                clear HR6 HV6 HB6 HL6 HC6 hB7 HCP HROW HBW
                go_wp2
                go_roundw
                case rel => exact ⟨k + 1, _, by omega, by go_num, unhide hR7, unhide HB7, by rw [fls_snoc]; exact unhide HZF, by rw [List.length_append]; simp; omega⟩
                case measure => simp [intOf]; omega
              · obtain rfl : na = k := by omega
                have HE2 : Hid (fls o2 ++ fls pb = T ∧ o2.length + pb.length ≤ 1000) := by
                  have h3 := (unhide HS2).2.2.1
                  have h4 := (unhide HS2).2.2.2
                  have h5 := unhide HI
                  rw [List.take_of_length_le (by simp [fls]; rw [unhide HLA]; exact Nat.le_refl _)] at h3
                  exact ⟨by rw [h3, List.append_assoc]; exact h5.1, by have := h5.2; rw [unhide HLA] at this; omega⟩
                go_wp2
                go_roundw
                case rel => exact ⟨o2, ⟨(unhide HS2).1, (unhide HS2).2.1⟩, .inr (.inl ⟨rfl, unhide HE2⟩)⟩
                case measure => simp [intOf]
          · have HOL := hide (unhide HI).2
            go_wp2
            go_loopw [5, 11, 70] (fun v5 _ j wr' => ∃ (k : Nat) (o2 : List Fv), k ≤ nb ∧ j = .int .i64 (k : Int) ∧ Hid (FRow wr' w.heap.size v5 o2 ∧ Below w.heap.size w wr' ∧ fls o2 = fls out' ++ (fls pb).take k ∧ o2.length = out'.length + k)) (fun _ _ j _ => nb - (intOf j).toNat)
            case atStart => exact ⟨0, out', Nat.zero_le _, rfl, (unhide HO).1, (unhide HO).2, by simp, rfl⟩
            case round =>
              obtain ⟨k, o2, hk, rfl, HS2⟩ := hrel
              by_cases hlt : k < nb
              · obtain ⟨z, hz, hzm⟩ := get_of (xs := pb) (k := k) (by rw [unhide HLB]; exact hlt)
                obtain ⟨h1, h2, h3, h4⟩ := unhide HS2
                obtain ⟨b, o, hA, hb, c0, c1, c2, c3, c4⟩ := (unhide HFB).get h2 hz
                have hzw := h2.size
                have hzin := ((unhide HFB).all z hzm).below h2 (Nat.le_refl _)
                have HCP := hide (unhide HCPY z _ (hzin.alloc (.cells z.cells.toArray 49)))
                have HROW := hide (h1.below (bel_al (Below.refl _ _) (.cells z.cells.toArray 49)))
                have HBW := hide (bel_al h2 (.cells z.cells.toArray 49))
                have hzf : fls o2 ++ [z.f] = fls out' ++ (fls pb).take (k + 1) := by
                  have hk2 : (fls pb)[k]? = some z.f := by simp [fls, hz]
                  have hk3 : k < (fls pb).length := by simp [fls]; rw [unhide HLB]; exact hlt
                  rw [h3, List.take_add_one, hk2]
                  simp
                have HZF := hide hzf
                clear hzf
                have hzc : z.cells.toArray = #[.string (B z.f.name), .slice z.a z.f.bytes.length z.c, .int .i64 z.f.stamp, .int .i64 z.f.node, .bool z.f.gone] := rfl
                rw [val_is, hzc] at HCP
                rw [hzc] at HROW HBW
                have hzs : z.sl = .slice z.a z.f.bytes.length z.c := rfl
                rw [hzs] at c1
                have HV : Hid (∀ a c, Fv.val ⟨z.f, a, c⟩ = .agg #[.string (B z.f.name), .slice a z.f.bytes.length c, .int .i64 z.f.stamp, .int .i64 z.f.node, .bool z.f.gone] ∧ Fv.cells ⟨z.f, a, c⟩ = [.string (B z.f.name), .slice a z.f.bytes.length c, .int .i64 z.f.stamp, .int .i64 z.f.node, .bool z.f.gone]) := fun a c => ⟨rfl, rfl⟩
                have hol := unhide HOL
                have hlen := h4
                rw [unhide HLB] at hol
                clear hzc hzs hzin hzm hz h1 h2 h3 h4 HS2
                subst hA
                have HZ4 := hide hlen
                generalize B z.f.name = zt at *
                generalize z.f.bytes.length = zn at *
                generalize z.f.stamp = zs at *
                generalize z.f.node = zd at *
                generalize z.f.gone = zg at *
                go_wp2_with fail
                refine (unhide HCP).mono ?_
                rintro e w6 ⟨a6, c6, rfl, hv6, hb6, hl6⟩
                obtain ⟨hv, hvc⟩ := unhide HV a6 c6
                rw [hv]
                have hz6 := hb6.size
                simp only [World.size_alloc] at hz6
                have HR6 := hide (((unhide HROW).below hb6).below ((Below.refl w6.heap.size w6).alloc (Nat.le_refl _) (.cells #[.string zt, .slice a6 zn c6, .int .i64 zs, .int .i64 zd, .bool zg] 49)))
                have HV6 := hide (hv6.alloc (.cells #[.string zt, .slice a6 zn c6, .int .i64 zs, .int .i64 zd, .bool zg] 49))
                have HB6 := hide (bel_al ((unhide HBW).trans (hb6.mono (unhide HBW).size)) (.cells #[.string zt, .slice a6 zn c6, .int .i64 zs, .int .i64 zd, .bool zg] 49))
                have HL6 : Hid (∀ b o, a6 = some ⟨b, o, none⟩ → some b ≠ u5.ownBlock ∧ b < (w6.alloc (.cells #[.string zt, .slice a6 zn c6, .int .i64 zs, .int .i64 zd, .bool zg] 49)).heap.size) := by
                  intro b o e
                  have h1 := hl6 b o e
                  refine ⟨fun e2 => ?_, by simp; omega⟩
                  have := ((unhide HROW).lt e2.symm).2
                  omega
                have HC6 : Hid (∀ j u, (Fv.cells ⟨z.f, a6, c6⟩)[j]? = some u → (w6.alloc (.cells #[.string zt, .slice a6 zn c6, .int .i64 zs, .int .i64 zd, .bool zg] 49)).cell? ⟨w6.heap.size, j, none⟩ = some u) := by
                  intro j u hj
                  rw [hvc] at hj
                  rw [World.cell?_alloc_at _ _ _ _ rfl]
                  simpa using hj
                clear hv hvc hv6 hb6 hl6
                go_wp2_with (at_builtin; refine wpList_append_file _ rfl _ _ rfl w.heap.size _ o2 rfl (unhide HR6) w6.heap.size ⟨z.f, a6, c6⟩ rfl (unhide HC6) (unhide HV6) (unhide HL6) (by omega) (by simp; omega) ?_)
                intro v' w7 hR7 hB7
                have HB7 := hide ((unhide HB6).trans (unhide hB7))
                clear HR6 HV6 HB6 HL6 HC6 hB7 HCP HROW HBW
                go_wp2
                go_roundw
                case rel => exact ⟨k + 1, _, by omega, by go_num, unhide hR7, unhide HB7, by rw [fls_snoc]; exact unhide HZF, by rw [List.length_append]; simp; omega⟩
                case measure => simp [intOf]; omega
              · obtain rfl : nb = k := by omega
                have HE2 : Hid (fls o2 = T) := by
                  have h3 := (unhide HS2).2.2.1
                  have h4 := (unhide HS2).2.2.2
                  have h5 := unhide HI
                  rw [List.take_of_length_le (by simp [fls]; rw [unhide HLB]; exact Nat.le_refl _)] at h3
                  rw [h3]; exact h5.1
                go_wp2
                go_roundw
                case rel => exact ⟨o2, ⟨(unhide HS2).1, (unhide HS2).2.1⟩, .inr (.inr ⟨rfl, unhide HE2⟩)⟩
                case measure => simp [intOf]
          · go_wp2
            go_ret
            exact ⟨_, out', rfl, (unhide HO).1, unhide HI, (unhide HO).2⟩)
    · obtain ⟨x, pa, rfl⟩ : ∃ x pa', pa = x :: pa' := by
        cases pa with
        | nil => exact absurd (.inl rfl) hend
        | cons x p => exact ⟨x, p, rfl⟩
      obtain ⟨y, pb, rfl⟩ : ∃ y pb', pb = y :: pb' := by
        cases pb with
        | nil => exact absurd (.inr rfl) hend
        | cons y p => exact ⟨y, p, rfl⟩
      clear hend
      ·
        have hT := unhide HT
        obtain ⟨b, o, hA, hb, c0, c1, c2, c3, c4⟩ := hT.fa.head hT.bel
        obtain ⟨b', o', hC, hb', d0, d1, d2, d3, d4⟩ := hT.fb.head hT.bel
        simp only at hA hC
        subst hA
        subst hC
        have hz := hT.bel.size
        have hfx : FvIn w x := hT.fa.all x (by simp)
        have hfy : FvIn w y := hT.fb.all y (by simp)
        have HNC := hide (fun W => names_any x y W)
        have HNW := hide (fun W (hW : Below w.heap.size w W) => newer_any y x W (hfy.below hW (Nat.le_refl _)) (hfx.below hW (Nat.le_refl _)))
        have HX := hide hfx
        have HY := hide hfy
        rw [val_is, val_is] at HNC HNW
        have hxs : x.sl = .slice x.a x.f.bytes.length x.c := rfl
        have hys : y.sl = .slice y.a y.f.bytes.length y.c := rfl
        have HXC : Hid (x.cells.toArray = #[.string (B x.f.name), .slice x.a x.f.bytes.length x.c, .int .i64 x.f.stamp, .int .i64 x.f.node, .bool x.f.gone]) := rfl
        have HYC : Hid (y.cells.toArray = #[.string (B y.f.name), .slice y.a y.f.bytes.length y.c, .int .i64 y.f.stamp, .int .i64 y.f.node, .bool y.f.gone]) := rfl
        rw [unhide HXC, unhide HYC] at HNC
        rw [hxs] at c1
        rw [hys] at d1
        obtain ⟨od, hod⟩ : ∃ od, cmpB x.f.name y.f.name = od := ⟨_, rfl⟩
        obtain ⟨nw, hnw⟩ : ∃ nw, nwr y.f x.f = nw := ⟨_, rfl⟩
        rw [hod] at HNC
        rw [hnw] at HNW
        have HOD := hide hod
        have HNWR := hide hnw
        clear hT hfx hfy hxs hys hod hnw
        obtain ⟨t, ht⟩ : ∃ t, B x.f.name = t := ⟨_, rfl⟩
        obtain ⟨t2, ht2⟩ : ∃ t2, B y.f.name = t2 := ⟨_, rfl⟩
        obtain ⟨nb, hnb⟩ : ∃ nb, x.f.bytes.length = nb := ⟨_, rfl⟩
        obtain ⟨nb2, hnb2⟩ : ∃ nb, y.f.bytes.length = nb := ⟨_, rfl⟩
        rw [ht] at HNC HNW HXC c0
        rw [ht2] at HNC HNW HYC d0
        rw [hnb] at HNC HNW HXC c1
        rw [hnb2] at HNC HNW HYC d1
        clear ht ht2 hnb hnb2
        generalize x.f.stamp = st at *
        generalize x.f.node = nd at *
        generalize x.f.gone = gn at *
        generalize y.f.stamp = st2 at *
        generalize y.f.node = nd2 at *
        generalize y.f.gone = gn2 at *
        have hla : (0 : Int) < ((pa.length + 1 : Nat) : Int) := by omega
        have hlb : (0 : Int) < ((pb.length + 1 : Nat) : Int) := by omega
        simp only [List.length_cons]
        go_upto_region 3 with fail
        go_cut [6, 7] (fun v6 v7 wc => ∃ g, v6 = .pointer (some ⟨g, 0, none⟩) ∧ v7 = .int .i64 od ∧ Hid (wc.heap[g]? = some (.cells #[.string t, .slice x.a nb x.c, .int .i64 st, .int .i64 nd, .bool gn] 49 (0, 0)) ∧ wr.heap.size ≤ g ∧ Below wr.heap.size wr wc))
        case first =>
          go_region_held3 (fun W => W.cell? ⟨b, o, none⟩ = some (.string t) ∧ W.cell? ⟨b, o + 1, none⟩ = some (.slice x.a nb x.c) ∧ W.cell? ⟨b, o + 2, none⟩ = some (.int .i64 st) ∧ W.cell? ⟨b, o + 3, none⟩ = some (.int .i64 nd) ∧ W.cell? ⟨b, o + 4, none⟩ = some (.bool gn) ∧ W.cell? ⟨b', o', none⟩ = some (.string t2) ∧ W.cell? ⟨b', o' + 1, none⟩ = some (.slice y.a nb2 y.c) ∧ W.cell? ⟨b', o' + 2, none⟩ = some (.int .i64 st2) ∧ W.cell? ⟨b', o' + 3, none⟩ = some (.int .i64 nd2) ∧ W.cell? ⟨b', o' + 4, none⟩ = some (.bool gn2)) (refine ⟨?_, ?_, ?_, ?_, ?_, ?_, ?_, ?_, ?_, ?_⟩ <;> (repeat first | assumption | apply cell_dr | apply cell_al)) ((go_at_call 70; refine (unhide HNC _).mono ?_; rintro e w' ⟨rfl, rfl⟩))
          all_goals go_wp2_with fail
          all_goals go_meet
          · exact ⟨_, rfl, rfl, box3 wr _ _ _ _⟩
          · exact ⟨_, rfl, rfl, box1 wr _ _ _ _⟩
        case rest =>
          rename World => wq
          obtain ⟨g, rfl, rfl, HC⟩ := hcut
          obtain ⟨z, hz0⟩ : ∃ z : Fv, z = (if 0 < od ∨ (od = 0 ∧ 0 < nw) then y else x) := ⟨_, rfl⟩
          have HZ := hide hz0
          have hod3 : od = -1 ∨ od = 0 ∨ od = 1 := by rw [← unhide HOD]; exact cmpB_three _ _
          have hzw := (unhide HC).2.2.size
          have hgw := (unhide HC).2.1
          have hbr : b < wr.heap.size := by omega
          have hbr' : b' < wr.heap.size := by omega
          have hBC := (unhide HC).2.2
          have c0' : wq.cell? ⟨b, o, none⟩ = some (.string t) := (hBC.cell (p := ⟨b, o, none⟩) hbr).trans c0
          have c1' : wq.cell? ⟨b, o + 1, none⟩ = some (.slice x.a nb x.c) := (hBC.cell (p := ⟨b, o + 1, none⟩) hbr).trans c1
          have c2' : wq.cell? ⟨b, o + 2, none⟩ = some (.int .i64 st) := (hBC.cell (p := ⟨b, o + 2, none⟩) hbr).trans c2
          have c3' : wq.cell? ⟨b, o + 3, none⟩ = some (.int .i64 nd) := (hBC.cell (p := ⟨b, o + 3, none⟩) hbr).trans c3
          have c4' : wq.cell? ⟨b, o + 4, none⟩ = some (.bool gn) := (hBC.cell (p := ⟨b, o + 4, none⟩) hbr).trans c4
          have d0' : wq.cell? ⟨b', o', none⟩ = some (.string t2) := (hBC.cell (p := ⟨b', o', none⟩) hbr').trans d0
          have d1' : wq.cell? ⟨b', o' + 1, none⟩ = some (.slice y.a nb2 y.c) := (hBC.cell (p := ⟨b', o' + 1, none⟩) hbr').trans d1
          have d2' : wq.cell? ⟨b', o' + 2, none⟩ = some (.int .i64 st2) := (hBC.cell (p := ⟨b', o' + 2, none⟩) hbr').trans d2
          have d3' : wq.cell? ⟨b', o' + 3, none⟩ = some (.int .i64 nd2) := (hBC.cell (p := ⟨b', o' + 3, none⟩) hbr').trans d3
          have d4' : wq.cell? ⟨b', o' + 4, none⟩ = some (.bool gn2) := (hBC.cell (p := ⟨b', o' + 4, none⟩) hbr').trans d4
          clear c0 c1 c2 c3 c4 d0 d1 d2 d3 d4 hBC hz0
          obtain ⟨sel, hsel⟩ : ∃ sel : Bool, sel = decide (0 < od ∨ (od = 0 ∧ 0 < nw)) := ⟨_, rfl⟩
          have HSEL := hide hsel
          have HB0 := hide ((unhide HT).bel.trans ((unhide HC).2.2.mono hz))
          clear hsel
          go_upto_region 4 with fail
          go_cut [45] (fun v wd => v = .bool sel ∧ Hid (Below wq.heap.size wq wd))
          case first =>
            rcases hod3 with rfl | rfl | rfl
            · have hs0 : sel = false := (unhide HSEL).trans (decide_eq_false (by omega))
              subst hs0
              go_wp2_with fail
              go_quiet (fail)
              go_wp2_with fail
              go_meet
              exact ⟨rfl, below_drewN (Below.refl _ _) _⟩
            · have hs0 : sel = decide (0 < nw) := (unhide HSEL).trans (decide_eq_decide.2 (by omega))
              subst hs0
              have hb1 : b < wq.heap.size := by omega
              have hb2 : b' < wq.heap.size := by omega
              have kc0 : ∀ W : World, Below wq.heap.size wq W → W.cell? ⟨b, o, none⟩ = some (.string t) := fun W hW => (hW.cell (p := ⟨b, o, none⟩) hb1).trans c0'
              have kc1 : ∀ W : World, Below wq.heap.size wq W → W.cell? ⟨b, o + 1, none⟩ = some (.slice x.a nb x.c) := fun W hW => (hW.cell (p := ⟨b, o + 1, none⟩) hb1).trans c1'
              have kc2 : ∀ W : World, Below wq.heap.size wq W → W.cell? ⟨b, o + 2, none⟩ = some (.int .i64 st) := fun W hW => (hW.cell (p := ⟨b, o + 2, none⟩) hb1).trans c2'
              have kc3 : ∀ W : World, Below wq.heap.size wq W → W.cell? ⟨b, o + 3, none⟩ = some (.int .i64 nd) := fun W hW => (hW.cell (p := ⟨b, o + 3, none⟩) hb1).trans c3'
              have kc4 : ∀ W : World, Below wq.heap.size wq W → W.cell? ⟨b, o + 4, none⟩ = some (.bool gn) := fun W hW => (hW.cell (p := ⟨b, o + 4, none⟩) hb1).trans c4'
              have kd0 : ∀ W : World, Below wq.heap.size wq W → W.cell? ⟨b', o', none⟩ = some (.string t2) := fun W hW => (hW.cell (p := ⟨b', o', none⟩) hb2).trans d0'
              have kd1 : ∀ W : World, Below wq.heap.size wq W → W.cell? ⟨b', o' + 1, none⟩ = some (.slice y.a nb2 y.c) := fun W hW => (hW.cell (p := ⟨b', o' + 1, none⟩) hb2).trans d1'
              have kd2 : ∀ W : World, Below wq.heap.size wq W → W.cell? ⟨b', o' + 2, none⟩ = some (.int .i64 st2) := fun W hW => (hW.cell (p := ⟨b', o' + 2, none⟩) hb2).trans d2'
              have kd3 : ∀ W : World, Below wq.heap.size wq W → W.cell? ⟨b', o' + 3, none⟩ = some (.int .i64 nd2) := fun W hW => (hW.cell (p := ⟨b', o' + 3, none⟩) hb2).trans d3'
              have kd4 : ∀ W : World, Below wq.heap.size wq W → W.cell? ⟨b', o' + 4, none⟩ = some (.bool gn2) := fun W hW => (hW.cell (p := ⟨b', o' + 4, none⟩) hb2).trans d4'
              clear hb1 hb2
              go_wp2_with fail
              go_region_held3 (fun W => Below wq.heap.size wq W) (first | exact bel_dr (Below.refl _ _) | exact hb6) ((go_at_call 71; refine (unhide HNW _ (bel_dr (unhide HB0))).mono ?_; rintro e w5 ⟨rfl, hb5⟩; have hb6 : Below wq.heap.size wq w5 := (bel_dr (Below.refl _ _)).trans hb5; clear hb5))
              go_wp2_with fail
              go_meet
              exact ⟨rfl, hb6⟩
            · have hs0 : sel = true := (unhide HSEL).trans (decide_eq_true (by omega))
              subst hs0
              go_wp2_with fail
              go_quiet (fail)
              go_wp2_with fail
              go_meet
              exact ⟨rfl, below_drewN (Below.refl _ _) _⟩
          case rest =>
           rename World => wp
           obtain ⟨rfl, HWP⟩ := hcut
           have hbp := unhide HWP
           obtain ⟨hgh, hgw2, hgB⟩ := unhide HC
           have hgl : g < wq.heap.size := by
             rcases Nat.lt_or_ge g wq.heap.size with h' | h'
             · exact h'
             · rw [Array.getElem?_eq_none h'] at hgh; cases hgh
           have hgp : wp.heap[g]? = some (.cells #[.string t, .slice x.a nb x.c, .int .i64 st, .int .i64 nd, .bool gn] 49 (0, 0)) := (hbp.block g hgl).trans hgh
           have hBp : Below wr.heap.size wr wp := hgB.trans (hbp.mono hgB.size)
           have HGP := hide hgp
           have HBP := hide hBp
           have hb2 : b' < wq.heap.size := by omega
           have q0 : wp.cell? ⟨b', o', none⟩ = some (.string t2) := (hbp.cell (p := ⟨b', o', none⟩) hb2).trans d0'
           have q1 : wp.cell? ⟨b', o' + 1, none⟩ = some (.slice y.a nb2 y.c) := (hbp.cell (p := ⟨b', o' + 1, none⟩) hb2).trans d1'
           have q2 : wp.cell? ⟨b', o' + 2, none⟩ = some (.int .i64 st2) := (hbp.cell (p := ⟨b', o' + 2, none⟩) hb2).trans d2'
           have q3 : wp.cell? ⟨b', o' + 3, none⟩ = some (.int .i64 nd2) := (hbp.cell (p := ⟨b', o' + 3, none⟩) hb2).trans d3'
           have q4 : wp.cell? ⟨b', o' + 4, none⟩ = some (.bool gn2) := (hbp.cell (p := ⟨b', o' + 4, none⟩) hb2).trans d4'
           obtain ⟨p1, p2⟩ := put5 wp g 49 _ _ _ _ _ (.string t2) (.slice y.a nb2 y.c) (.int .i64 st2) (.int .i64 nd2) (.bool gn2) hgp
           have P1 := hide p1
           have P2 := hide (hBp.grown p2 hBp.size (fun k e => by cases e; exact hgw2))
           have e0 : wp.cell? ⟨g, 0, none⟩ = some (.string t) := heap_row hgp
           have e1 : wp.cell? ⟨g, 1, none⟩ = some (.slice x.a nb x.c) := heap_row hgp
           have e2 : wp.cell? ⟨g, 2, none⟩ = some (.int .i64 st) := heap_row hgp
           have e3 : wp.cell? ⟨g, 3, none⟩ = some (.int .i64 nd) := heap_row hgp
           have e4 : wp.cell? ⟨g, 4, none⟩ = some (.bool gn) := heap_row hgp
           have f0 := frozen_of_row wp g 0 _ _ hgp
           have f1 := frozen_of_row wp g 1 _ _ hgp
           have f2 := frozen_of_row wp g 2 _ _ hgp
           have f3 := frozen_of_row wp g 3 _ _ hgp
           have f4 := frozen_of_row wp g 4 _ _ hgp
           clear hgp hBp hbp hb2 p1 p2 hgh hgw2 hgB hgl c0' c1' c2' c3' c4' d0' d1' d2' d3' d4'
           go_upto_if 45 with (fail)
           go_cut [] (fun wd => Hid (wd.heap[g]? = some (.cells z.cells.toArray 49 (0, 0)) ∧ Below wr.heap.size wr wd))
           case first =>
            cases sel with
            | false =>
              have hs0 : z = x := by rw [unhide HZ, if_neg (of_decide_eq_false (unhide HSEL).symm)]
              go_wp2_with fail
              go_meet
              rw [hs0, unhide HXC]
              exact ⟨unhide HGP, unhide HBP⟩
            | true =>
              have hs0 : z = y := by rw [unhide HZ, if_pos (of_decide_eq_true (unhide HSEL).symm)]
              go_wp2_with fail
              go_meet
              rw [hs0, unhide HYC]
              exact ⟨unhide P1, unhide P2⟩
           case rest =>
            clear e0 e1 e2 e3 e4 f0 f1 f2 f3 f4 q0 q1 q2 q3 q4 P1 P2 HGP HBP
            obtain ⟨hgz, hbz⟩ := unhide hcut
            have hzin : FvIn w z := by
              rw [unhide HZ]
              split
              · exact unhide HY
              · exact unhide HX
            have hBw := (unhide HT).bel.trans (hbz.mono hz)
            have HCP := hide (copyOf_any z wc (hzin.below hBw (Nat.le_refl _)))
            have HROW := hide ((unhide HT).row.below hbz)
            have hzs := hbz.size
            have HBW := hide hBw
            rw [val_is] at HCP
            have hzc : z.cells.toArray = #[.string (B z.f.name), .slice z.a z.f.bytes.length z.c, .int .i64 z.f.stamp, .int .i64 z.f.node, .bool z.f.gone] := rfl
            rw [hzc] at hgz
            obtain ⟨zt, hzt⟩ : ∃ t, B z.f.name = t := ⟨_, rfl⟩
            obtain ⟨zn, hzn⟩ : ∃ n, z.f.bytes.length = n := ⟨_, rfl⟩
            have HV : Hid (∀ a c, Fv.val ⟨z.f, a, c⟩ = .agg #[.string zt, .slice a zn c, .int .i64 z.f.stamp, .int .i64 z.f.node, .bool z.f.gone] ∧ Fv.cells ⟨z.f, a, c⟩ = [.string zt, .slice a zn c, .int .i64 z.f.stamp, .int .i64 z.f.node, .bool z.f.gone]) := by
              intro a c
              rw [← hzt, ← hzn]
              exact ⟨rfl, rfl⟩
            rw [hzt, hzn] at hgz HCP
            have HZF := hide (congrArg Fv.f (unhide HZ))
            clear hzt hzn hzc hzin hBw hbz hcut
            have HZQ : Hid (∀ v', v' = z → z.f = v'.f) := fun v' e => by rw [e]
            generalize z.f.stamp = zs at *
            generalize z.f.node = zd at *
            generalize z.f.gone = zg at *
            have r0 : wc.cell? ⟨g, 0, none⟩ = some (.string zt) := heap_row hgz
            have r1 : wc.cell? ⟨g, 1, none⟩ = some (.slice z.a zn z.c) := heap_row hgz
            have r2 : wc.cell? ⟨g, 2, none⟩ = some (.int .i64 zs) := heap_row hgz
            have r3 : wc.cell? ⟨g, 3, none⟩ = some (.int .i64 zd) := heap_row hgz
            have r4 : wc.cell? ⟨g, 4, none⟩ = some (.bool zg) := heap_row hgz
            have hsA := sl_tail b o pa.length cA
            have hsC := sl_tail b' o' pb.length cC
            have hcA := (unhide HT).fa.cap
            have hcC := (unhide HT).fb.cap
            simp only [List.length_cons] at hcA hcC
            have hsA' := fun W => hsA W hcA
            have hsC' := fun W => hsC W hcC
            have hcnt := (unhide HT).cnt
            simp only [List.length_cons] at hcnt
            clear hgz hsA hsC HNC HNW HYC HXC
            go_wp2_with fail
            refine (unhide HCP).mono ?_
            rintro e w6 ⟨a6, c6, rfl, hv6, hb6, hl6⟩
            obtain ⟨hv, hvc⟩ := unhide HV a6 c6
            rw [hv]
            have hz6 := hb6.size
            have HR6 := hide (((unhide HROW).below hb6).below ((Below.refl w6.heap.size w6).alloc (Nat.le_refl _) (.cells #[.string zt, .slice a6 zn c6, .int .i64 zs, .int .i64 zd, .bool zg] 49)))
            have HV6 := hide (hv6.alloc (.cells #[.string zt, .slice a6 zn c6, .int .i64 zs, .int .i64 zd, .bool zg] 49))
            have HB6 := hide (bel_al ((unhide HBW).trans (hb6.mono (unhide HBW).size)) (.cells #[.string zt, .slice a6 zn c6, .int .i64 zs, .int .i64 zd, .bool zg] 49))
            have HL6 : Hid (∀ b o, a6 = some ⟨b, o, none⟩ → some b ≠ u5.ownBlock ∧ b < (w6.alloc (.cells #[.string zt, .slice a6 zn c6, .int .i64 zs, .int .i64 zd, .bool zg] 49)).heap.size) := by
              intro b o e
              have h1 := hl6 b o e
              refine ⟨fun e2 => ?_, by simp; omega⟩
              have := ((unhide HROW).lt e2.symm).2
              omega
            have HC6 : Hid (∀ j u, (Fv.cells ⟨z.f, a6, c6⟩)[j]? = some u → (w6.alloc (.cells #[.string zt, .slice a6 zn c6, .int .i64 zs, .int .i64 zd, .bool zg] 49)).cell? ⟨w6.heap.size, j, none⟩ = some u) := by
              intro j u hj
              rw [hvc] at hj
              rw [World.cell?_alloc_at _ _ _ _ rfl]
              simpa using hj
            clear hv hvc hv6 hb6 hl6
            go_wp2_with (at_builtin; refine wpList_append_file _ rfl _ _ rfl w.heap.size _ out rfl (unhide HR6) w6.heap.size ⟨z.f, a6, c6⟩ rfl (unhide HC6) (unhide HV6) (unhide HL6) (by omega) (by simp; omega) ?_)
            intro v' w7 hR7 hB7
            have HB7 := hide ((unhide HB6).trans (unhide hB7))
            have HTT := HT
            clear HR6 HV6 HB6 HL6 HC6 hB7 HCP HROW HBW r0 r1 r2 r3 r4
            rcases hod3 with rfl | rfl | rfl
            · have hzf : z.f = x.f := by rw [unhide HZF, if_neg (by omega)]
              have HF := hide ((unhide HT).lt (z := ⟨z.f, a6, c6⟩) (by rw [unhide HOD]; decide) hzf (unhide hR7) (unhide HB7))
              clear hzf
              go_wp2
              go_roundw
              case rel => exact ⟨_, _, pa, y :: pb, _, rfl, by simp, HF⟩
              case measure => simp [slen]
            · have hzf : z.f = pickF x.f y.f := by
                rw [unhide HZF]
                unfold pickF
                rw [unhide HNWR]
                by_cases hp : 0 < nw
                · rw [if_pos (by omega), if_pos hp]
                · rw [if_neg (by omega), if_neg hp]
              have HF := hide ((unhide HT).eq (z := ⟨z.f, a6, c6⟩) (by rw [unhide HOD]) hzf (unhide hR7) (unhide HB7))
              clear hzf
              go_wp2
              go_roundw
              case rel => exact ⟨_, _, pa, pb, _, rfl, rfl, HF⟩
              case measure => simp [slen]; omega
            · have hzf : z.f = y.f := by rw [unhide HZF, if_pos (by omega)]
              have HF := hide ((unhide HT).gt (z := ⟨z.f, a6, c6⟩) (by rw [unhide HOD]; decide) hzf (unhide hR7) (unhide HB7))
              clear hzf
              go_wp2
              go_roundw
              case rel => exact ⟨_, _, x :: pa, pb, _, by simp, rfl, HF⟩
              case measure => simp [slen]
end Go.Proofs.YtmgmganbamjnmaaGreatDoor
