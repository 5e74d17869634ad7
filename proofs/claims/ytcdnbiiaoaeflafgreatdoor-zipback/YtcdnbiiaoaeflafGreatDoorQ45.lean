import Derived.Test.YtcdnbiiaoaeflafGreatDoorQ14
import Derived.Test.YtcdnbiiaoaeflafGreatDoorQ44
import Derived.Test.YtcdnbiiaoaeflafGreatDoorQ0
import Derived.Shelf.Strings.Split
import Derived.Test.YtcdnbiiaoaeflafGreatDoorQ12
set_option maxHeartbeats 8000000
namespace Go.Proofs.YtcdnbiiaoaeflafGreatDoor
open Go.RowKit
set_option linter.unusedVariables false
set_option maxRecDepth 100000
theorem archive_any (ad : Option Addr) (c n : Nat) (es : List Ev) (w : World) (h : EsIn w ad c es) (hl : es.length = n) (hn : n <= 12) (hE : ∀ x ∈ es, ENum x.e) :
 Calls Tryz.prog 21 #[.slice ad n c] w fun e w' => ∃ v, e = .returned v /\ w'.ownsRow (w.heap.size + 1) 5 1 v (archL (es.map Ev.e)).length (u8s (archL (es.map Ev.e))) /\ Below w.heap.size w w' := by
 obtain ⟨i0, hi, hz0, hz1, hz2⟩ := info_parts info_intz
 obtain ⟨l, hle⟩ : ∃ l, es.map Ev.e = l := ⟨_, rfl⟩
 have hll : l.length = n := by rw [<- hle]; simpa using hl
 have hEl : ∀ x ∈ l, ENum x := by
  rw [<- hle]
  intro x hx
  obtain ⟨y, hy, rfl⟩ := List.mem_map.1 hx
  exact hE y hy
 have hbnd : ∀ k, (hereL (l.take k)).length <= 12081 * 12 := fun k => by
  have h1 := here_le (l.take k) (fun x hx => hEl x (List.mem_of_mem_take hx))
  have h2 : (l.take k).length <= 12 := by rw [List.length_take]; omega
  omega
 have hbnd2 : ∀ k, (thereL 0 (l.take k)).length <= 97 * 12 := fun k => by
  have h1 := there_le (l.take k) 0 (fun x hx => hEl x (List.mem_of_mem_take hx))
  have h2 : (l.take k).length <= 12 := by rw [List.length_take]; omega
  omega
 rw [hle]
 have HG : ∀ (k : Nat) (x : Ev), es[k]? = some x -> l[k]? = some x.e := fun k x hk => by rw [<- hle]; simp [hk]
 have HS0 : Hid (AS w w.heap.size w.heap.size (hereL (l.take 0)) (.slice none 0 0) (plsL 0 (l.take 0)) (w.alloc (.cells #[.slice none 0 0] 74))) := Hd (by
  refine ⟨⟨.slice none 0 0, Nat.le_refl _, heap_alloc_new w _, World.ownsRow_nil _ _ _ _⟩, World.ownsRow_nil _ _ _ _, (Below.refl _ _).alloc (Nat.le_refl _) _⟩)
 have HI := Hd h
 have HBN := Hd hbnd
 have HBN2 := Hd hbnd2
 have HEE := Hd hE
 have HLL := Hd hll
 have HL := Hd hl
 have HGG := Hd HG
 clear h hbnd hbnd2 hE hll hl HG hEl hle
 go_enter Tryz.func21, Tryz.ntmps21
 go_wp2
 go_loopw [4, 6, 14] (fun v4 _ i wr => ∃ k : Nat, k <= n /\ i = .int .i64 (k : Int) /\ Hid (AS w w.heap.size w.heap.size (hereL (l.take k)) v4 (plsL 0 (l.take k)) wr)) (fun _ _ i _ => n - (intOf i).toNat)
 case atStart => exact ⟨0, Nat.zero_le _, rfl, HS0⟩
 case round =>
  obtain ⟨k, hk, rfl, HA⟩ := hrel
  by_cases hlt : k < n
  . obtain ⟨x, hx, hxm⟩ : ∃ x, es[k]? = some x /\ x ∈ es := ⟨es[k]'(by rw [uh HL]; exact hlt), List.getElem?_eq_getElem _, List.getElem_mem _⟩
    obtain ⟨b, o, rfl, hb, c0, c1, c2, c3, c4, c5, c6, c7⟩ := (uh HI).get (uh HA).below hx
    have hgl := uh HGG k x hx
    have HIN := Hd ((uh HI).all x hxm)
    have hnum := uh HEE x hxm
    have HF := Hd (fun (W : World) (hA : ∃ v ps, AS w w.heap.size w.heap.size (hereL (l.take k)) v ps W) => zfst_any w.heap.size w.heap.size x (hereL (l.take k)) W (by obtain ⟨v, ps, hA⟩ := hA; exact hA.z) hnum (by
     obtain ⟨v, ps, hA⟩ := hA
     exact (uh HIN).pk.below hA.below) (fun g o' e1 e2 => pk_lt (uh HIN).pk g o' e1 e2) (by have := uh HBN k; omega))
    unfold Ev.val at HF
    have HTK := Hd (take_snoc hgl)
    obtain ⟨x, fa, fc, pa, pc⟩ := x
    obtain ⟨⟨nml, bys, st, nd, gn⟩, mt, pk, cr⟩ := x
    dsimp only at c0 c1 c2 c3 c4 c5 c6 c7 HF
    generalize B nml = nm at c0 HF
    generalize bys.length = bl at c1 HF
    generalize pk.length = pl at c6 HF
    clear hx hxm hgl hnum
    obtain ⟨ov, hC⟩ := (uh HA).z
    obtain ⟨d0, g0⟩ := hC.new
    obtain ⟨oa, oc, rfl⟩ := own_slice' hC.own
    have hlb := uh HBN k
    obtain ⟨L, hL⟩ : ∃ L, (hereL (l.take k)).length = L := ⟨_, rfl⟩
    rw [hL] at d0 hlb
    have HLE := Hd hL
    have hbl := hC.lt
    have d0' : ∀ o1 : Obj, (wr.alloc o1).cell? ⟨w.heap.size, 0, none⟩ = some (.slice oa L oc) := fun o1 => (World.cell?_alloc_lt wr o1 _ hbl).trans d0
    have HA1 := Hd (fun o1 o2 : Obj => ((uh HA).later ((Below.refl _ _).alloc (Nat.le_refl _) o1)).later ((Below.refl _ _).alloc (Nat.le_refl _) o2))
    have hpl2 : (plsL 0 (l.take k)).length = k := by rw [pls_len, List.length_take, uh HLL]; omega
    have HPL := Hd hpl2
    have HO := Hd (fun o1 o2 : Obj => (uh HA1 o1 o2).p)
    rw [hpl2] at HO
    clear hC hL hpl2
    go_wp2_with (at_builtin; refine wpList_append_own_at _ rfl _ _ 58 rfl (w.heap.size + 1) 3 i0 (.int .i64 0) 1 8 Tryz.underlying58 hi hz0 hz1 hz2 rfl (by decide) _ k (i64s (plsL 0 (l.take k))) rfl (uh HO _ _) ⟨wr.heap.size + 1, 0, none⟩ 1 1 [.int .i64 (L : Int)] rfl rfl (fun j u hj => new_cell (cell_last (by simp)) hj) (one_cell rfl) (by unfold maxLen; omega) (by omega) (by simp; omega) ?_)
    intro v' w3 hO3 hg3 _ _
    have hX : w3.heap[wr.heap.size]? = some (.cells #[.string nm, .slice fa bl fc, .int .i64 st, .int .i64 nd, .bool gn, .int .u32 (mt : Int), .slice pa pl pc, .int .u32 (cr : Int)] 53 (0, 0)) := by
     refine (hg3.block _ (by simp; omega) (fun e => ?_)).trans ((heap_alloc_old _ _ (by simp)).trans (heap_alloc_new wr _))
     have := ((uh HA).p.lt _ e.symm).2
     omega
    have HA3 := Hd ((uh HA1 _ _).app hg3 (by rw [uh HPL]; exact hO3))
    have e0 := hpZ (i := 0) hX
    have e1 := hpZ (i := 1) hX
    have e2 := hpZ (i := 2) hX
    have e3 := hpZ (i := 3) hX
    have e4 := hpZ (i := 4) hX
    have e5 := hpZ (i := 5) hX
    have e6 := hpZ (i := 6) hX
    have e7 := hpZ (i := 7) hX
    simp only [List.getElem?_toArray, List.getElem?_cons_zero, List.getElem?_cons_succ] at e0 e1 e2 e3 e4 e5 e6 e7
    clear hO3 hg3 hX c0 c1 c2 c3 c4 c5 c6 c7 d0 g0 d0' HO
    go_wp2_with fail
    refine (uh HF w3 ⟨_, _, uh HA3⟩).mono ?_
    rintro e w4 ⟨rfl, hU⟩
    have HA4 : Hid (AS w w.heap.size w.heap.size (hereL (l.take (k + 1))) v' (plsL 0 (l.take (k + 1))) w4) := Hd (by
     rw [uh HTK, here_snoc, pls_snoc, Nat.zero_add, uh HLE]
     exact (uh HA3).up hU)
    clear hU e0 e1 e2 e3 e4 e5 e6 e7
    go_wp2
    go_roundw
    case rel => exact ⟨k + 1, by omega, by go_num, HA4⟩
    case measure => simp [intOf]; omega
  . obtain rfl : n = k := by omega
    have hta : l.take n = l := List.take_of_length_le (by rw [uh HLL]; exact Nat.le_refl _)
    rw [hta] at HA
    have HTA := Hd hta
    clear hta
    obtain ⟨ov, hC⟩ := (uh HA).z
    obtain ⟨d0, g0⟩ := hC.new
    obtain ⟨oa, oc, rfl⟩ := own_slice' hC.own
    have hlb := uh HBN n
    rw [uh HTA] at hlb
    obtain ⟨L, hL⟩ : ∃ L, (hereL l).length = L := ⟨_, rfl⟩
    rw [hL] at d0 hlb
    have HLE := Hd hL
    clear hC hL
    go_wp2
    go_loopw [8, 9, 37] (fun _ _ i wr => ∃ k : Nat, k <= n /\ i = .int .i64 (k : Int) /\ Hid (AS w w.heap.size w.heap.size (hereL l ++ thereL 0 (l.take k)) u4 (plsL 0 l) wr)) (fun _ _ i _ => n - (intOf i).toNat)
    case atStart => exact ⟨0, Nat.zero_le _, rfl, Hd (by simpa [thereL] using uh HA)⟩
    case round =>
     clear d0 g0 HA hlt
     obtain ⟨k, hk, rfl, HA⟩ := hrel
     by_cases hlt : k < n
     . obtain ⟨x, hx, hxm⟩ : ∃ x, es[k]? = some x /\ x ∈ es := ⟨es[k]'(by rw [uh HL]; exact hlt), List.getElem?_eq_getElem _, List.getElem_mem _⟩
       obtain ⟨b, o, rfl, hb, c0, c1, c2, c3, c4, c5, c6, c7⟩ := (uh HI).get (uh HA).below hx
       have hgl := uh HGG k x hx
       have HIN := Hd ((uh HI).all x hxm)
       have hnum := uh HEE x hxm
       obtain ⟨P, hP⟩ : ∃ P, (hereL (l.take k)).length = P := ⟨_, rfl⟩
       have hPb := uh HBN k
       rw [hP] at hPb
       have HPE := Hd hP
       have HF := Hd (fun (W : World) (hA : AS w w.heap.size w.heap.size (hereL l ++ thereL 0 (l.take k)) u4 (plsL 0 l) W) => zsnd_any w.heap.size w.heap.size P x (hereL l ++ thereL 0 (l.take k)) W hA.z hnum (by omega) (by rw [List.length_append]; have h1 := uh HBN n; have h2 := uh HBN2 k; rw [List.take_of_length_le (by rw [uh HLL]; exact Nat.le_refl _)] at h1; omega))
       unfold Ev.val at HF
       have HTK := Hd (take_snoc hgl)
       obtain ⟨x, fa, fc, pa, pc⟩ := x
       obtain ⟨⟨nml, bys, st, nd, gn⟩, mt, pk, cr⟩ := x
       dsimp only at c0 c1 c2 c3 c4 c5 c6 c7 HF
       generalize B nml = nm at c0 HF
       generalize bys.length = bl at c1 HF
       generalize pk.length = pl at c6 HF
       clear hx hxm hgl hnum
       have hplen : (plsL 0 l).length = n := by rw [pls_len, uh HLL]
       have hown := (uh HA).p
       rw [hplen] at hown
       obtain ⟨pg, pcap, hu4, hpg1, hpg2⟩ := own_shape hown (by omega)
       subst hu4
       have hpk : wr.cell? ⟨pg, k, none⟩ = some (.int .i64 (P : Int)) := by
        rw [hown.cellAt k (by omega), <- uh HPE]
        have := pls_at l 0 k (by rw [uh HLL]; exact hlt)
        rw [Nat.zero_add] at this
        have hk2 : k < (plsL 0 l).length := by omega
        simp [List.getD, hk2] at this
        simp [i64s, hk2, this]
       have hpk' : ∀ o1 : Obj, (wr.alloc o1).cell? ⟨pg, k, none⟩ = some (.int .i64 (P : Int)) := fun o1 => (World.cell?_alloc_lt wr o1 _ hpg2).trans hpk
       have HA1 := Hd (fun o1 : Obj => (uh HA).later ((Below.refl _ _).alloc (Nat.le_refl _) o1))
       clear hown hplen hpg1
       go_wp2
       go_region_with (go_at_call 34; refine (uh HF _ ((uh HA1 _).later (bdN (Below.refl _ _) _))).mono ?_; rintro e w4 ⟨rfl, hU⟩)
       all_goals
        have HA4 : Hid (AS w w.heap.size w.heap.size (hereL l ++ thereL 0 (l.take (k + 1))) (.slice (some ⟨pg, 0, none⟩) n pcap) (plsL 0 l) w4) := Hd (by
         rw [uh HTK, there_snoc, uh HPE, <- List.append_assoc]
         exact ((uh HA1 _).later (bdN (Below.refl _ _) _)).up hU)
        clear hU c0 c1 c2 c3 c4 c5 c6 c7 hpk hpk'
        go_wp2
        go_roundw
        case rel => exact ⟨k + 1, by omega, by go_num, HA4⟩
        case measure => simp [intOf]; omega
     . obtain rfl : n = k := by omega
       rw [uh HTA] at HA
       have hb2 := uh HBN2 n
       rw [uh HTA] at hb2
       obtain ⟨ov, hC⟩ := (uh HA).z
       obtain ⟨d0, g0⟩ := hC.new
       obtain ⟨oa2, oc2, rfl⟩ := own_slice' hC.own
       obtain ⟨T, hT⟩ : ∃ T, (thereL 0 l).length = T := ⟨_, rfl⟩
       have hLT : (hereL l ++ thereL 0 l).length = L + T := by rw [List.length_append, uh HLE, hT]
       rw [hLT] at d0
       rw [hT] at hb2
       have HTE := Hd hT
       have hsub : ((L : Int) + (T : Int) - (L : Int)) = (T : Int) := by omega
       have HEND : Hid (Calls Tryz.prog 35 #[.pointer (some ⟨w.heap.size, 0, none⟩), .int .i64 (n : Int), .int .i64 ((L : Int) + (T : Int) - (L : Int)), .int .i64 (L : Int)] wr fun e w' => e = .returned (.tuple #[]) /\ ZUp w.heap.size wr w.heap.size (hereL l ++ thereL 0 l ++ endL n T L) w') := Hd (by
        rw [hsub]
        exact zend_any w.heap.size w.heap.size n T L (hereL l ++ thereL 0 l) wr (uh HA).z (by omega) (by omega) (by omega) (by rw [hLT]; omega))
       clear hC hT hLT hsub
       go_wp2_with fail
       refine (uh HEND).mono ?_
       rintro e w5 ⟨rfl, hU⟩
       have hA5 := (uh HA).up hU
       obtain ⟨ov, hC⟩ := hA5.z
       have har : archL l = hereL l ++ thereL 0 l ++ endL n T L := by unfold archL; rw [uh HLL, uh HTE, uh HLE]
       have HAR := Hd har
       clear d0 g0 hU har
       obtain ⟨d0, g0⟩ := hC.new
       have HFIN := Hd (And.intro hC.own hA5.below)
       clear hC hA5
       go_wp2
       go_ret
       exact ⟨_, rfl, by rw [uh HAR]; exact (uh HFIN).1, (uh HFIN).2⟩
def spn : List (Nat × Nat) := [(97, 122), (65, 90), (48, 57), (46, 46), (95, 95), (45, 45)]
def spanB (c : Nat) (p : Nat × Nat) : Bool := decide (p.1 <= c) && decide (c <= p.2)
theorem okB_spn : ∀ c : UInt8, okB c = spn.any (spanB c.toNat) := by
 have h : ∀ n : Fin 256, okB (UInt8.ofNat n.val) = spn.any (spanB n.val) := by decide +kernel
 intro c
 have := h ⟨c.toNat, c.toNat_lt⟩
 simpa using this
theorem idxS0 (W : World) : (Instr.index 227 (.agg #[.int .u8 97, .int .u8 122, .int .u8 65, .int .u8 90, .int .u8 48, .int .u8 57, .int .u8 46, .int .u8 46, .int .u8 95, .int .u8 95, .int .u8 45, .int .u8 45]) (.int .i64 0)).run Tryz.prog W = .ok (.agg #[.int .u8 97, .int .u8 122]) W := by kernel_rfl
theorem idxS1 (W : World) : (Instr.index 227 (.agg #[.int .u8 97, .int .u8 122, .int .u8 65, .int .u8 90, .int .u8 48, .int .u8 57, .int .u8 46, .int .u8 46, .int .u8 95, .int .u8 95, .int .u8 45, .int .u8 45]) (.int .i64 1)).run Tryz.prog W = .ok (.agg #[.int .u8 65, .int .u8 90]) W := by kernel_rfl
theorem idxS2 (W : World) : (Instr.index 227 (.agg #[.int .u8 97, .int .u8 122, .int .u8 65, .int .u8 90, .int .u8 48, .int .u8 57, .int .u8 46, .int .u8 46, .int .u8 95, .int .u8 95, .int .u8 45, .int .u8 45]) (.int .i64 2)).run Tryz.prog W = .ok (.agg #[.int .u8 48, .int .u8 57]) W := by kernel_rfl
theorem idxS3 (W : World) : (Instr.index 227 (.agg #[.int .u8 97, .int .u8 122, .int .u8 65, .int .u8 90, .int .u8 48, .int .u8 57, .int .u8 46, .int .u8 46, .int .u8 95, .int .u8 95, .int .u8 45, .int .u8 45]) (.int .i64 3)).run Tryz.prog W = .ok (.agg #[.int .u8 46, .int .u8 46]) W := by kernel_rfl
theorem idxS4 (W : World) : (Instr.index 227 (.agg #[.int .u8 97, .int .u8 122, .int .u8 65, .int .u8 90, .int .u8 48, .int .u8 57, .int .u8 46, .int .u8 46, .int .u8 95, .int .u8 95, .int .u8 45, .int .u8 45]) (.int .i64 4)).run Tryz.prog W = .ok (.agg #[.int .u8 95, .int .u8 95]) W := by kernel_rfl
theorem idxS5 (W : World) : (Instr.index 227 (.agg #[.int .u8 97, .int .u8 122, .int .u8 65, .int .u8 90, .int .u8 48, .int .u8 57, .int .u8 46, .int .u8 46, .int .u8 95, .int .u8 95, .int .u8 45, .int .u8 45]) (.int .i64 5)).run Tryz.prog W = .ok (.agg #[.int .u8 45, .int .u8 45]) W := by kernel_rfl
theorem idxS (k : Nat) (hk : k < 6) (W : World) : (Instr.index 227 (.agg #[.int .u8 97, .int .u8 122, .int .u8 65, .int .u8 90, .int .u8 48, .int .u8 57, .int .u8 46, .int .u8 46, .int .u8 95, .int .u8 95, .int .u8 45, .int .u8 45]) (.int .i64 (k : Int))).run Tryz.prog W = .ok (.agg #[.int .u8 ((spn.getD k (0, 0)).1 : Nat), .int .u8 ((spn.getD k (0, 0)).2 : Nat)]) W := by
 have h : k = 0 \/ k = 1 \/ k = 2 \/ k = 3 \/ k = 4 \/ k = 5 := by omega
 rcases h with rfl | rfl | rfl | rfl | rfl | rfl
 . exact idxS0 W
 . exact idxS1 W
 . exact idxS2 W
 . exact idxS3 W
 . exact idxS4 W
 . exact idxS5 W
theorem spn_lt (k : Nat) : (spn.getD k (0, 0)).1 < 256 /\ (spn.getD k (0, 0)).2 < 256 := by
 match k with
 | 0 => decide
 | 1 => decide
 | 2 => decide
 | 3 => decide
 | 4 => decide
 | 5 => decide
 | k + 6 => simp [spn]
theorem spn_any (n k : Nat) (hk : k < 6) (h : spanB n (spn.getD k (0, 0)) = true) : spn.any (spanB n) = true := by
 rw [List.any_eq_true]
 refine ⟨spn.getD k (0, 0), ?_, h⟩
 have hl : k < spn.length := hk
 simp [List.getD, hl]
theorem spn_none (n : Nat) (h : ∀ j, j < 6 -> spanB n (spn.getD j (0, 0)) = false) : spn.any (spanB n) = false := by
 rw [List.any_eq_false]
 intro x hx
 obtain ⟨j, hj, rfl⟩ := List.mem_iff_getElem.1 hx
 have := h j hj
 simp [List.getD, hj] at this
 simp [this]
theorem mayStand_num (n : Nat) (hn : n < 256) (w : World) :
 Calls Tryz.prog 116 #[.int .u8 n] w fun e w' => e = .returned (.bool (spn.any (spanB n))) /\ Below w.heap.size w w' := by
 have hI := idxS
 go_enter Tryz.func116, Tryz.ntmps116
 go_wp2
 go_loopw [12] (fun i wr => ∃ k : Nat, k <= 6 /\ i = .int .i64 k /\ Hid (∀ j, j < k -> spanB n (spn.getD j (0, 0)) = false) /\ Hid (Below w.heap.size w wr)) (fun i _ => 6 - (intOf i).toNat)
 case atStart => exact ⟨0, Nat.zero_le _, rfl, fun j hj => absurd hj (by omega), Below.refl _ _⟩
 case round =>
  obtain ⟨k, hk, rfl, HN, HB⟩ := hrel
  by_cases hlt : k < 6
  . have hix := hI k hlt
    obtain ⟨h1, h2⟩ := spn_lt k
    have HS : Hid (spanB n (spn.getD k (0, 0)) = (decide ((spn.getD k (0, 0)).1 <= n) && decide (n <= (spn.getD k (0, 0)).2))) := rfl
    have HY := Hd (spn_any n k hlt)
    generalize (spn.getD k (0, 0)).1 = lo at *
    generalize (spn.getD k (0, 0)).2 = hi at *
    clear hI
    have hz := (uh HB).size
    by_cases ha : lo <= n
    . by_cases hb : n <= hi
      . go_wp2
        go_ret
        refine ⟨ret_bool ((uh HY) ?_).symm, (uh HB).alloc (uh HB).size _⟩
        rw [uh HS]; simp [ha, hb]
      . go_wp2
        go_roundw
        case rel =>
         refine ⟨k + 1, by omega, by go_num, fun j hj => ?_, (uh HB).alloc (uh HB).size _⟩
         by_cases hjk : j = k
         . subst hjk; rw [uh HS]; simp [hb]
         . exact (uh HN) j (by omega)
        case measure => simp [intOf]; omega
    . go_wp2
      go_roundw
      case rel =>
       refine ⟨k + 1, by omega, by go_num, fun j hj => ?_, (uh HB).alloc (uh HB).size _⟩
       by_cases hjk : j = k
       . subst hjk; rw [uh HS]; simp [ha]
       . exact (uh HN) j (by omega)
      case measure => simp [intOf]; omega
  . obtain rfl : k = 6 := by omega
    go_wp2
    go_ret
    exact ⟨ret_bool (spn_none n (uh HN)).symm, uh HB⟩
theorem okP_bytes (p : ByteArray) (h0 : p.data.toList ≠ []) (h1 : p.data.toList ≠ [46]) (h2 : p.data.toList ≠ [46, 46]) (hall : ∀ j (h : j < p.size), spn.any (spanB (p[j]'h).toNat) = true) : okP p.data.toList = true := by
 simp only [okP, Bool.and_eq_true, bne_iff_ne]
 refine ⟨⟨⟨h0, h1⟩, h2⟩, ?_⟩
 rw [List.all_eq_true]
 intro x hx
 obtain ⟨j, hj, rfl⟩ := List.mem_iff_getElem.1 hx
 rw [okB_spn]
 have hs : j < p.size := by rw [size_len]; exact hj
 exact hall j hs
theorem okP_bad (p : ByteArray) (j : Nat) (h : j < p.size) (hbad : spn.any (spanB (p[j]'h).toNat) = false) : okP p.data.toList = false := by
 have hb : okB (p[j]'h) = false := by rw [okB_spn]; exact hbad
 have : p.data.toList.all okB = false := by
  rw [List.all_eq_false]
  refine ⟨p[j]'h, ?_, by simp [hb]⟩
  exact Array.mem_toList_iff.2 (Array.getElem_mem _)
 simp [okP, this]
theorem str_ne (p : ByteArray) (l : List UInt8) (h : ¬ p.data.toList = l) : (p.toList == l) = false := by
 rw [Lib.toList_data]
 simpa using h
theorem str_none (p : ByteArray) (h : ¬ p.data.toList = []) : p.toList.isEmpty = false := by
 rw [Lib.toList_data]
 cases hl : p.data.toList with
 | nil => exact absurd hl h
 | cons x xs => rfl
theorem isPart_any (p : ByteArray) (hp : p.size <= maxLen) (w : World) :
 Calls Tryz.prog 94 #[.string p] w fun e w' => e = .returned (.bool (okP p.data.toList)) /\ Below w.heap.size w w' := by
 by_cases h0 : p.data.toList = []
 . obtain rfl : p = ⟨#[]⟩ := by rw [<- B_data p, h0]; rfl
   go_enter Tryz.func94, Tryz.ntmps94
   go_wp2
   go_ret
   exact ⟨rfl, Below.refl _ _⟩
 by_cases h1 : p.data.toList = [46]
 . obtain rfl : p = ⟨#[46]⟩ := by rw [<- B_data p, h1]; rfl
   go_enter Tryz.func94, Tryz.ntmps94
   go_wp2
   go_ret
   exact ⟨rfl, Below.refl _ _⟩
 by_cases h2 : p.data.toList = [46, 46]
 . obtain rfl : p = ⟨#[46, 46]⟩ := by rw [<- B_data p, h2]; rfl
   go_enter Tryz.func94, Tryz.ntmps94
   go_wp2
   go_ret
   exact ⟨rfl, Below.refl _ _⟩
 have HP := Hd (okP_bytes p h0 h1 h2)
 have e0 := str_none p h0
 have e1 := str_ne p [46] h1
 have e2 := str_ne p [46, 46] h2
 clear h0 h1 h2
 have HQ := Hd (okP_bad p)
 go_enter Tryz.func94, Tryz.ntmps94
 go_wp2
 go_loopw [3, 16] (fun _ i wr => ∃ k : Nat, k <= p.size /\ i = .int .i64 k /\ Hid (∀ j (h : j < p.size), j < k -> spn.any (spanB (p[j]'h).toNat) = true) /\ Hid (Below w.heap.size w wr)) (fun _ i _ => p.size - (intOf i).toNat)
 case atStart => exact ⟨0, Nat.zero_le _, rfl, fun j _ hj => absurd hj (by omega), Below.refl _ _⟩
 case round =>
  obtain ⟨k, hk, rfl, HN, HB⟩ := hrel
  unfold maxLen at hp
  have hz := (uh HB).size
  by_cases hlt : k < p.size
  . have HM := Hd (fun W => mayStand_num (p[k]'hlt).toNat (p[k]'hlt).toNat_lt W)
    cases hm : spn.any (spanB (p[k]'hlt).toNat) with
    | true =>
     rw [hm] at HM
     have HM2 := Hd hm
     clear hm
     go_wp2_with (go_at_call 116; refine ((uh HM) _).mono ?_; rintro e w1 ⟨rfl, hb1⟩; have HB1 := Hd ((uh HB).trans (hb1.mono hz)); clear hb1)
     go_roundw
     case rel =>
      refine ⟨k + 1, by omega, by go_num, fun j h hj => ?_, uh HB1⟩
      by_cases hjk : j = k
      . subst hjk; exact uh HM2
      . exact (uh HN) j h (by omega)
     case measure => simp [intOf]; omega
    | false =>
     rw [hm] at HM
     have HM2 := Hd hm
     clear hm
     go_wp2_with (go_at_call 116; refine ((uh HM) _).mono ?_; rintro e w1 ⟨rfl, hb1⟩; have HB1 := Hd ((uh HB).trans (hb1.mono hz)); clear hb1)
     go_ret
     exact ⟨ret_bool ((uh HQ) k hlt (uh HM2)).symm, uh HB1⟩
  . obtain rfl : k = p.size := by omega
    go_wp2
    go_ret
    exact ⟨ret_bool ((uh HP) (fun j h => (uh HN) j h h)).symm, uh HB⟩
def splRen : Go.Shelf.Ren := ⟨fun | 221 => 52 | 268 => 78 | 138 => 79 | 143 => 80 | 195 => 101 | 197 => 82 | 218 => 102 | 219 => 103 | 260 => 104 | 217 => 128 | 225 => 129 | 224 => 130 | 267 => 131 | 266 => 154 | 314 => 155 | n => n, fun | 9 => 9 | 3 => 3 | 31 => 43 | 4 => 4 | 0 => 0 | 105 => 143 | 21 => 21 | 5 => 5 | 46 => 62 | 119 => 201 | 139 => 204 | 138 => 203 | 146 => 206 | 51 => 35 | n => n, fun | 1 => 0 | 3 => 1 | 4 => 2 | n => n⟩
theorem splLays : Go.Proofs.Lays.n221 Tryz.prog splRen := {
 mixed := by kernel_rfl
 f138 := Tryz.func79.trans (congrArg some (by kernel_rfl))
 f143 := Tryz.func80.trans (congrArg some (by kernel_rfl))
 f195 := Tryz.func101.trans (congrArg some (by kernel_rfl))
 f197 := Tryz.func82.trans (congrArg some (by kernel_rfl))
 f217 := Tryz.func128.trans (congrArg some (by kernel_rfl))
 f218 := Tryz.func102.trans (congrArg some (by kernel_rfl))
 f219 := Tryz.func103.trans (congrArg some (by kernel_rfl))
 f221 := Tryz.func52.trans (congrArg some (by kernel_rfl))
 f224 := Tryz.func130.trans (congrArg some (by kernel_rfl))
 f225 := Tryz.func129.trans (congrArg some (by kernel_rfl))
 f260 := Tryz.func104.trans (congrArg some (by kernel_rfl))
 f266 := Tryz.func154.trans (congrArg some (by kernel_rfl))
 f267 := Tryz.func131.trans (congrArg some (by kernel_rfl))
 f268 := Tryz.func78.trans (congrArg some (by kernel_rfl))
 f314 := Tryz.func155.trans (congrArg some (by kernel_rfl))
 t0 := Tryz.underlying0
 a0 := Tryz.isAgg0
 z0 := Tryz.sizeOf0
 v0 := Tryz.zeroValue0
 t3 := Tryz.underlying3
 a3 := Tryz.isAgg3
 z3 := Tryz.sizeOf3
 v3 := Tryz.zeroValue3
 t4 := Tryz.underlying4
 a4 := Tryz.isAgg4
 z4 := Tryz.sizeOf4
 v4 := Tryz.zeroValue4
 t5 := Tryz.underlying5
 a5 := Tryz.isAgg5
 z5 := Tryz.sizeOf5
 v5 := Tryz.zeroValue5
 t9 := Tryz.underlying9
 a9 := Tryz.isAgg9
 z9 := Tryz.sizeOf9
 v9 := Tryz.zeroValue9
 t21 := Tryz.underlying21
 a21 := Tryz.isAgg21
 z21 := Tryz.sizeOf21
 v21 := Tryz.zeroValue21
 t31 := Tryz.underlying43
 a31 := Tryz.isAgg43
 z31 := Tryz.sizeOf43
 v31 := Tryz.zeroValue43
 t46 := Tryz.underlying62
 a46 := Tryz.isAgg62
 z46 := Tryz.sizeOf62
 v46 := Tryz.zeroValue62
 t51 := Tryz.underlying35
 a51 := Tryz.isAgg35
 z51 := Tryz.sizeOf35
 v51 := Tryz.zeroValue35
 t105 := Tryz.underlying143
 a105 := Tryz.isAgg143
 z105 := Tryz.sizeOf143
 v105 := Tryz.zeroValue143
 t119 := Tryz.underlying201
 a119 := Tryz.isAgg201
 z119 := Tryz.sizeOf201
 t138 := Tryz.underlying203
 a138 := Tryz.isAgg203
 z138 := Tryz.sizeOf203
 v138 := Tryz.zeroValue203
 t139 := Tryz.underlying204
 a139 := Tryz.isAgg204
 z139 := Tryz.sizeOf204
 v139 := Tryz.zeroValue204
 t146 := Tryz.underlying206
 a146 := Tryz.isAgg206
 z146 := Tryz.sizeOf206
 v146 := Tryz.zeroValue206
 g1 := by kernel_rfl
 g3 := by kernel_rfl
 g4 := by kernel_rfl }
def strV (ps : List (List UInt8)) : List Value := ps.map fun p => .string (B p)
theorem info_str : (Tryz.prog.info? 9).map (fun i => (i.zero, i.size, i.bytes)) = some (some (.string ByteArray.empty), 1, 16) := by kernel_rfl
theorem genSplit_any (s : ByteArray) (w : World) (hs : s.size < 4294967281) :
 Calls Tryz.prog 52 #[.string s, .string ⟨#[47]⟩, .int .i64 0, .int .i64 (-1)] w fun e w' =>
  e = .returned (.slice (some ⟨w.heap.size, 0, none⟩) (spl s.data.toList).length (spl s.data.toList).length) /\ w' = w.alloc (.cells (strV (spl s.data.toList)).toArray 9) := by
 have hsz : (⟨#[47]⟩ : ByteArray).size = 1 := rfl
 have hle := Lib.countB_le ⟨#[47]⟩ (by rw [hsz]; decide) s.size s (Nat.le_refl _)
 have hlen := Lib.splitB_all ⟨#[47]⟩ (by rw [hsz]; decide) 0 _ s rfl
 have hI : ∀ (x : ByteArray) (c : Array Value), x.size <= s.size -> Calls Tryz.prog (splRen.f 143) #[.string x, .string ⟨#[47]⟩] (w.alloc (.cells c (splRen.t 9))) fun e w' => e = .returned (.int .i64 (Lib.indexB x ⟨#[47]⟩)) /\ w' = w.alloc (.cells c (splRen.t 9)) := by
  intro x c _
  refine (Any.strings_Index_one { splLays with } x 47 _).mono ?_
  rintro e w' ⟨rfl, rfl⟩
  refine ⟨?_, rfl⟩
  show _ = Ending.returned (Value.int .i64 (Lib.index x.data.toList [47]))
  rw [Lib.index_one]
 have hC : Calls Tryz.prog (splRen.f 138) #[.string s, .string ⟨#[47]⟩] w fun e w' => e = .returned (.int .i64 (Lib.countB s ⟨#[47]⟩)) /\ w' = w := by
  refine (Any.strings_Count_one { splLays with } s 47 w).mono ?_
  rintro e w' ⟨rfl, rfl⟩
  refine ⟨?_, rfl⟩
  show _ = Ending.returned (Value.int .i64 ((Lib.count s.data.toList [47] : Nat) : Int))
  rw [Lib.count_one]
  rfl
 have c := Any.strings_genSplit_core splLays info_str s ⟨#[47]⟩ 0 (-1) (Lib.countB s ⟨#[47]⟩ + 1) w hs (by rw [hsz]; decide) (Nat.zero_le _) hI hC (by decide) (by decide) (by rw [if_pos (by decide)]; omega)
 rw [Nat.add_sub_cancel] at c
 have e2 : Lib.cellsOf (Lib.splitB ⟨#[47]⟩ 0 (Lib.countB s ⟨#[47]⟩) s) (Lib.countB s ⟨#[47]⟩ + 1) = ((Lib.splitB ⟨#[47]⟩ 0 (Lib.countB s ⟨#[47]⟩) s).map Value.string).toArray := by rw [<- hlen]; exact Lib.cellsOf_full _
 rw [e2, splitB_spl, countB_spl] at c
 refine c.mono ?_
 rintro e w' ⟨rfl, rfl⟩
 refine ⟨by simp, ?_⟩
 simp only [strV, List.map_map]
 rfl
theorem split_any (s : ByteArray) (w : World) (hs : s.size < 4294967281) :
 Calls Tryz.prog 36 #[.string s, .string ⟨#[47]⟩] w fun e w' =>
  e = .returned (.slice (some ⟨w.heap.size, 0, none⟩) (spl s.data.toList).length (spl s.data.toList).length) /\ w' = w.alloc (.cells (strV (spl s.data.toList)).toArray 9) := by
 have c := genSplit_any s w hs
 go_enter Tryz.func36, Tryz.ntmps36
 go_wp2_with (go_at_call 52; refine c.mono ?_; rintro e w' ⟨rfl, hw⟩; rw [hw])
 go_ret
 exact ⟨rfl, rfl⟩
def SRow (w : World) (b : Nat) (v : Value) (ps : List (List UInt8)) : Prop := w.ownsRow b 9 1 v ps.length (strV ps)
theorem strV_len (ps : List (List UInt8)) : (strV ps).length = ps.length := by simp [strV]
theorem SRow.nil (w : World) (b : Nat) : SRow w b (.slice none 0 0) [] := World.ownsRow_nil _ _ _ _
theorem SRow.new (w : World) (ps : List (List UInt8)) (h : ps.length <= maxLen) : SRow (w.alloc (.cells (strV ps).toArray 9)) w.heap.size (.slice (some ⟨w.heap.size, 0, none⟩) ps.length ps.length) ps :=
 ⟨by rw [strV_len]; omega, .inr ⟨w.heap.size, ps.length, (strV ps).toArray, rfl, Nat.le_refl _, heap_alloc_new w _, Nat.le_refl _, h, by simp [strV_len], by simp [<- strV_len]⟩⟩
theorem SRow.below {w w' : World} {b : Nat} {v : Value} {ps : List (List UInt8)} (h : SRow w b v ps) (hg : Below w.heap.size w w') : SRow w' b v ps := own_below h hg
theorem SRow.mono {w : World} {b c : Nat} {v : Value} {ps : List (List UInt8)} (h : SRow w b v ps) (hc : c <= b) : SRow w c v ps := by
 obtain ⟨h1, h2⟩ := h
 refine ⟨h1, h2.imp id ?_⟩
 rintro ⟨g, cap, cur, a1, a2, a3⟩
 exact ⟨g, cap, cur, a1, Nat.le_trans hc a2, a3⟩
theorem SRow.cases {w : World} {b : Nat} {v : Value} {ps : List (List UInt8)} (h : SRow w b v ps) : (v = .slice none 0 0 /\ ps = []) \/ ∃ g cap, v = .slice (some ⟨g, 0, none⟩) ps.length cap /\ b <= g /\ g < w.heap.size /\ ps.length <= cap /\ cap <= maxLen /\ ∀ j x, (ps.map B)[j]? = some x -> w.cell? ⟨g, 0 + j, none⟩ = some (.string x) := by
 obtain ⟨h1, h2 | ⟨g, cap, cur, a1, a2, a3, a4, a5, a6, a7⟩⟩ := h
 . exact .inl ⟨h2.1, List.length_eq_zero_iff.1 h2.2⟩
 . have hg : g < w.heap.size := by
    rcases Nat.lt_or_ge g w.heap.size with h' | h'
    . exact h'
    . simp [Array.getElem?_eq_none h'] at a3
   refine .inr ⟨g, cap, a1, a2, hg, a4, a5, ?_⟩
   intro j x hx
   have hj : j < ps.length := by
    rcases Nat.lt_or_ge j ps.length with h' | h'
    . exact h'
    . rw [List.getElem?_eq_none (by simpa using h')] at hx; exact absurd hx (by simp)
   rw [Nat.zero_add, Lib.cell_of_heap a3]
   have e : (cur.toList.take (ps.length * 1))[j]? = (strV ps)[j]? := by rw [a7]
   rw [List.getElem?_take, if_pos (by omega)] at e
   simp only [strV, List.getElem?_map] at e hx
   rw [<- Array.getElem?_toList, e]
   cases hp : ps[j]? with
   | none => rw [hp] at hx; exact absurd hx (by simp)
   | some p => rw [hp] at hx; simp at hx ⊢; exact hx
theorem errN_long {s : List UInt8} (h : 40 < s.length) : errN s = 2 := by unfold errN; rw [if_pos h]
theorem errN_bad {s : List UInt8} (h : s.length <= 40) {p : List UInt8} (hp : p ∈ spl s) (hb : okP p = false) : errN s = 1 := by
 unfold errN
 rw [if_neg (by omega), if_neg]
 intro hall
 have := List.all_eq_true.1 hall p hp
 rw [hb] at this
 exact absurd this (by simp)
theorem spl_le41 {s : List UInt8} (h : s.length <= 40) : (spl s).length <= 41 := by
 have := List.count_le_length (a := (47 : UInt8)) (l := s)
 rw [spl_len]
 omega
def prow (s : List UInt8) : List (List UInt8) := if errN s = 0 then spl s else []
theorem prow_ok {s : List UInt8} (h : errN s = 0) : prow s = spl s := by unfold prow; rw [if_pos h]
theorem prow_bad {s : List UInt8} (h : errN s ≠ 0) : prow s = [] := by unfold prow; rw [if_neg h]
theorem below_new (w : World) (o : Obj) : Below w.heap.size w (w.alloc o) := (Below.refl _ _).alloc (Nat.le_refl _) o
theorem parts_any (s : List UInt8) (w : World) (hs : s.length <= maxLen) :
 Calls Tryz.prog 74 #[.string (B s)] w fun e w' => ∃ v, e = .returned (.tuple #[v, .int .i64 (errN s : Nat)]) /\ SRow w' w.heap.size v (prow s) /\ Below w.heap.size w w' /\ (errN s ≠ 0 -> v = .slice none 0 0) := by
 have hsz := B_size s
 unfold maxLen at hs
 by_cases h40 : 40 < s.length
 . have HE := Hd (errN_long h40)
   have h40' : 40 < (B s).size := by rw [hsz]; omega
   have hms : (B s).size <= 9223372036854775807 := by rw [hsz]; omega
   clear hsz h40 hs
   generalize B s = t at *
   go_enter Tryz.func74, Tryz.ntmps74
   go_wp2
   go_ret2
   rw [prow_bad (by rw [uh HE]; decide), uh HE]
   exact ⟨_, rfl, SRow.nil _ _, Below.refl _ _, fun _ => rfl⟩
 . have hsp := split_any (B s) w (by rw [hsz]; omega)
   rw [data_B] at hsp
   have h40' : (B s).size <= 40 := by rw [hsz]; omega
   have h41 := spl_le41 (s := s) (by omega)
   have HR := Hd (SRow.new w (spl s) (by unfold maxLen; omega))
   have HE := Hd (fun p hp hb => errN_bad (s := s) (p := p) (by omega) hp hb)
   have HO := Hd (errN_of (l := s) (by omega))
   have hmem : ∀ p ∈ spl s, p.length <= s.length := spl_le s
   obtain ⟨L, hL⟩ : ∃ L, (spl s).length = L := ⟨_, rfl⟩
   rw [hL] at hsp HR h41
   have HL := Hd hL
   have HC : Hid (∀ j (hj : j < (spl s).length) (W : World), Below (w.heap.size + 1) (w.alloc (.cells (strV (spl s)).toArray 9)) W -> W.cell? ⟨w.heap.size, j, none⟩ = some (.string (B ((spl s)[j]'hj)))) := by
    intro j hj W hW
    rw [hW.cell (p := ⟨w.heap.size, j, none⟩) (Nat.lt_succ_self _), World.cell?_alloc_at _ _ _ _ rfl]
    simp [strV, hj]
   have hs40 : s.length <= 40 := by omega
   clear hL hsz h40 hs
   generalize B s = t at *
   go_enter Tryz.func74, Tryz.ntmps74
   go_wp2_with (go_at_call 36; refine hsp.mono ?_; rintro e w' ⟨rfl, hw⟩; rw [hw])
   clear hsp
   go_loopw [6, 14] (fun _ i wr => ∃ k : Nat, k <= L /\ i = .int .i64 k /\ Hid (∀ j (hj : j < (spl s).length), j < k -> okP ((spl s)[j]'hj) = true) /\ Hid (Below (w.heap.size + 1) (w.alloc (.cells (strV (spl s)).toArray 9)) wr)) (fun _ i _ => L - (intOf i).toNat)
   case atStart => exact ⟨0, Nat.zero_le _, rfl, fun j _ hj => absurd hj (by omega), Below.refl _ _⟩
   case round =>
    obtain ⟨k, hk, rfl, HN, HB⟩ := hrel
    by_cases hlt : k < L
    . have hlt' : k < (spl s).length := by rw [uh HL]; exact hlt
      have hcell := (uh HC) k hlt' wr (uh HB)
      have hz := (uh HB).size
      have hlen := hmem _ (List.getElem_mem hlt')
      have HM := Hd (List.getElem_mem hlt')
      have HQ := Hd (fun h => (uh HE) _ (uh HM) h)
      have HN2 : Hid (okP ((spl s)[k]'hlt') = true -> ∀ j (hj : j < (spl s).length), j < k + 1 -> okP ((spl s)[j]'hj) = true) := by
       intro h j hj hjk
       by_cases e : j = k
       . subst e; exact h
       . exact (uh HN) j hj (by omega)
      generalize (spl s)[k]'hlt' = q at *
      have hI := isPart_any (B q) (by rw [B_size]; unfold maxLen; omega) wr
      rw [data_B] at hI
      clear HM
      generalize B q = qb at *
      have hz2 : w.heap.size + 1 <= wr.heap.size := by simp at hz; omega
      cases ho : okP q with
      | true =>
       rw [ho] at hI
       have HO2 := Hd ho
       clear ho
       go_wp2_with (go_at_call 94; refine hI.mono ?_; rintro e w1 ⟨rfl, hb1⟩; have HB1 := Hd ((uh HB).trans (hb1.mono hz2)); clear hb1)
       go_roundw
       case rel => exact ⟨k + 1, by omega, by go_num, (uh HN2) (uh HO2), uh HB1⟩
       case measure => simp [intOf]; omega
      | false =>
       rw [ho] at hI
       have HO2 := Hd ho
       clear ho
       go_wp2_with (go_at_call 94; refine hI.mono ?_; rintro e w1 ⟨rfl, hb1⟩; have HB1 := Hd ((uh HB).trans (hb1.mono hz2)); clear hb1)
       go_ret2
       have he := (uh HQ) (uh HO2)
       rw [prow_bad (by rw [he]; decide), he]
       exact ⟨_, rfl, SRow.nil _ _, (below_new w _).trans ((uh HB1).mono (Nat.le_succ _)), fun _ => rfl⟩
    . obtain rfl : k = L := by omega
      have HZ : Hid (errN s = 0) := (uh HO) (by
       rw [List.all_eq_true]
       intro p hp
       obtain ⟨j, hj, rfl⟩ := List.mem_iff_getElem.1 hp
       exact (uh HN) j hj (by rw [uh HL] at hj; exact hj))
      go_wp2
      go_ret2
      rw [prow_ok (uh HZ), uh HZ]
      refine ⟨_, rfl, ?_, (below_new w _).trans ((uh HB).mono (Nat.le_succ _)), fun h => absurd rfl h⟩
      exact (uh HR).below (by simpa using uh HB)
end Go.Proofs.YtcdnbiiaoaeflafGreatDoor
