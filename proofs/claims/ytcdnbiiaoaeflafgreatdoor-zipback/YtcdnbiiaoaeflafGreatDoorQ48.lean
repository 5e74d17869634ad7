import Derived.Test.YtcdnbiiaoaeflafGreatDoorQ47
import Derived.Test.YtcdnbiiaoaeflafGreatDoorQ46
import Derived.Test.YtcdnbiiaoaeflafGreatDoorQ0
import Derived.Deep.Slices
import Derived.Test.YtcdnbiiaoaeflafGreatDoorQ12
import Derived.SizedLaws
import Derived.Deep.Strs
set_option maxHeartbeats 1000000
namespace Go.Proofs.YtcdnbiiaoaeflafGreatDoor
open Go.RowKit
set_option linter.unusedVariables false
theorem same_l {w : World} {v u : Value} {a b : List Fl} (h : LIn w v a) (k : LIn w u b) :
 Calls Tryz.prog 16 #[v, u] w fun e w' => e = .returned (.bool (decide (a = b))) /\ Below w.heap.size w w' := by
 obtain ⟨ad, c, out, rfl, h2, h3⟩ := h
 obtain ⟨bd, d, out', rfl, k2, k3⟩ := k
 refine (sameFiles_any ad bd c d out out' w h2 k2 _ _ (fls_len h3) (fls_len k3)).mono ?_
 rintro e w' ⟨rfl, ha⟩
 rw [h3, k3]
 exact ⟨rfl, ha⟩
theorem same_yes {w : World} {v u : Value} {a b : List Fl} (h : LIn w v a) (k : LIn w u b) (e : a = b) :
 Calls Tryz.prog 16 #[v, u] w fun e w' => e = .returned (.bool true) /\ Below w.heap.size w w' := by
 have := same_l h k
 rw [decide_eq_true e] at this
 exact this
end Go.Proofs.YtcdnbiiaoaeflafGreatDoor
namespace Go.Proofs.YtcdnbiiaoaeflafGreatDoor
open Go.RowKit
set_option linter.unusedVariables false
set_option maxRecDepth 100000
theorem zclone_any (ad : Addr) (n c : Nat) (bs : List Nat) (w : World) (hl : bs.length = n) (hn : n <= 12000) (hP : PkIn w (some ad) c bs) :
 Calls Tryz.prog 18 #[.slice (some ad) n c] w fun e w' => ∃ v, e = .returned v /\ w'.ownsRow w.heap.size 5 1 v n (u8s bs) /\ Below w.heap.size w w' := by
 have q22 : ∀ (w : World) (a : Option Addr) (n c n' c' : Nat), (binOp .eql 23 (.slice a n c) (.slice none n' c')).run Tryz.prog w = .ok (.bool a.isNone) w := fun w a n c n' c' => Lib.run_eql_slice_nil w _ _ a n c n' c' Tryz.underlying23
 have HP := Hd (hP.below ((Below.refl w.heap.size w).alloc (Nat.le_refl _) (.cells #[] 5)))
 have HL := Hd hl
 clear hP hl
 go_enter Tryz.func18, Tryz.ntmps18
 go_wp2_with (at_builtin; refine wpList_app_bytes rfl _ _ rfl w.heap.size _ [] bs rfl (World.ownsRow_made w #[] 0 (Nat.le_refl _) (Nat.zero_le _) (by simp)) (some ad) n c rfl (uh HL) (uh HP) (by simp; omega) (by simp) ?_)
 intro v' w1 hO hg
 have HO : Hid (w1.ownsRow w.heap.size 5 1 v' n (u8s bs)) := Hd (by
  have h : w1.ownsRow w.heap.size 5 1 v' bs.length (u8s bs) := hO
  rw [uh HL] at h
  exact h)
 have HB := Hd (((Below.refl w.heap.size w).alloc (Nat.le_refl _) (.cells #[] 5)).grown hg (by simp) (by intro k hk; simp [Value.ownBlock] at hk; omega))
 clear hO hg
 go_wp2
 go_ret
 exact ⟨_, rfl, uh HO, uh HB⟩
theorem sl_toI (a : Option Addr) (m n cap : Nat) (h : m <= n) (hn : n <= cap) (W : World) : (Instr.slice 23 (.slice a n cap) none (some (.int .i64 (m : Int))) none).run Tryz.prog W = .ok (.slice a m cap) W := by
 have hs := Tryz.sizeOf5
 have ht := Tryz.underlying23
 have h2 : (m : Int) <= (cap : Int) := by omega
 cases a <;> simp [go_sem, ht, hs, h2]
theorem snoc_last {l : List Nat} {n : Nat} (h : l.length = n + 1) : ∃ z, l = l.take n ++ [z] := by
 refine ⟨l[n]'(by omega), ?_⟩
 rw [<- List.take_succ_eq_append_getElem (by omega), List.take_of_length_le (by omega)]
theorem zback_any (ad : Option Addr) (c n m : Nat) (xs : List Fv) (w : World) (h : FsIn w ad c xs) (hn : xs.length = n) (hm : m < 256) :
 Calls Tryz.prog 5 #[.slice ad n c, .int .u8 (m : Int)] w fun e w' => e = .returned (.bool true) /\ Below w.heap.size w w' := by
 have HW := Hd (zwrite_any ad c n xs w h hn)
 have HL0 := Hd (lin_of h hn)
 clear h hn
 go_enter Tryz.func5, Tryz.ntmps5
 go_wp2_with fail
 refine (uh HW).mono ?_
 have key : ∀ (E : Nat) (w1 : World), E ≠ 0 -> Below w.heap.size w w1 -> True := fun _ _ _ _ => trivial
 rintro e w1 ⟨hB1, (⟨h1, rfl⟩ | ⟨hE, l, hlf, hlo, (⟨h1, rfl⟩ | ⟨h1, a, cp, rfl, hac, hP⟩)⟩)⟩
 . obtain ⟨E, hEE⟩ : ∃ E, errM (fls xs) = E := ⟨_, rfl⟩
   rw [hEE] at h1 ⊢
   have hEb : ((E : Int) == 0) = false := by rw [beq_eq_false_iff_ne]; omega
   have hEc : ((E : Int) != 0) = true := by rw [bne, hEb]; rfl
   have HB1 := Hd hB1
   clear hB1 h1 hEE key HW
   go_wp2_with fail
   refine (archived_any w1).mono ?_
   rintro e w2 ⟨rfl, hB2⟩
   have HB2 := Hd ((uh HB1).trans (hB2.mono (uh HB1).size))
   clear hB2
   go_wp2_with fail
   refine (archived_any w2).mono ?_
   rintro e w3 ⟨rfl, hB3⟩
   have HB3 := Hd ((uh HB2).trans (hB3.mono (uh HB2).size))
   clear hB3
   go_wp2
   go_ret
   exact ⟨rfl, uh HB3⟩
 . have HB1 := Hd hB1
   clear hB1 h1 hE hlf hlo key HW
   go_wp2_with fail
   refine (archived_any w1).mono ?_
   rintro e w2 ⟨rfl, hB2⟩
   have HB2 := Hd ((uh HB1).trans (hB2.mono (uh HB1).size))
   clear hB2
   go_wp2_with fail
   refine (archived_any w2).mono ?_
   rintro e w3 ⟨rfl, hB3⟩
   have HB3 := Hd ((uh HB2).trans (hB3.mono (uh HB2).size))
   clear hB3
   go_wp2
   go_ret
   exact ⟨rfl, uh HB3⟩
 . have hE2 : errM (l.map En.f) = 0 := by rw [hlf]; exact hE
   obtain ⟨hek, hre, hrl⟩ := write_read l hE2 hlo h1
   have hav := arch_val l (fun x hx => ((hlo x hx).num ((errM_all hE2).2 x.f (List.mem_map_of_mem hx))).2)
   have hleast := arch_least l
   have hmore : ∀ y : Nat, readE (archL l ++ [y]) = if (archL l).length = 12000 then 2 else 7 := fun y => by
    split
    . rename_i h12
      unfold readE
      rw [if_pos (by rw [List.length_append, List.length_singleton]; omega)]
    . exact read_more l hek [y] (by simp) (by rw [List.length_singleton]; omega)
   obtain ⟨q, hq⟩ : ∃ q, (archL l).length = q + 1 := ⟨(archL l).length - 1, by omega⟩
   obtain ⟨z, hz⟩ := snoc_last hq
   have hless := read_less l hek h1 ((archL l).take q) z hz
   rw [hlf] at hrl
   obtain ⟨AR, hAR⟩ : ∃ AR, archL l = AR := ⟨_, rfl⟩
   rw [hAR] at hP hre hrl hav hmore hless hac hq h1 hleast
   rw [hAR]
   obtain ⟨AL, hAL⟩ : ∃ AL, AR.length = AL := ⟨_, rfl⟩
   rw [hAL] at hac hq h1 hleast hmore
   rw [hAL]
   have hPk : ∀ W, Below w1.heap.size w1 W -> PkIn W a cp AR := fun W hW => hP.below hW
   have HRD := Hd (fun (W : World) (hW : Below w1.heap.size w1 W) => zread_any AL cp a AR W hAL hac (hPk W hW) hav (by omega))
   have HRL := Hd (fun (W : World) (hW : Below w1.heap.size w1 W) => zread_any q cp a (AR.take q) W (by rw [List.length_take]; omega) (by omega) ⟨(hPk W hW).1.cut q, (hPk W hW).2⟩ (fun x hx => hav x (List.mem_of_mem_take hx)) (by omega))
   obtain ⟨adr, rfl⟩ : ∃ adr, a = some adr := by
    cases a with
    | none => have := hP.2 rfl; omega
    | some adr => exact ⟨adr, rfl⟩
   have HCL := Hd (fun (W : World) (hW : Below w1.heap.size w1 W) => zclone_any adr AL cp AR W hAL (by omega) (hPk W hW))
   unfold RdA at HRD HRL
   rw [hre, hrl] at HRD
   rw [hless] at HRL
   have hsl := sl_toI (some adr) q AL cp (by omega) hac
   have hsub : ((AL : Int) - 1) = (q : Int) := by omega
   have HAV := Hd hav
   have HMO := Hd hmore
   have HAL := Hd hAL
   have HB1 := Hd hB1
   have hlt22 : ¬ (AL : Int) < 22 := by omega
   have HQ := Hd hq
   clear hB1 hE hlf hlo key HW hek hre hrl hav hmore hz hless hAR hAL hP hPk hE2 hq
   go_wp2_with fail
   refine (archived_any w1).mono ?_
   rintro e w2 ⟨rfl, hB2⟩
   have HB2 := Hd hB2
   clear hB2
   go_wp2_with fail
   refine (uh HRD w2 (uh HB2)).mono ?_
   rintro e w3 ⟨v3, rfl, hL3, hB3⟩
   have HB3 := Hd ((uh HB2).trans (hB3.mono (uh HB2).size))
   have HSM := Hd (same_yes ((uh HL0).below ((uh HB1).trans ((uh HB3).mono (uh HB1).size))) hL3 rfl)
   obtain ⟨a3, c3, hv3⟩ := hL3.shape
   obtain ⟨k3, hk3⟩ : ∃ k3, (fls xs).length = k3 := ⟨_, rfl⟩
   rw [hk3] at hv3
   subst hv3
   clear hL3 hB3 hk3
   go_wp2_with fail
   refine (uh HSM).mono ?_
   rintro e w4 ⟨rfl, hB4⟩
   have HB4 := Hd ((uh HB3).trans (hB4.mono (uh HB3).size))
   clear hB4 HSM
   go_wp2_with fail
   refine (uh HRL w4 (uh HB4)).mono ?_
   rintro e w5 ⟨v5, rfl, hL5, hB5⟩
   have HB5 := Hd ((uh HB4).trans (hB5.mono (uh HB4).size))
   obtain ⟨a5, c5, hv5⟩ := hL5.shape
   obtain ⟨k5, hk5⟩ : ∃ k5, (readL (AR.take q)).length = k5 := ⟨_, rfl⟩
   rw [hk5] at hv5
   subst hv5
   clear hL5 hB5 hk5 hsl hsub
   go_wp2_with fail
   refine (uh HCL w5 (uh HB5)).mono ?_
   rintro e w6 ⟨v6, rfl, hO6, hB6⟩
   have HB6 := Hd ((uh HB5).trans (hB6.mono (uh HB5).size))
   have hO6' : ∀ o1 : Obj, (w6.alloc o1).ownsRow w5.heap.size 5 1 v6 AR.length (u8s AR) := fun o1 => by rw [uh HAL]; exact hO6.alloc o1
   have HO6 := Hd hO6'
   have HO6b := Hd hO6
   have hz5 := hB6.size
   clear hB6 hO6 hO6'
   go_wp2_with (at_builtin; refine wpList_app_bytes rfl _ _ rfl w5.heap.size _ AR [m] rfl (uh HO6 _) (some ⟨w6.heap.size, 0, none⟩) 1 1 rfl rfl (pk_one (cell_last (by simp))) (by rw [uh HAL]; omega) (by simp; omega) ?_)
   intro v7 w7 hO7 hg7
   have hO7' : w7.ownsRow w5.heap.size 5 1 v7 (AL + 1) (u8s (AR ++ [m])) := by
    rw [<- uh HAL, u8s, List.map_append]
    exact hO7
   obtain ⟨a7, c7, rfl, q1, q2, q3, q4⟩ := own_pk hO7'
   have HB7 := Hd (((uh HB6).alloc (uh HB6).size _).grown hg7 (by simp; have := (uh HB6).size; omega) (fun g e => by have h1 := ((uh HO6b).lt g e).1; have h2 := (uh HB5).size; omega))
   have HRM := Hd (zread_any (AL + 1) c7 a7 (AR ++ [m]) w7 (by rw [List.length_append, uh HAL]; rfl) q2 q1 (app_val (uh HAV) (fun y hy => by rw [List.mem_singleton.1 hy]; exact hm)) (by omega))
   unfold RdA at HRM
   rw [uh HMO m] at HRM
   clear hO7 hg7 hO7' q1 q2 q3 q4
   go_wp2_with fail
   refine (uh HRM).mono ?_
   rintro e w8 ⟨v8, rfl, hL8, hB8⟩
   have HB8 := Hd ((uh HB1).trans (((uh HB7).trans (hB8.mono (uh HB7).size)).mono (uh HB1).size))
   obtain ⟨a8, c8, hv8⟩ := hL8.shape
   obtain ⟨k8, hk8⟩ : ∃ k8, (readL (AR ++ [m])).length = k8 := ⟨_, rfl⟩
   rw [hk8] at hv8
   subst hv8
   clear hL8 hB8 hk8
   by_cases h12 : AL = 12000
   . rw [if_pos h12]
     subst h12
     go_wp2
     go_ret
     exact ⟨rfl, uh HB8⟩
   . rw [if_neg h12]
     have h12b : ((AL : Int) == 12000) = false := by rw [beq_eq_false_iff_ne]; omega
     go_wp2
     go_ret
     exact ⟨rfl, uh HB8⟩
end Go.Proofs.YtcdnbiiaoaeflafGreatDoor
namespace Go.Proofs.YtcdnbiiaoaeflafGreatDoor
open Go.RowKit Go.ChangeShapes Go.WideShapes Go.ChangeAt Go.Deep
set_option linter.unusedVariables false
theorem add_plain (b o j : Nat) : (⟨b, o, none⟩ : Addr).add j = ⟨b, o + j, none⟩ := by unfold Addr.add; split <;> simp_all
theorem cells5 : Tryz.prog.cellsOf 5 = 1 := by kernel_rfl
end Go.Proofs.YtcdnbiiaoaeflafGreatDoor
namespace Go.Proofs.YtcdnbiiaoaeflafGreatDoor
open Go.RowKit Go.ChangeShapes Go.WideShapes Go.ChangeAt Go.Deep
set_option linter.unusedVariables false
set_option maxRecDepth 100000
theorem cellsFile : Tryz.prog.cellsOf 30 = 5 := by kernel_rfl
theorem cellsStr : Tryz.prog.cellsOf 9 = 1 := by kernel_rfl
theorem cellsInt : Tryz.prog.cellsOf 3 = 1 := by kernel_rfl
theorem cellsBool : Tryz.prog.cellsOf 4 = 1 := by kernel_rfl
theorem cellsBs : Tryz.prog.cellsOf 23 = 1 := by kernel_rfl
theorem bytesU8 : Tryz.prog.bytesOf 5 = 1 := by kernel_rfl
theorem bytesFile : Tryz.prog.bytesOf 30 = 64 := by kernel_rfl
theorem trod_struct5 {H : Type} {enc : TypeId × Value -> H} {P : Program} {w : World} {base : Nat} {spare : Nat -> Bool} {held : Bool} {t : TypeId} {f0 f1 f2 f3 f4 : Field} {fuel : Nat} {cs : List Value} {x : DataW H × List MemPlace} (ht : P.underlying t = some (.struct #[f0, f1, f2, f3, f4])) (h : DataW.trod enc P w base spare held fuel t cs = some x) :
 ∃ y0 y1 y2 y3 y4 n, x = (.agg [y0.1, y1.1, y2.1, y3.1, y4.1], y0.2 ++ (y1.2 ++ (y2.2 ++ (y3.2 ++ y4.2)))) /\ cs.length = P.cellsOf t /\ DataW.trod enc P w base spare held n f0.type ((cs.drop f0.offset).take (P.cellsOf f0.type)) = some y0 /\
  DataW.trod enc P w base spare held n f1.type ((cs.drop f1.offset).take (P.cellsOf f1.type)) = some y1 /\ DataW.trod enc P w base spare held n f2.type ((cs.drop f2.offset).take (P.cellsOf f2.type)) = some y2 /\
  DataW.trod enc P w base spare held n f3.type ((cs.drop f3.offset).take (P.cellsOf f3.type)) = some y3 /\ DataW.trod enc P w base spare held n f4.type ((cs.drop f4.offset).take (P.cellsOf f4.type)) = some y4 := by
 obtain ⟨xs, n, _, rfl, hl, hlen, hf⟩ := DataW.trod_struct ht h
 match xs, hlen with
 | [y0, y1, y2, y3, y4], _ => exact ⟨y0, y1, y2, y3, y4, n, by simp, hl, by simpa using hf 0 f0 rfl, by simpa using hf 1 f1 rfl, by simpa using hf 2 f2 rfl, by simpa using hf 3 f3 rfl, by simpa using hf 4 f4 rfl⟩
theorem open_bs {H : Type} {enc : TypeId × Value -> H} {w : World} {fuel : Nat} {v : Value} {x : DataW H × List MemPlace}
 (h : DataW.trod enc Tryz.prog w 0 (fun _ => true) true fuel 23 [v] = some x) (hw : ∀ n ∈ x.1.weights Tryz.prog 23, n <= 140737488351232) : ∃ a c bs, v = .slice a bs.length c /\ BsIn w a c bs /\ bs.length <= 140737488351232 := by
 rcases open_ints Tryz.underlying23 Tryz.underlying5 cells5 h with ⟨hcs, _⟩ | ⟨a, l, c, zs, hcs, _, hl, hm, hz, hx, hcell, hwz⟩
 . simp at hcs
   subst hcs
   exact ⟨none, 0, [], rfl, .inl ⟨rfl, rfl, rfl⟩, by simp⟩
 . simp at hcs
   subst hcs
   have hz' : zs.length = c := by simpa using hz
   have hb : ∀ j, j < zs.length -> 0 <= zs.getD j 0 /\ zs.getD j 0 <= 255 := by
    intro j hj
    have hmem : zs.getD j 0 ∈ zs := by simp [List.getD, hj]
    have := hwz _ hmem
    simpa [Lit.wf, IntKind.min, IntKind.max, IntKind.signed, IntKind.bits] using this
   have hlen : ((zs.take l).map fun n => UInt8.ofNat n.toNat).length = l := by simp; omega
   have hc : c <= 140737488351232 := by
    apply hw
    rw [hx]
    simp only [DataW.weights, Tryz.underlying23, bytesU8]
    refine List.mem_cons.2 (.inl ?_)
    simp [lits]
    omega
   refine ⟨some a, c, (zs.take l).map fun n => UInt8.ofNat n.toNat, by rw [hlen], ?_, by rw [hlen]; omega⟩
   by_cases h0 : l = 0
   . subst h0
     exact .inr (.inl ⟨by simp, a, rfl⟩)
   . obtain ⟨b, o, spot⟩ := a
     have hc0 := hcell 0 (by omega)
     have hspot : spot = none := by simpa [Addr.add] using World.cell?_spot hc0
     subst hspot
     refine .inr (.inr ⟨b, o, rfl, ?_, by rw [hlen]; exact hl, ?_⟩)
     . have := World.block_lt_of_cell? _ _ hc0
       simpa [Addr.add] using this
     . intro j hj
       rw [hlen] at hj
       have h1 := hcell j (by omega)
       rw [add_plain] at h1
       rw [h1]
       have hjz : j < zs.length := by omega
       have hbj := hb j hjz
       have e : ((zs.take l).map fun n => UInt8.ofNat n.toNat).getD j 0 = UInt8.ofNat (zs.getD j 0).toNat := by simp [List.getD, hj, hjz]
       rw [e]
       have e2 : (UInt8.ofNat (zs.getD j 0).toNat).toNat = (zs.getD j 0).toNat := by
        rw [UInt8.toNat_ofNat']
        omega
       rw [e2, Int.toNat_of_nonneg hbj.1]
instance : Inhabited Fv := ⟨⟨⟨[], [], 0, 0, false⟩, none, 0⟩⟩
theorem open_file {H : Type} {enc : TypeId × Value -> H} {w : World} {fuel : Nat} {cs : List Value} {x : DataW H × List MemPlace}
 (h : DataW.trod enc Tryz.prog w 0 (fun _ => true) true fuel 30 cs = some x) (hw : ∀ n ∈ x.1.weights Tryz.prog 30, n <= 140737488351232) : ∃ z : Fv, cs = z.cells /\ FvIn w z := by
 obtain ⟨y0, y1, y2, y3, y4, k, hx, hlen, g0, g1, g2, g3, g4⟩ := trod_struct5 Tryz.underlying30 h
 rw [cellsFile] at hlen
 match cs, hlen with
 | [v0, v1, v2, v3, v4], _ =>
  simp only [cellsStr, cellsInt, cellsBool, cellsBs] at g0 g1 g2 g3 g4
  simp at g0 g1 g2 g3 g4
  have hws : ∀ n, n ∈ y0.1.weights Tryz.prog 9 \/ n ∈ y1.1.weights Tryz.prog 23 -> n <= 140737488351232 := by
   intro n hn
   apply hw
   rw [hx]
   simp only [DataW.weights, Tryz.underlying30]
   rcases hn with hn | hn
   . exact DataW.weights_mem_each (j := 0) rfl rfl n hn
   . exact DataW.weights_mem_each (j := 1) rfl rfl n hn
  obtain ⟨s, e0, hs, _⟩ := DataW.trod_string Tryz.underlying9 g0
  obtain ⟨a, c, bs, e1, hB, hbl⟩ := open_bs g1 (fun n hn => hws n (.inr hn))
  obtain ⟨n2, e2, _, _⟩ := DataW.trod_int Tryz.underlying3 g2
  obtain ⟨n3, e3, _, _⟩ := DataW.trod_int Tryz.underlying3 g3
  obtain ⟨n4, e4, _⟩ := DataW.trod_bool Tryz.underlying4 g4
  simp at e0 e2 e3 e4
  subst e0
  subst e1
  subst e2
  subst e3
  subst e4
  have hsl : s.data.toList.length <= 140737488351232 := hws _ (.inl (by rw [hs]; simp [DataW.weights]))
  exact ⟨⟨⟨s.data.toList, bs, n2, n3, n4⟩, a, c⟩, by simp [Fv.cells, Fv.sl, B_data], ⟨hB, by simp only; omega, by simp only; omega⟩⟩
theorem weightsAll_mem {H : Type} {P : Program} {e : TypeId} : ∀ {ds : List (DataW H)} {d : DataW H}, d ∈ ds -> ∀ n ∈ d.weights P e, n ∈ DataW.weightsAll P e ds
 | x :: r, d, h, n, hn => by
  simp only [DataW.weightsAll, List.mem_append]
  rcases List.mem_cons.1 h with e | e
  . subst e; exact .inl hn
  . exact .inr (weightsAll_mem e n hn)
 | [], d, h, n, hn => by cases h
theorem open_files {H : Type} {enc : TypeId × Value -> H} {w : World} {fuel : Nat} {a0 : Option Addr} {l0 c0 : Nat} {d : DataW H} {p : List MemPlace}
 (h : DataW.trod enc Tryz.prog w 0 (fun _ => true) true fuel 22 [.slice a0 l0 c0] = some (d, p)) {ts : List TypeId} {ds : List (DataW H)} {j : Nat}
 (hsz : (DataW.weightsEach Tryz.prog ts ds).all (· <= reachBytes) = true) (ht : ts[j]? = some 22) (hd : ds[j]? = some d) : ∃ xs, xs.length = l0 /\ FsIn w a0 c0 xs := by
 have hw : ∀ n ∈ d.weights Tryz.prog 22, n <= 140737488351232 := by
  intro n hn
  have h3 := List.all_eq_true.1 hsz _ (DataW.weights_mem_each ht hd _ hn)
  have h4 : n <= reachBytes := by simpa using h3
  have : reachBytes = 140737488351232 := rfl
  omega
 rcases open_slice Tryz.underlying22 h with ⟨hcs, _⟩ | ⟨a, len, cap, m, n, D, Pl, hcs, _, hl, hm, hmm, hx1, hx⟩
 . simp at hcs
   obtain ⟨rfl, rfl, rfl⟩ := hcs
   exact ⟨[], rfl, FsIn.nil w⟩
 . simp at hcs
   obtain ⟨rfl, rfl, rfl⟩ := hcs
   simp only [if_true] at hmm
   subst hmm
   have hd1 := congrArg Prod.fst hx1
   simp only at hd1
   have hcap : m * 64 <= 140737488351232 := by
    apply hw
    rw [hd1]
    simp only [DataW.weights, Tryz.underlying22, bytesFile]
    refine List.mem_cons.2 (.inl ?_)
    simp
    omega
   have each : ∀ i, i < l0 -> ∃ z : Fv, FvIn w z /\ ∀ k, k < 5 -> w.cell? (a.add (i * 5 + k)) = z.cells[k]? := by
    intro i hi
    obtain ⟨cs', h1, h2⟩ := hx i (by omega)
    rw [cellsFile] at h1
    obtain ⟨_, hlen, hcell⟩ := World.cells?_some h1
    obtain ⟨z, hz, hF⟩ := open_file h2 (fun n hn => hw n (by
     rw [hd1]
     simp only [DataW.weights, Tryz.underlying22]
     exact List.mem_cons_of_mem _ (List.mem_append.2 (.inl (weightsAll_mem (List.mem_map.2 ⟨i, List.mem_range.2 hi, rfl⟩) _ hn)))))
    refine ⟨z, hF, fun k hk => ?_⟩
    have := hcell k hk
    rw [add_add] at this
    rw [this, hz]
   obtain ⟨f, hf⟩ := choose_lt each
   refine ⟨(List.range l0).map f, by simp, ⟨?_, by simp; omega, by unfold maxLen at hm; omega, by simp; omega, ?_⟩⟩
   . by_cases h0 : l0 = 0
     . subst h0
       exact .inl rfl
     . obtain ⟨b, o, spot⟩ := a
       have hc := (hf 0 (by omega)).2 0 (by omega)
       have hc' : w.cell? (Addr.add ⟨b, o, spot⟩ (0 * 5 + 0)) = some (.string (B (f 0).f.name)) := hc
       have hspot : spot = none := by simpa [Addr.add] using World.cell?_spot hc'
       subst hspot
       refine .inr ⟨b, o, rfl, ?_, ?_⟩
       . have := World.block_lt_of_cell? _ _ hc'
         simpa [Addr.add] using this
       . intro j x hj
         have hj' : j < l0 := by
          rcases Nat.lt_or_ge j l0 with h' | h'
          . exact h'
          . rw [List.getElem?_eq_none (by simpa using h')] at hj; cases hj
         simp [hj'] at hj
         subst hj
         have q := (hf j hj').2
         have q0 := q 0 (by decide)
         have q1 := q 1 (by decide)
         have q2 := q 2 (by decide)
         have q3 := q 3 (by decide)
         have q4 := q 4 (by decide)
         rw [add_plain] at q0 q1 q2 q3 q4
         exact ⟨q0, by rw [Nat.add_assoc]; exact q1, by rw [Nat.add_assoc]; exact q2, by rw [Nat.add_assoc]; exact q3, by rw [Nat.add_assoc]; exact q4⟩
   . intro x hx
     obtain ⟨i, hi, rfl⟩ := List.mem_map.1 hx
     exact (hf i (List.mem_range.1 hi)).1
end Go.Proofs.YtcdnbiiaoaeflafGreatDoor
