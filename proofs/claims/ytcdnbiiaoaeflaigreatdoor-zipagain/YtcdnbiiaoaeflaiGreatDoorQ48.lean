import Derived.Test.YtcdnbiiaoaeflaiGreatDoorQ47
import Derived.Test.YtcdnbiiaoaeflaiGreatDoorQ46
import Derived.Test.YtcdnbiiaoaeflaiGreatDoorQ0
import Derived.Deep.Slices
import Derived.Test.YtcdnbiiaoaeflaiGreatDoorQ12
import Derived.SizedLaws
import Derived.Deep.Strs
set_option maxHeartbeats 1000000
namespace Go.Proofs.YtcdnbiiaoaeflaiGreatDoor
open Go.RowKit
set_option linter.unusedVariables false
theorem same_l {w : World} {v u : Value} {a b : List Fl} (h : LIn w v a) (k : LIn w u b) :
 Calls Tryz.prog 8 #[v, u] w fun e w' => e = .returned (.bool (decide (a = b))) /\ Below w.heap.size w w' := by
 obtain ⟨ad, c, out, rfl, h2, h3⟩ := h
 obtain ⟨bd, d, out', rfl, k2, k3⟩ := k
 refine (sameFiles_any ad bd c d out out' w h2 k2 _ _ (fls_len h3) (fls_len k3)).mono ?_
 rintro e w' ⟨rfl, ha⟩
 rw [h3, k3]
 exact ⟨rfl, ha⟩
theorem same_yes {w : World} {v u : Value} {a b : List Fl} (h : LIn w v a) (k : LIn w u b) (e : a = b) :
 Calls Tryz.prog 8 #[v, u] w fun e w' => e = .returned (.bool true) /\ Below w.heap.size w w' := by
 have := same_l h k
 rw [decide_eq_true e] at this
 exact this
end Go.Proofs.YtcdnbiiaoaeflaiGreatDoor
namespace Go.Proofs.YtcdnbiiaoaeflaiGreatDoor
open Go.RowKit
set_option linter.unusedVariables false
set_option maxRecDepth 100000
theorem again_any (n cap : Nat) (a : Option Addr) (bs : List Nat) (w : World) (hl : bs.length = n) (hc : n <= cap) (hP : PkIn w a cap bs) (hv : ∀ x ∈ bs, x < 256) (hm : n <= 9223372036854775807) :
 Calls Tryz.prog 3 #[.slice a n cap] w fun e w' => e = .returned (.bool true) /\ Below w.heap.size w w' := by
 have HC := hide (zread_any n cap a bs w hl hc hP hv hm)
 unfold RdA at HC
 have hok : readE bs = 0 -> errM (readL bs) = 0 := fun h => by
  obtain ⟨l, _, h2, _, _, h5, _⟩ := read_some h
  rw [h5]; exact h2
 obtain ⟨E, hE⟩ : ∃ E, readE bs = E := ⟨_, rfl⟩
 obtain ⟨fs, hfs⟩ : ∃ fs, readL bs = fs := ⟨_, rfl⟩
 rw [hE, hfs] at HC hok
 have HOK := hide hok
 clear hl hP hv hok hE hfs
 go_enter Tryz.func3, Tryz.ntmps3
 go_wp2_with fail
 refine (uh HC).mono ?_
 rintro e w1 ⟨v1, rfl, hL1, hB1⟩
 obtain ⟨ad, c1, hv1⟩ := hL1.shape
 obtain ⟨k, hk⟩ : ∃ k, fs.length = k := ⟨_, rfl⟩
 rw [hk] at hv1
 subst hv1
 have HL1 := hide hL1
 have HB1 := hide hB1
 have HK := hide hk
 clear hL1 hB1 hk HC
 go_wp2_with fail
 refine (archived_any w1).mono ?_
 rintro e w2 ⟨rfl, hB2⟩
 have HB2 := hide ((uh HB1).trans (hB2.mono (uh HB1).size))
 have HB12 := hide hB2
 clear hB2
 by_cases hE0 : E = 0
 · subst hE0
   have hef := uh HOK rfl
   obtain ⟨ad', c', xs, hsh, hxs, hxl⟩ := (uh HL1).below (uh HB12)
   rw [uh HK] at hsh
   cases hsh
   have hxn : xs.length = k := by rw [fls_len hxl]; exact uh HK
   have HW := hide (zwrite_any ad c1 k xs w2 hxs hxn)
   rw [hxl] at HW
   have HEF := hide hef
   clear hxs hxl hxn hef
   go_wp2_with fail
   refine (uh HW).mono ?_
   rintro e w3 ⟨hB3, (⟨h1, _⟩ | ⟨_, l, hlf, hlo, hq⟩)⟩
   · exact absurd (uh HEF) h1
   · have HB3 := hide ((uh HB2).trans (hB3.mono (uh HB2).size))
     have HB13 := hide ((uh HB12).trans (hB3.mono (uh HB12).size))
     rcases hq with ⟨h1, rfl⟩ | ⟨h1, a4, c4, rfl, hac, hP4⟩
     · have HCK := hide (check_l ((uh HL1).below (uh HB13)))
       rw [uh HEF] at HCK
       clear hB3 hlf hlo h1 HW
       go_wp2_with fail
       refine (uh HCK).mono ?_
       rintro e w4 ⟨rfl, hB4⟩
       have HB4 := hide ((uh HB3).trans (hB4.mono (uh HB3).size))
       clear hB4
       go_wp2
       go_ret
       exact ⟨rfl, uh HB4⟩
     · have hE2 : errM (l.map En.f) = 0 := by rw [hlf]; exact uh HEF
       have hwr := write_read l hE2 hlo h1
       have hav := arch_val l (fun x hx => ((hlo x hx).num ((errM_all hE2).2 x.f (List.mem_map_of_mem hx))).2)
       have HRD := hide (zread_any (archL l).length c4 a4 (archL l) w3 rfl hac hP4 hav (by omega))
       unfold RdA at HRD
       rw [hwr.2.1, hwr.2.2, hlf] at HRD
       obtain ⟨AL, hAL⟩ : ∃ AL, (archL l).length = AL := ⟨_, rfl⟩
       rw [hAL] at HRD
       rw [hAL]
       clear hB3 hlf hlo h1 hwr hav hE2 hP4 hac HW hAL
       go_wp2_with fail
       refine (uh HRD).mono ?_
       rintro e w5 ⟨v5, rfl, hL5, hB5⟩
       have HSM := hide (same_yes ((uh HL1).below ((uh HB13).trans (hB5.mono (uh HB13).size))) hL5 rfl)
       obtain ⟨ad5, c5, hv5⟩ := hL5.shape
       rw [uh HK] at hv5
       subst hv5
       have HB5 := hide ((uh HB3).trans (hB5.mono (uh HB3).size))
       clear hB5 hL5 HRD
       go_wp2_with fail
       refine (uh HSM).mono ?_
       rintro e w6 ⟨rfl, hB6⟩
       have HB6 := hide ((uh HB5).trans (hB6.mono (uh HB5).size))
       clear hB6
       go_wp2
       go_ret
       exact ⟨rfl, uh HB6⟩
 · have hEb : ((E : Int) == 0) = false := by rw [beq_eq_false_iff_ne]; omega
   have hEc : ((E : Int) != 0) = true := by rw [bne, hEb]; rfl
   clear hE0
   go_wp2_with fail
   refine (archived_any w2).mono ?_
   rintro e w3 ⟨rfl, hB3⟩
   have HB3 := hide ((uh HB2).trans (hB3.mono (uh HB2).size))
   clear hB3
   go_wp2
   go_ret
   exact ⟨rfl, uh HB3⟩
end Go.Proofs.YtcdnbiiaoaeflaiGreatDoor
namespace Go.Proofs.YtcdnbiiaoaeflaiGreatDoor
open Go.RowKit Go.ChangeShapes Go.WideShapes Go.ChangeAt Go.Deep
set_option linter.unusedVariables false
theorem add_plain (b o j : Nat) : (⟨b, o, none⟩ : Addr).add j = ⟨b, o + j, none⟩ := by unfold Addr.add; split <;> simp_all
theorem cells5 : Tryz.prog.cellsOf 5 = 1 := by kernel_rfl
end Go.Proofs.YtcdnbiiaoaeflaiGreatDoor
namespace Go.Proofs.YtcdnbiiaoaeflaiGreatDoor
open Go.RowKit Go.ChangeShapes Go.WideShapes Go.ChangeAt Go.Deep
set_option linter.unusedVariables false
set_option maxRecDepth 100000
theorem bytesU8 : Tryz.prog.bytesOf 5 = 1 := by kernel_rfl
theorem open_bs {H : Type} {enc : TypeId × Value -> H} {w : World} {fuel : Nat} {v : Value} {x : DataW H × List MemPlace}
 (h : DataW.trod enc Tryz.prog w 0 (fun _ => true) true fuel 22 [v] = some x) (hw : ∀ n ∈ x.1.weights Tryz.prog 22, n <= 140737488351232) : ∃ a c bs, v = .slice a bs.length c /\ BsIn w a c bs /\ bs.length <= 140737488351232 := by
 rcases open_ints Tryz.underlying22 Tryz.underlying5 cells5 h with ⟨hcs, _⟩ | ⟨a, l, c, zs, hcs, _, hl, hm, hz, hx, hcell, hwz⟩
 · simp at hcs
   subst hcs
   exact ⟨none, 0, [], rfl, .inl ⟨rfl, rfl, rfl⟩, by simp⟩
 · simp at hcs
   subst hcs
   have hz' : zs.length = c := by simpa using hz
   have hb : ∀ j, j < zs.length -> 0 <= zs.getD j 0 /\ zs.getD j 0 <= 255 := by
    intro j hj
    have hmem : zs.getD j 0 ∈ zs := by simp [List.getD, hj]
    have := hwz _ hmem
    simpa [Lit.wf, IntKind.min, IntKind.max, IntKind.signed, IntKind.bits] using this
   have hlen : ((zs.take l).map fun n => UInt8.ofNat n.toNat).length = l := by simp; omega
   have hc : c <= 140737488351232 := by
    apply hw
    rw [hx]
    simp only [DataW.weights, Tryz.underlying22, bytesU8]
    refine List.mem_cons.2 (.inl ?_)
    simp [lits]
    omega
   refine ⟨some a, c, (zs.take l).map fun n => UInt8.ofNat n.toNat, by rw [hlen], ?_, by rw [hlen]; omega⟩
   by_cases h0 : l = 0
   · subst h0
     exact .inr (.inl ⟨by simp, a, rfl⟩)
   · obtain ⟨b, o, spot⟩ := a
     have hc0 := hcell 0 (by omega)
     have hspot : spot = none := by simpa [Addr.add] using World.cell?_spot hc0
     subst hspot
     refine .inr (.inr ⟨b, o, rfl, ?_, by rw [hlen]; exact hl, ?_⟩)
     · have := World.block_lt_of_cell? _ _ hc0
       simpa [Addr.add] using this
     · intro j hj
       rw [hlen] at hj
       have h1 := hcell j (by omega)
       rw [add_plain] at h1
       rw [h1]
       have hjz : j < zs.length := by omega
       have hbj := hb j hjz
       have e : ((zs.take l).map fun n => UInt8.ofNat n.toNat).getD j 0 = UInt8.ofNat (zs.getD j 0).toNat := by simp [List.getD, hj, hjz]
       rw [e]
       have e2 : (UInt8.ofNat (zs.getD j 0).toNat).toNat = (zs.getD j 0).toNat := by
        rw [UInt8.toNat_ofNat']
        omega
       rw [e2, Int.toNat_of_nonneg hbj.1]
instance : Inhabited Fv := ⟨⟨⟨[], [], 0, 0, false⟩, none, 0⟩⟩
end Go.Proofs.YtcdnbiiaoaeflaiGreatDoor
