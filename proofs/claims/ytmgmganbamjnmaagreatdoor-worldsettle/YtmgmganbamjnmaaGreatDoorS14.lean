/-
  The document's OwnFiles.
-/
import Derived.Test.YtmgmganbamjnmaaGreatDoorQ6
import Derived.Test.YtmgmganbamjnmaaGreatDoorS8
namespace Go.Proofs.YtmgmganbamjnmaaGreatDoor
open Go.RowKit
set_option linter.unusedVariables false
set_option maxRecDepth 100000

theorem own_empty (w : World) : (w.alloc (.cells #[] 5)).ownsRow w.heap.size 5 1 (.slice (some ⟨w.heap.size, 0, none⟩) 0 0) 0 (u8v []) :=
  ⟨rfl, .inr ⟨w.heap.size, 0, #[], rfl, Nat.le_refl _, heap_alloc_new _ _, Nat.le_refl _, by unfold maxLen; omega, rfl, rfl⟩⟩

set_option maxHeartbeats 4000000 in
theorem ownFiles_any (ad : Option Addr) (c : Nat) (xs : List Fv) (w : World) (h : FsIn w ad c xs) (n : Nat) (hn : xs.length = n) :
    Calls Tryz.prog 19 #[.slice ad n c] w fun e w' => ∃ v out, e = .returned v ∧ FRow w' w.heap.size v out ∧ fls out = fls xs ∧ Below w.heap.size w w' := by
  have HI := hide h
  have HL := hide hn
  have hfl : (fls xs).length = n := by simp [fls, hn]
  have HFLN := hide hfl
  have hlim := h.lim
  rw [hn] at hlim
  clear h hn hfl
  go_enter Tryz.func19, Tryz.ntmps19
  go_wp2
  go_loopw [3, 5, 8] (fun v3 _ j wr => ∃ (k : Nat) (o2 : List Fv), k ≤ n ∧ j = .int .i64 (k : Int) ∧ Hid (FRow wr w.heap.size v3 o2 ∧ Below w.heap.size w wr ∧ fls o2 = (fls xs).take k ∧ o2.length = k)) (fun _ _ j _ => n - (intOf j).toNat)
  case atStart => exact ⟨0, [], Nat.zero_le _, rfl, FRow.nil _ _, Below.refl _ _, by simp, rfl⟩
  case round =>
    obtain ⟨k, o2, hk, rfl, HS2⟩ := hrel
    by_cases hlt : k < n
    · obtain ⟨z, hz, hzm⟩ := get_of (xs := xs) (k := k) (by rw [unhide HL]; exact hlt)
      obtain ⟨h1, h2, h3, h4⟩ := unhide HS2
      obtain ⟨b, o, hA, hb, c0, c1, c2, c3, c4⟩ := (unhide HI).get h2 hz
      have hzw := h2.size
      have HZIN := hide (((unhide HI).all z hzm).below h2 (Nat.le_refl _))
      have HROW := hide h1
      have HBW := hide h2
      have htk : (fls xs).take (k + 1) = (fls xs).take k ++ [z.f] := by
        have hk2 : (fls xs)[k]? = some z.f := by simp [fls, hz]
        rw [List.take_add_one, hk2]
        simp
      have HTK := hide (by rw [htk, ← h3] : (fls xs).take (k + 1) = fls o2 ++ [z.f])
      have hzs : z.sl = .slice z.a z.f.bytes.length z.c := rfl
      rw [hzs] at c1
      have HV : Hid (∀ a c, Fv.cells ⟨z.f, a, c⟩ = [.string (B z.f.name), .slice a z.f.bytes.length c, .int .i64 z.f.stamp, .int .i64 z.f.node, .bool z.f.gone]) := fun a c => rfl
      have hbig := (unhide HZIN).big
      obtain ⟨zn, hzn⟩ : ∃ zn, z.f.bytes.length = zn := ⟨_, rfl⟩
      rw [hzn] at c1 HV hbig
      have HZN := hide hzn
      clear hzs hzm hz h1 h2 h3 HS2 htk hzn
      subst hA
      generalize B z.f.name = zt at *
      generalize z.f.stamp = zs at *
      generalize z.f.node = zd at *
      generalize z.f.gone = zg at *
      have HB1 := hide (bel_al (Below.refl wr.heap.size wr) (.cells #[.string zt, .slice z.a zn z.c, .int .i64 zs, .int .i64 zd, .bool zg] 49))
      have HB2 := hide (bel_al (unhide HB1) (.cells #[] 5))
      have HBS := hide ((unhide HZIN).bs.below (unhide HB2) (Nat.le_refl _))
      have hoe := own_empty (wr.alloc (.cells #[.string zt, .slice z.a zn z.c, .int .i64 zs, .int .i64 zd, .bool zg] 49))
      rw [World.size_alloc] at hoe
      have HOE := hide hoe
      clear hoe
      go_wp2_with (at_builtin; refine wpList_append_bs _ rfl _ _ rfl (wr.heap.size + 1) _ 0 [] rfl (unhide HOE) z.a zn z.c z.f.bytes rfl (unhide HZN) (unhide HBS) (by omega) (by simp) ?_)
      intro v' w5 hO hg
      obtain ⟨a', c', hv, hB', hloc⟩ := BsIn.own (unhide hO)
      rw [show z.f.bytes.length = zn from unhide HZN] at hv
      subst hv
      have hg0 : ((wr.alloc (.cells #[.string zt, .slice z.a zn z.c, .int .i64 zs, .int .i64 zd, .bool zg] 49)).alloc (.cells #[] 5)).grownBy w5 (some (wr.heap.size + 1)) := unhide hg
      have hz5 := hg0.size
      simp only [World.size_alloc] at hz5
      have h8 : w5.heap[wr.heap.size]? = some (.cells #[.string zt, .slice z.a zn z.c, .int .i64 zs, .int .i64 zd, .bool zg] 49 (0, 0)) := by
        rw [hg0.block _ (by simp only [World.size_alloc]; omega) (by simp), Below.heap_alloc _ _ _ (by simp only [World.size_alloc]; omega), heap_alloc_new]
      have q0 : w5.cell? ⟨wr.heap.size, 0, none⟩ = some (.string zt) := heap_row h8
      have q1 : w5.cell? ⟨wr.heap.size, 1, none⟩ = some (.slice z.a zn z.c) := heap_row h8
      have q2 : w5.cell? ⟨wr.heap.size, 2, none⟩ = some (.int .i64 zs) := heap_row h8
      have q3 : w5.cell? ⟨wr.heap.size, 3, none⟩ = some (.int .i64 zd) := heap_row h8
      have q4 : w5.cell? ⟨wr.heap.size, 4, none⟩ = some (.bool zg) := heap_row h8
      have f1 := frozen_of_row w5 wr.heap.size 1 _ _ h8
      have k1 := grown_setCell w5 wr.heap.size 1 (.slice a' zn c')
      have hz6 := k1.size
      have hBel : Below wr.heap.size wr (w5.setCell ⟨wr.heap.size, 1, none⟩ (.slice a' zn c')) := ((unhide HB2).grown hg0 (by simp only [World.size_alloc]; omega) (fun q e => by cases e; omega)).grown k1 (by omega) (fun q e => by cases e; exact Nat.le_refl _)
      have hbs6 : BsIn (w5.setCell ⟨wr.heap.size, 1, none⟩ (.slice a' zn c')) a' c' z.f.bytes := hB'.grown k1 (fun b o e => by have := hloc b o e; simp; omega)
      have HV6 : Hid (FvIn (w5.setCell ⟨wr.heap.size, 1, none⟩ (.slice a' zn c')) ⟨z.f, a', c'⟩) := ⟨hbs6, (unhide HZIN).big, (unhide HZIN).txt⟩
      have HR6 := hide ((unhide HROW).below (bel_al hBel (.cells #[.string zt, .slice a' zn c', .int .i64 zs, .int .i64 zd, .bool zg] 49)))
      have HV7 := hide ((unhide HV6).alloc (.cells #[.string zt, .slice a' zn c', .int .i64 zs, .int .i64 zd, .bool zg] 49))
      have HB6 := hide (bel_al ((unhide HBW).trans (hBel.mono hzw)) (.cells #[.string zt, .slice a' zn c', .int .i64 zs, .int .i64 zd, .bool zg] 49))
      obtain ⟨w6, hw6⟩ : ∃ w6, w5.setCell ⟨wr.heap.size, 1, none⟩ (.slice a' zn c') = w6 := ⟨_, rfl⟩
      have HL6 : Hid (∀ b o, a' = some ⟨b, o, none⟩ → some b ≠ u3.ownBlock ∧ b < ((w5.setCell ⟨wr.heap.size, 1, none⟩ (.slice a' zn c')).alloc (.cells #[.string zt, .slice a' zn c', .int .i64 zs, .int .i64 zd, .bool zg] 49)).heap.size) := by
        intro b o e
        have h1 := hloc b o e
        refine ⟨fun e2 => ?_, by rw [World.size_alloc]; omega⟩
        have := ((unhide HROW).lt e2.symm).2
        omega
      have HC6 : Hid (∀ j u, (Fv.cells ⟨z.f, a', c'⟩)[j]? = some u → ((w5.setCell ⟨wr.heap.size, 1, none⟩ (.slice a' zn c')).alloc (.cells #[.string zt, .slice a' zn c', .int .i64 zs, .int .i64 zd, .bool zg] 49)).cell? ⟨(w5.setCell ⟨wr.heap.size, 1, none⟩ (.slice a' zn c')).heap.size, j, none⟩ = some u) := by
        intro j u hj
        rw [unhide HV a' c'] at hj
        rw [World.cell?_alloc_at _ _ _ _ rfl]
        simpa using hj
      have HS6 : Hid ((w5.setCell ⟨wr.heap.size, 1, none⟩ (.slice a' zn c')).heap.size = w5.heap.size) := by simp; exact trivial
      rw [unhide HS6] at HC6
      clear h8 hB' hloc hg hg0 hO k1 hBel hbs6 hz6 HV6 HBS HOE hw6
      go_wp2_with (at_builtin; refine wpList_append_file _ rfl _ _ rfl w.heap.size _ o2 rfl (unhide HR6) w5.heap.size ⟨z.f, a', c'⟩ rfl (unhide HC6) (unhide HV7) (unhide HL6) (by omega) (by simp; omega) ?_)
      intro v7 w7 hR7 hB7
      have HB7 := hide ((unhide HB6).trans (unhide hB7))
      clear HR6 HV7 HB6 HL6 HC6 hB7 HROW q0 q1 q2 q3 q4 f1
      go_wp2
      go_roundw
      case rel => exact ⟨k + 1, _, by omega, by go_num, unhide hR7, unhide HB7, by rw [fls_snoc, unhide HTK], by rw [List.length_append]; simp; omega⟩
      case measure => simp [intOf]; omega
    · obtain rfl : n = k := by omega
      obtain ⟨h1, h2, h3, h4⟩ := unhide HS2
      rw [List.take_of_length_le (by rw [unhide HFLN]; exact Nat.le_refl _)] at h3
      have H1 := hide h1
      have H2 := hide h2
      have H3 := hide h3
      clear h1 h2 h3 h4
      go_wp2
      go_ret
      exact ⟨_, o2, rfl, unhide H1, unhide H3, unhide H2⟩

theorem own_l {w : World} {v : Value} {a : List Fl} (h : LIn w v a) :
    Calls Tryz.prog 19 #[v] w fun e w' => ∃ x, e = .returned x ∧ LIn w' x a ∧ Below w.heap.size w w' := by
  obtain ⟨ad, c, xs, rfl, h2, h3⟩ := h
  have hlim := h2.lim
  refine (ownFiles_any ad c xs w h2 _ (fls_len h3)).mono ?_
  rintro e w' ⟨v, out, rfl, hr, ho, hb⟩
  have hol : out.length = xs.length := by have := congrArg List.length ho; simpa [fls] using this
  obtain ⟨ad2, c2, rfl, hf⟩ := hr.files (by omega)
  refine ⟨_, rfl, ?_, hb⟩
  have := lin_of hf rfl
  rw [ho, h3] at this
  exact this
end Go.Proofs.YtmgmganbamjnmaaGreatDoor
