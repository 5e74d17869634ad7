/-
  The law InflateBack: its calls, one behind the other.
-/
import Derived.Test.YtfoaaamcpknjnacQ32
import Derived.Test.YtfoaaamcpknjnacQ50
import Derived.Test.YtfoaaamcpknjnacQ51
import Derived.Test.YtfoaaamcpknjnacQ4
import Derived.Deep.Slices
import Derived.Test.YtfoaaamcpknjnacQ29
import Derived.SizedLaws
import Derived.Deep.Matrix
namespace Go.Proofs.Ytfoaaamcpknjnac
open Go.RowKit
set_option linter.unusedVariables false
set_option maxRecDepth 100000

/-- Unpack's answer without an error -/
def UnpB (w : World) (p : Nat) (out : List Nat) (ks : List Int) (e : Ending) (w' : World) : Prop :=
  Below w.heap.size w w' ∧ ∃ ao c kv d, e = .returned (.tuple #[.slice ao out.length c, .int .i64 (p : Int), .slice kv ks.length d, .int .i64 0]) ∧ BytesIn w' ao out ∧ RowIn .i64 w' kv ks
/-- what was packed is unpacked, whatever stands behind it -/
theorem unpackBack_any (a : Option Addr) (n cap : Nat) (bss : List (List Nat)) (ks : List Int) (out more : List Nat) (np : Nat) (w : World) (hn : (out ++ more).length = n) (hn6 : n ≤ 6000) (hby : BytesIn w a (out ++ more)) (hv : ∀ j, (out ++ more).getD j 0 < 256) (hp : bss.length = np) (hkl : ks.length = np) (hnp : 0 < np) (hval : ∀ j i, (bss.getD j []).getD i 0 < 256) (hks : ∀ x ∈ ks, x = 0 ∨ x = 1 ∨ x = 2) (hT : (allK bss np).length ≤ 3000) (hrow : rowB out out.length = padB (packF (itemsP bss ks) [])) :
    Calls Try.prog 15 #[.slice a n cap] w fun e w' => UnpB w out.length (allK bss np) ks e w' := by
  have hkb : ks.length = bss.length := by rw [hkl, hp]
  have hlen := itemsP_len bss ks hkb
  have hAll : allK bss np = bss.flatten := by rw [← hp]; exact allK_all bss
  have hflat := items_flat bss ks hkb
  have hmem : ∀ i ∈ itemsP bss ks, i.2 ≤ 2 ∧ ∀ j, i.1.getD j 0 < 256 := by
    intro i hi
    unfold itemsP at hi
    obtain ⟨p, hp2, rfl⟩ := List.mem_map.1 hi
    have h1 := (List.of_mem_zip hp2).1
    have h2 := (List.of_mem_zip hp2).2
    obtain ⟨q, hq, e⟩ := List.getElem_of_mem h1
    refine ⟨?_, ?_⟩
    · show p.2.toNat ≤ 2
      rcases hks p.2 h2 with e | e | e <;> rw [e] <;> decide
    · intro j
      have h4 := hval q j
      have h5 : bss.getD q [] = p.1 := by rw [List.getD, List.getElem?_eq_getElem hq, e]; rfl
      rw [h5] at h4
      exact h4
  have hne : itemsP bss ks ≠ [] := by
    intro e
    rw [e] at hlen
    simp at hlen
    omega
  have hun := unpk_pack (itemsP bss ks) (List.replicate (freeN (packF (itemsP bss ks) []).length) false ++ rowB more more.length) hne hmem (by rw [hflat, ← hAll]; exact hT)
  have hpl : out.length = ((packF (itemsP bss ks) []).length + 7) / 8 := pad_len (by rw [← hrow, rowB_length])
  have hrw : rowB (out ++ more) n = packF (itemsP bss ks) [] ++ (List.replicate (freeN (packF (itemsP bss ks) []).length) false ++ rowB more more.length) := by
    rw [← hn, List.length_append, rowB_app, hrow]
    unfold padB
    rw [List.append_assoc]
  rw [← hrw, hflat, ← hAll, items_kinds bss ks hkb] at hun
  have hiu := iunpk_unpk (rowB (out ++ more) n) (by rw [hun])
  rw [hun] at hiu
  refine (unpackAll_any a n cap (out ++ more) w hn hn6 hby hv).mono ?_
  rintro e w' ⟨hB, hd⟩
  rw [hiu] at hd
  refine ⟨hB, ?_⟩
  rcases hd with ⟨_, ov, kv, rfl, ho, hk⟩ | ⟨h0, _⟩
  · obtain ⟨_, a1, c1, rfl, hb⟩ := BytesIn.ofOwn ho
    have hkk := hk
    have hkl2 : (ks.map Int.toNat).length = ks.length := by rw [List.length_map]
    rw [show i64s (ks.map Int.toNat) = iv ks by rw [← kinds_back hks]; simp [i64s, iv, Function.comp_def]] at hk
    obtain ⟨a2, c2, rfl, _, hr, _⟩ := rowIn_iv hk
    refine ⟨a1, c1, a2, c2, ?_, hb, hr⟩
    rw [hpl, hkl2]
  · exact absurd rfl h0

set_option maxHeartbeats 2000000 in
theorem back_err (ap bk am : Option Addr) (np cp nk ck nm cm : Nat) (E : Int) (w : World) (hE : E ≠ 0) (hPK : Calls Try.prog 14 #[.slice ap np cp, .slice bk nk ck] w fun e w' => e = .returned (.tuple #[.slice none 0 0, .int .i64 E]) ∧ w' = w) :
    Calls Try.prog 6 #[.slice ap np cp, .slice bk nk ck, .slice am nm cm] w fun e w' => e = .returned (.bool true) ∧ Below w.heap.size w w' := by
  have HP := hide hPK
  have hb : (E != 0) = true := by rw [bne_iff_ne]; exact hE
  have HI := hide (fun W => inflated_any W)
  clear hPK hE
  go_enter Try.func6, Try.ntmps6
  go_wp2_with fail
  refine (unhide HP).mono ?_
  rintro e w1 ⟨rfl, rfl⟩
  go_wp2_with fail
  refine (unhide HI w1).mono ?_
  rintro e w2 ⟨rfl, hB2⟩
  have HB2 := hide hB2
  clear hB2
  go_wp2_with fail
  refine (unhide HI w2).mono ?_
  rintro e w3 ⟨rfl, hB3⟩
  have HB3 := hide ((unhide HB2).trans (hB3.mono (unhide HB2).size))
  clear hB3
  go_wp2
  go_ret
  exact ⟨rfl, unhide HB3⟩

theorem catB_parts (A : Nat → Option Addr) (C : Nat → Nat) (bss : List (List Nat)) : ∀ k, k ≤ bss.length → catB ((List.range bss.length).map (fun j => (A j, C j, bss.getD j []))) k = allK bss k
  | 0, _ => by simp [catB, allK]
  | k + 1, h => by
    rw [catB, catB_parts A C bss k (by omega), allK_next bss (by omega)]
    congr 1
    rw [List.getD, List.getElem?_map, List.getElem?_range (by omega)]
    rfl

theorem chkP_sum (bss : List (List Nat)) (ks : List Int) (hkb : ks.length = bss.length) (h : chkP (bss.map List.length) ks 0 0 = 0) : (allK bss bss.length).length ≤ 3000 := by
  have key : ∀ k, k ≤ bss.length → chkP ((bss.map List.length).drop k) (ks.drop k) k (allK bss k).length = 0 ∧ (allK bss k).length ≤ 3000 := fun k => by
    induction k with
    | zero => intro _; exact ⟨h, Nat.zero_le _⟩
    | succ k ih =>
      intro hk
      obtain ⟨i1, i2⟩ := ih (by omega)
      obtain ⟨s1, s2, s3, s4⟩ := chkP_step (ns := bss.map List.length) (ks := ks) (k := k) (t := (allK bss k).length) (n := (bss.getD k []).length) (x := ks.getD k 0) (by rw [List.length_map]; omega) (by omega) (by simp [List.getD, show k < bss.length by omega]) rfl i1
      rw [allK_next bss (by omega), List.length_append]
      exact ⟨s4, s1⟩
  exact (key bss.length (Nat.le_refl _)).2

set_option maxHeartbeats 4000000 in
theorem back_ok (b o cp b2 o2 np ck nm cm : Nat) (am : Option Addr) (A : Nat → Option Addr) (C : Nat → Nat) (bss : List (List Nat)) (ks : List Int) (more : List Nat) (w : World) (hp : bss.length = np) (hkl : ks.length = np) (hP : PartsIn w b o A C bss) (hb2 : b2 < w.heap.size) (hK : Row .i64 w b2 o2 ks) (hE : errP (bss.map List.length) ks = 0) (hml : more.length = nm) (hmb : nm ≤ 140737488351232) (hby : BytesIn w am more) (hvm : ∀ j, more.getD j 0 < 256) :
    Calls Try.prog 6 #[.slice (some ⟨b, o, none⟩) np cp, .slice (some ⟨b2, o2, none⟩) np ck, .slice am nm cm] w fun e w' => e = .returned (.bool true) ∧ Below w.heap.size w w' := by
  have hPK := hide (pack_ok b o cp b2 o2 np ck A C bss ks w hp hkl hP hb2 hK hE)
  have hc0 : chkP (bss.map List.length) ks 0 0 = 0 ∧ 0 < np := by
    unfold errP at hE
    by_cases c : (bss.map List.length).length = 0 ∨ ks.length ≠ (bss.map List.length).length
    · rw [if_pos c] at hE; cases hE
    · rw [if_neg c] at hE
      exact ⟨hE, by simp at c; rw [← hp]; exact List.length_pos_iff.2 c.1⟩
  obtain ⟨hc0, hnp⟩ := hc0
  have hne : bss.map List.length ≠ [] := by intro e; have := congrArg List.length e; simp at this; rw [this] at hp; simp at hp; omega
  have hnp40 := chkP_len _ _ 0 0 hc0 hne
  rw [Nat.zero_add, List.length_map, hp] at hnp40
  have hks := chkP_all _ ks 0 0 (by rw [List.length_map, hkl, hp]) hc0
  have hT : (allK bss np).length ≤ 3000 := by rw [← hp]; exact chkP_sum bss ks (by rw [hkl, hp]) hc0
  have hfl := allK_val hP.val np
  have HSM : Hid (∀ out : List Nat, rowB out out.length = padB (packF (itemsP bss ks) []) → out.length ≤ 30000) := hide (fun out h => by
    obtain ⟨_, _, _, f4, f5⟩ := pack_facts bss ks out np hp hkl hnp hP.val hks hT h
    omega)
  have hbw := hP.lt
  have HP := hide hP
  have HUB : Hid (∀ (W : World) (x : Option Addr) (n c : Nat) (out : List Nat), n ≤ 6000 → (out ++ more).length = n → BytesIn W x (out ++ more) → (∀ j, out.getD j 0 < 256) → rowB out out.length = padB (packF (itemsP bss ks) []) → Calls Try.prog 15 #[.slice x n c] W fun e w' => UnpB W out.length (allK bss np) ks e w') := hide (fun W x n c out h1 h2 h3 h4 h5 => unpackBack_any x n c bss ks out more np W h2 h1 h3 (app_lt h4 hvm) hp hkl hnp hP.val hks hT h5)
  have HPC : Hid (∀ W, Below w.heap.size w W → Calls Try.prog 19 #[.slice (some ⟨b, o, none⟩) np cp] W fun e w' => ∃ x c, e = .returned (.slice x (allK bss np).length c) ∧ BytesIn w' x (allK bss np) ∧ Below W.heap.size W w') := hide (fun W hB => by
    have hcat := catB_parts A C bss np (by omega)
    have hget : ∀ j, j < np → ((List.range bss.length).map (fun j => (A j, C j, bss.getD j []))).getD j (none, 0, []) = (A j, C j, bss.getD j []) := fun j hj => by
      rw [List.getD, List.getElem?_map, List.getElem?_range (by omega)]
      rfl
    refine (concatB_any b o np cp ((List.range bss.length).map (fun j => (A j, C j, bss.getD j []))) W (by have := hB.size; omega) ?_ ?_ (by rw [hcat]; omega) (by omega)).mono ?_
    · intro j hj
      rw [hget j hj]
      exact (hB.cell (p := ⟨b, o + j, none⟩) hbw).trans (hP.cell j (by omega))
    · intro j hj
      rw [hget j hj]
      exact (hP.byt j (by omega)).below hB (Nat.le_refl _)
    · rw [hcat]
      rintro e w' ⟨x, c, _, rfl, h2, h3⟩
      exact ⟨x, c, rfl, h2, h3⟩)
  have HKR : Hid (∀ W, Below w.heap.size w W → RowIn .i64 W (some ⟨b2, o2, none⟩) ks) := hide (fun W hB => .inr ⟨b2, o2, rfl, by have := hB.size; omega, fun j hj => (hB.cell (p := ⟨b2, o2 + j, none⟩) hb2).trans (hK j hj)⟩)
  have HBY := hide hby
  have HML := hide hml
  have HVM := hide hvm
  have HFL := hide hfl
  have HKL := hide hkl
  have HI := hide (fun W => inflated_any W)
  obtain ⟨AL, hAL⟩ : ∃ AL, allK bss np = AL := ⟨_, rfl⟩
  rw [hAL] at hT HUB HPC HFL
  obtain ⟨tl, htl⟩ : ∃ tl, AL.length = tl := ⟨_, rfl⟩
  have HTL := hide htl
  clear hP hK hE hc0 hne hks hby hvm hfl hp hkl hAL hml
  go_enter Try.func6, Try.ntmps6
  go_wp2_with fail
  refine (unhide hPK).mono ?_
  rintro e w1 ⟨v, out, rfl, hO1, hrow, hov, hB1⟩
  obtain ⟨hol, av, cv, rfl, hbo⟩ := BytesIn.ofOwn hO1
  obtain ⟨nb, hnb⟩ : ∃ nb, out.length = nb := ⟨_, rfl⟩
  have HNB := hide hnb
  have HBO := hide hbo
  have HROW := hide hrow
  have HOV := hide hov
  have HB1 := hide hB1
  have hnbs : nb ≤ 30000 := by
    have := unhide HSM out hrow
    omega
  rw [hnb]
  clear hO1 hbo hrow hov hB1 hol hnb hPK
  go_wp2_with fail
  refine (unhide HI w1).mono ?_
  rintro e w2 ⟨rfl, hB2⟩
  have HB12 := hide hB2
  have HB2 := hide ((unhide HB1).trans (hB2.mono (unhide HB1).size))
  clear hB2
  by_cases hfit : 6000 < nb + nm
  · have hfI : (6000 : Int) < (nb : Int) + (nm : Int) := by omega
    go_wp2_with fail
    refine (unhide HI w2).mono ?_
    rintro e w3 ⟨rfl, hB3⟩
    have HB3 := hide ((unhide HB2).trans (hB3.mono (unhide HB2).size))
    clear hB3
    go_wp2
    go_ret
    exact ⟨rfl, unhide HB3⟩
  have hfI : ¬ (6000 : Int) < (nb : Int) + (nm : Int) := by omega
  have HBR := hide (fun t => both_rows w2 av am nb nm cv cm 2 out more t (unhide HNB) (unhide HML) ((unhide HBO).below (unhide HB12) (Nat.le_refl _)) ((unhide HBY).below (unhide HB2) (Nat.le_refl _)) (by omega))
  go_wp2_with fail
  refine (unhide HBR _).mono ?_
  rintro e w3 ⟨x3, c3, hc3, rfl, hby3, hB3⟩
  have HB3 := hide ((unhide HB2).trans (hB3.mono (unhide HB2).size))
  have HU := hide (unhide HUB w3 x3 (nb + nm) c3 out (by omega) (by rw [List.length_append, unhide HNB, unhide HML]) hby3 (unhide HOV) (unhide HROW))
  clear hB3 hby3 HBR hc3
  go_wp2_with fail
  refine (unhide HU).mono ?_
  rw [unhide HNB]
  unfold UnpB
  rw [htl, unhide HKL]
  rintro e w4 ⟨hB4, ao, co, kv, dv, rfl, hbo, hrk⟩
  have HB4 := hide ((unhide HB3).trans (hB4.mono (unhide HB3).size))
  have HBO4 := hide hbo
  have HRK4 := hide hrk
  clear hB4 hbo hrk
  have HC4 := hide (unhide HPC w4 (unhide HB4))
  go_wp2_with fail
  refine (unhide HC4).mono ?_
  rw [htl]
  rintro e w5 ⟨x5, c5, rfl, hb5, hB5⟩
  have HB5 := hide ((unhide HB4).trans (hB5.mono (unhide HB4).size))
  have HEQ := hide (bequal_in ao x5 tl co tl c5 AL AL w5 (unhide HTL) (unhide HTL) (unhide HFL) (unhide HFL) ((unhide HBO4).below hB5 (Nat.le_refl _)) hb5)
  have HEK := hide (equal_in kv (some ⟨b2, o2, none⟩) np dv np ck ks ks w5 (unhide HKL) (unhide HKL) (by omega) (by omega) ((unhide HRK4).below hB5 (Nat.le_refl _)) (unhide HKR w5 (unhide HB5)))
  have hb1 : (AL == AL) = true := by simp
  have hb2 : (ks == ks) = true := by simp
  rw [hb1] at HEQ
  rw [hb2] at HEK
  clear hB5 hb5 hb1 hb2
  go_wp2_with fail
  refine (unhide HEQ).mono ?_
  rintro e w6 ⟨rfl, rfl⟩
  go_wp2_with fail
  refine (unhide HEK).mono ?_
  rintro e w7 ⟨rfl, r, rfl⟩
  go_wp2
  go_ret
  exact ⟨rfl, below_drewN (unhide HB5) r⟩
end Go.Proofs.Ytfoaaamcpknjnac

/-
  Rows of bytes as arguments.
-/
namespace Go.Proofs.Ytfoaaamcpknjnac
open Go.RowKit Go.ChangeShapes Go.WideShapes Go.ChangeAt Go.Deep
set_option linter.unusedVariables false

theorem add_plain (b o j : Nat) : (⟨b, o, none⟩ : Addr).add j = ⟨b, o + j, none⟩ := by unfold Addr.add; split <;> simp_all

theorem cells5 : Try.prog.cellsOf 5 = 1 := by kernel_rfl

theorem open_bytes {H : Type} {enc : TypeId × Value → H} {w : World} {fuel : Nat} {a0 : Option Addr} {l0 c0 : Nat} {x : DataW H × List MemPlace}
    (h : DataW.trod enc Try.prog w 0 (fun _ => true) true fuel 22 [.slice a0 l0 c0] = some x) : l0 ≤ maxLen ∧ ∃ xs, xs.length = l0 ∧ (∀ j, xs.getD j 0 < 256) ∧ BytesIn w a0 xs := by
  rcases open_ints Try.underlying22 Try.underlying5 cells5 h with ⟨hcs, _⟩ | ⟨a, l, c, zs, hcs, _, hl, hm, hz, _, hcell, hwz⟩
  · simp at hcs
    obtain ⟨rfl, rfl, rfl⟩ := hcs
    exact ⟨Nat.zero_le _, [], rfl, fun j => by simp, .inl rfl⟩
  · simp at hcs
    obtain ⟨rfl, rfl, rfl⟩ := hcs
    have hz' : zs.length = c0 := by simpa using hz
    have hb : ∀ j, j < zs.length → 0 ≤ zs.getD j 0 ∧ zs.getD j 0 ≤ 255 := by
      intro j hj
      have hmem : zs.getD j 0 ∈ zs := by simp [List.getD, hj]
      have := hwz _ hmem
      simpa [Lit.wf, IntKind.min, IntKind.max, IntKind.signed, IntKind.bits] using this
    have e1 : ∀ j, j < l0 → ((zs.take l0).map Int.toNat).getD j 0 = (zs.getD j 0).toNat := by
      intro j hj
      have : j < zs.length := by omega
      simp [List.getD, hj, this]
    refine ⟨Nat.le_trans hl hm, (zs.take l0).map Int.toNat, by simp; omega, ?_, ?_⟩
    · intro j
      by_cases hj : j < l0
      · rw [e1 j hj]
        have := hb j (by omega)
        omega
      · have : ((zs.take l0).map Int.toNat).length ≤ j := by simp; omega
        rw [List.getD_eq_getElem?_getD, List.getElem?_eq_none this]; simp
    by_cases h0 : l0 = 0
    · subst h0
      exact .inl rfl
    · obtain ⟨b, o, spot⟩ := a
      have hc := hcell 0 (by omega)
      have hspot : spot = none := by simpa [Addr.add] using World.cell?_spot hc
      subst hspot
      refine .inr ⟨b, o, rfl, ?_, ?_⟩
      · have := World.block_lt_of_cell? _ _ hc
        simpa [Addr.add] using this
      · intro j hj
        have hj' : j < l0 := by simp at hj; omega
        have h1 := hcell j (by omega)
        rw [e1 j hj', Int.toNat_of_nonneg (hb j (by omega)).1]
        rw [add_plain] at h1
        exact h1
theorem open_cap {H : Type} {enc : TypeId × Value → H} {w : World} {fuel : Nat} {a0 : Option Addr} {l0 c0 : Nat} {x : DataW H × List MemPlace}
    (h : DataW.trod enc Try.prog w 0 (fun _ => true) true fuel 22 [.slice a0 l0 c0] = some x) : l0 ≤ c0 := by
  rcases open_ints Try.underlying22 Try.underlying5 cells5 h with ⟨hcs, _⟩ | ⟨a, l, c, zs, hcs, _, hl, hm, hz, _, hcell, hwz⟩
  · simp at hcs
    obtain ⟨rfl, rfl, rfl⟩ := hcs
    exact Nat.le_refl _
  · simp at hcs
    obtain ⟨rfl, rfl, rfl⟩ := hcs
    exact hl
end Go.Proofs.Ytfoaaamcpknjnac

/-
  How the arguments of a law lie in memory: a slice of numbers, of bytes is nil, or empty, or leads to a row that holds them.
-/
namespace Go.Proofs.Ytfoaaamcpknjnac
open Go.RowKit Go.ChangeShapes Go.WideShapes Go.ChangeAt Go.Deep
set_option linter.unusedVariables false

theorem cells3 : Try.prog.cellsOf 3 = 1 := by kernel_rfl
theorem open_nums {H : Type} {enc : TypeId × Value → H} {w : World} {fuel : Nat} {a0 : Option Addr} {l0 c0 : Nat} {x : DataW H × List MemPlace}
    (h : DataW.trod enc Try.prog w 0 (fun _ => true) true fuel 36 [.slice a0 l0 c0] = some x) : l0 ≤ maxLen ∧ ∃ xs, xs.length = l0 ∧ RowIn .i64 w a0 xs := by
  rcases open_ints Try.underlying36 Try.underlying3 cells3 h with ⟨hcs, _⟩ | ⟨a, l, c, zs, hcs, _, hl, hm, hz, _, hcell, hwz⟩
  · simp at hcs
    obtain ⟨rfl, rfl, rfl⟩ := hcs
    exact ⟨Nat.zero_le _, [], rfl, .inl rfl⟩
  · simp at hcs
    obtain ⟨rfl, rfl, rfl⟩ := hcs
    refine ⟨Nat.le_trans hl hm, zs.take l0, by simp at hz; simp; omega, ?_⟩
    by_cases h0 : l0 = 0
    · subst h0
      exact .inl rfl
    · obtain ⟨b, o, spot⟩ := a
      have hz' : zs.length = c0 := by simpa using hz
      have hc := hcell 0 (by omega)
      have hspot : spot = none := by simpa [Addr.add] using World.cell?_spot hc
      subst hspot
      refine .inr ⟨b, o, rfl, ?_, ?_⟩
      · have := World.block_lt_of_cell? _ _ hc
        simpa [Addr.add] using this
      · intro j hj
        have hj' : j < l0 := by simp at hj; omega
        have := hcell j (by omega)
        have e : (zs.take l0).getD j 0 = zs.getD j 0 := by simp [List.getD, hj']
        rw [e]
        rw [add_plain] at this
        exact this

end Go.Proofs.Ytfoaaamcpknjnac

/-
  Opening a slice of slices of bytes.
-/
namespace Go.Proofs.Ytfoaaamcpknjnac
open Go.ChangeShapes Go.WideShapes Go.ChangeAt Go.RowKit Go.Deep
set_option linter.unusedVariables false

theorem bytesP5 : Try.prog.bytesOf 5 = 1 := by kernel_rfl
theorem cellsPP : Try.prog.cellsOf 22 = 1 := by kernel_rfl

theorem weightsAll_mem {H : Type} {P : Program} {e : TypeId} : ∀ {ds : List (DataW H)} {d : DataW H}, d ∈ ds → ∀ n ∈ d.weights P e, n ∈ DataW.weightsAll P e ds
  | x :: r, d, h, n, hn => by
    simp only [DataW.weightsAll, List.mem_append]
    rcases List.mem_cons.1 h with e | e
    · subst e; exact .inl hn
    · exact .inr (weightsAll_mem e n hn)
  | [], d, h, n, hn => by cases h
theorem row_bytes {w : World} {ar : Option Addr} {L C : Nat} {Z : List Int} (hl : L ≤ C) (hz : Z.length = C) (hwf : ∀ n ∈ Z, (Lit.int .u8 n).wf = true) (hnil : ar = none → C = 0) (hc : ∀ a', ar = some a' → ∀ c, c < C → w.cell? (a'.add c) = some (.int .u8 (Z.getD c 0))) :
    ((Z.take L).map Int.toNat).length = L ∧ (∀ j, ((Z.take L).map Int.toNat).getD j 0 < 256) ∧ BytesIn w ar ((Z.take L).map Int.toNat) := by
  have hb : ∀ j, j < Z.length → 0 ≤ Z.getD j 0 ∧ Z.getD j 0 ≤ 255 := by
    intro j hj
    have hmem : Z.getD j 0 ∈ Z := by simp [List.getD, hj]
    have := hwf _ hmem
    simpa [Lit.wf, IntKind.min, IntKind.max, IntKind.signed, IntKind.bits] using this
  have e1 : ∀ j, j < L → ((Z.take L).map Int.toNat).getD j 0 = (Z.getD j 0).toNat := by
    intro j hj
    have : j < Z.length := by omega
    simp [List.getD, hj, this]
  have hlen : ((Z.take L).map Int.toNat).length = L := by simp; omega
  refine ⟨hlen, ?_, ?_⟩
  · intro j
    by_cases hj : j < L
    · rw [e1 j hj]
      have := hb j (by omega)
      omega
    · rw [List.getD_eq_getElem?_getD, List.getElem?_eq_none (by rw [hlen]; omega)]; simp
  · by_cases h0 : L = 0
    · subst h0
      exact .inl rfl
    · cases ar with
      | none => have := hnil rfl; omega
      | some a =>
        obtain ⟨b, o, spot⟩ := a
        have h1 := hc _ rfl 0 (by omega)
        have hspot : spot = none := by simpa [Addr.add] using World.cell?_spot h1
        subst hspot
        refine .inr ⟨b, o, rfl, ?_, ?_⟩
        · have := World.block_lt_of_cell? _ _ h1
          simpa [Addr.add] using this
        · intro j hj
          have hj' : j < L := by rw [hlen] at hj; exact hj
          have h2 := hc _ rfl j (by omega)
          rw [e1 j hj', Int.toNat_of_nonneg (hb j (by omega)).1]
          rw [add_plain] at h2
          exact h2
set_option maxRecDepth 100000 in
theorem open_parts {H : Type} {enc : TypeId × Value → H} {w : World} {fuel : Nat} {a0 : Option Addr} {l0 c0 : Nat} {d : DataW H} {p : List MemPlace}
    (h : DataW.trod enc Try.prog w 0 (fun _ => true) true fuel 35 [.slice a0 l0 c0] = some (d, p)) (lt : ∀ x ∈ p, x.block < w.heap.size) {ts : List TypeId} {ds : List (DataW H)} {j : Nat}
    (hsz : (DataW.weightsEach Try.prog ts ds).all (· ≤ reachBytes) = true) (ht : ts[j]? = some 35) (hd : ds[j]? = some d) :
    l0 ≤ maxLen ∧ ∃ (b o : Nat) (A : Nat → Option Addr) (C : Nat → Nat) (bss : List (List Nat)), bss.length = l0 ∧ (0 < l0 → a0 = some ⟨b, o, none⟩ ∧ PartsIn w b o A C bss) ∧ ∀ j, j < l0 → (bss.getD j []).length ≤ 140737488351232 := by
  rcases open_int_rows Try.underlying35 Try.underlying22 Try.underlying5 cellsPP cells5 h with ⟨hcs, _⟩ | ⟨a, len, cap, A, L, C, Z, hcs, _, hl, hm, hx, hrow⟩
  · simp at hcs
    obtain ⟨rfl, rfl, rfl⟩ := hcs
    exact ⟨by unfold maxLen; omega, 0, 0, fun _ => none, fun _ => 0, [], rfl, fun h => by omega, fun j hj => by omega⟩
  · simp at hcs
    obtain ⟨rfl, rfl, rfl⟩ := hcs
    have hx1 := congrArg Prod.fst hx
    simp only at hx1
    have hbyt := fun r (hr : r < c0) => row_bytes (w := w) (ar := A r) (L := L r) (C := C r) (Z := Z r) (hrow r hr).2.1 (hrow r hr).2.2.2.1 (hrow r hr).2.2.2.2.1 (hrow r hr).2.2.2.2.2.1 (fun a' e => ((hrow r hr).2.2.2.2.2.2 a' e).2)
    have hbig : ∀ r, r < l0 → L r ≤ 140737488351232 := by
      intro r hr
      obtain ⟨r1, r2, r3, r4, r5, r6, r7⟩ := hrow r (by omega)
      cases hA : A r with
      | none => have := r6 hA; omega
      | some ar =>
        have hmem : (C r) * 1 ∈ (intRow (H := H) .u8 (A r) (L r) (Z r)).weights Try.prog 22 := by
          rw [hA]
          simp only [intRow, DataW.weights, Try.underlying22, bytesP5]
          have e : (lits (H := H) .u8 ((Z r).take (L r))).length + (lits (H := H) .u8 ((Z r).drop (L r))).length = C r := by
            simp [lits]
            omega
          rw [e]
          exact List.mem_cons_self
        have hm2 : (C r) * 1 ∈ d.weights Try.prog 35 := by
          rw [hx1]
          simp only [DataW.weights, Try.underlying35]
          refine List.mem_cons_of_mem _ (List.mem_append.2 (.inl (weightsAll_mem (List.mem_map.2 ⟨r, List.mem_range.2 hr, rfl⟩) _ hmem)))
        have h3 := List.all_eq_true.1 hsz _ (DataW.weights_mem_each ht hd _ hm2)
        have h4 : C r * 1 ≤ reachBytes := by simpa using h3
        have : reachBytes = 140737488351232 := rfl
        omega
    have hget : ∀ r, r < l0 → ((List.range l0).map fun r => ((Z r).take (L r)).map Int.toNat).getD r [] = ((Z r).take (L r)).map Int.toNat := by
      intro r hr
      simp [List.getD, hr]
    obtain ⟨b, o, spot⟩ := a
    refine ⟨Nat.le_trans hl hm, b, o, A, C, (List.range l0).map fun r => ((Z r).take (L r)).map Int.toNat, by simp, ?_, ?_⟩
    · intro hpos
      have hc0 := (hrow 0 (by omega)).1
      have hspot : spot = none := by simpa [Addr.add] using World.cell?_spot hc0
      subst hspot
      refine ⟨rfl, ⟨?_, ?_, ?_, ?_, ?_, ?_, ?_⟩⟩
      · have := World.block_lt_of_cell? _ _ hc0
        simpa [Addr.add] using this
      · intro j hj
        have hj' : j < l0 := by simpa using hj
        rw [hget j hj', (hbyt j (by omega)).1]
        have := (hrow j (by omega)).1
        rw [add_plain] at this
        exact this
      · intro j hj
        have hj' : j < l0 := by simpa using hj
        rw [hget j hj']
        exact (hbyt j (by omega)).2.2
      · intro j hj
        have hj' : j < l0 := by simpa using hj
        rw [hget j hj', (hbyt j (by omega)).1]
        exact (hrow j (by omega)).2.1
      · intro j hj
        have hj' : j < l0 := by simpa using hj
        exact (hrow j (by omega)).2.2.2.2.2.1
      · intro j hj
        have hj' : j < l0 := by simpa using hj
        rw [hget j hj', (hbyt j (by omega)).1]
        have := hbig j hj'
        split <;> omega
      · intro j i
        by_cases hj : j < l0
        · rw [hget j hj]
          exact (hbyt j (by omega)).2.1 i
        · have e : ((List.range l0).map fun r => ((Z r).take (L r)).map Int.toNat).getD j [] = [] := by
            rw [List.getD, List.getElem?_eq_none (by simp; omega)]
            rfl
          rw [e]
          simp
    · intro j hj
      rw [hget j hj, (hbyt j (by omega)).1]
      exact hbig j hj

end Go.Proofs.Ytfoaaamcpknjnac

/-
  A number of 32 bits as an argument.
-/
namespace Go.Proofs.Ytfoaaamcpknjnac
open Go.RowKit Go.ChangeShapes Go.WideShapes Go.ChangeAt Go.Deep
theorem wf_u32 {n : Int} (h : (Lit.int .u32 n).wf = true) : 0 ≤ n ∧ n < 4294967296 := by
  simp only [Lit.wf, IntKind.min, IntKind.max, IntKind.signed, IntKind.bits, Bool.and_eq_true, decide_eq_true_eq, Bool.false_eq_true, if_false] at h
  omega
/-- five arguments -/
theorem trodAll_five {H : Type} {enc : TypeId × Value → H} {P : Program} {w : World} {base : Nat} {sp : Nat → Bool} {held : Bool} {t0 t1 t2 t3 t4 : TypeId} {args : Array Value} {ds : List (DataW H)} {ps : List MemPlace} (h : DataW.TrodAll enc P w base sp held [t0, t1, t2, t3, t4] args.toList ds ps) :
    ∃ v0 v1 v2 v3 v4 d0 d1 d2 d3 d4 p0 p1 p2 p3 p4, args = #[v0, v1, v2, v3, v4] ∧ ds = [d0, d1, d2, d3, d4] ∧ ps = p0 ++ p1 ++ p2 ++ p3 ++ p4 ∧ DataW.Trod enc P w base sp held t0 v0 d0 p0 ∧ DataW.Trod enc P w base sp held t1 v1 d1 p1 ∧ DataW.Trod enc P w base sp held t2 v2 d2 p2 ∧ DataW.Trod enc P w base sp held t3 v3 d3 p3 ∧ DataW.Trod enc P w base sp held t4 v4 d4 p4 := by
  obtain ⟨v0, _, d0, _, p0, _, ha, rfl, rfl, h0, h⟩ := trodAll_cons h
  obtain ⟨v1, _, d1, _, p1, _, rfl, rfl, rfl, h1, h⟩ := trodAll_cons h
  obtain ⟨v2, _, d2, _, p2, _, rfl, rfl, rfl, h2, h⟩ := trodAll_cons h
  obtain ⟨v3, _, d3, _, p3, _, rfl, rfl, rfl, h3, h⟩ := trodAll_cons h
  obtain ⟨v4, _, d4, _, p4, _, rfl, rfl, rfl, h4, h⟩ := trodAll_cons h
  obtain ⟨rfl, rfl, rfl⟩ := trodAll_nil h
  exact ⟨v0, v1, v2, v3, v4, d0, d1, d2, d3, d4, p0, p1, p2, p3, p4, by cases args; simp_all, rfl, by simp, h0, h1, h2, h3, h4⟩
theorem bytes5 : Try.prog.bytesOf 5 = 1 := by kernel_rfl
/-- no row of bytes is longer than what the reach allows -/
theorem open_size {H : Type} {enc : TypeId × Value → H} {w : World} {fuel : Nat} {a0 : Option Addr} {l0 c0 : Nat} {d : DataW H} {p : List MemPlace}
    (h : DataW.trod enc Try.prog w 0 (fun _ => true) true fuel 22 [.slice a0 l0 c0] = some (d, p)) {ts : List TypeId} {ds : List (DataW H)} {j : Nat}
    (hsz : (DataW.weightsEach Try.prog ts ds).all (· ≤ reachBytes) = true) (ht : ts[j]? = some 22) (hd : ds[j]? = some d) : l0 ≤ 140737488351232 := by
  rcases open_ints Try.underlying22 Try.underlying5 cells5 h with ⟨hcs, _⟩ | ⟨a, l, c, zs, hcs, _, hl, hm, hz, hx, hcell, hwz⟩
  · simp at hcs
    obtain ⟨rfl, rfl, rfl⟩ := hcs
    omega
  · simp at hcs
    obtain ⟨rfl, rfl, rfl⟩ := hcs
    have hx1 := congrArg Prod.fst hx
    simp only at hx1
    subst hx1
    have h1 := sized_slice hsz ht hd Try.underlying22
    rw [bytes5, Nat.mul_one] at h1
    have h2 : (lits (H := H) .u8 (zs.take l0)).length = l0 := by
      simp [lits]
      simp at hz
      omega
    have : reachBytes = 140737488351232 := rfl
    omega
end Go.Proofs.Ytfoaaamcpknjnac
