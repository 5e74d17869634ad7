/-
  strings.Trim, laid by the kit's own contract.
-/
import Derived.Test.YtmgmganbamjnmaaGreatDoorS3
import Derived.Shelf.Strings.SlTrimAscii
import Derived.Test.YtmgmganbamjnmaaGreatDoorS8
import Derived.Test.YtmgmganbamjnmaaGreatDoorS16
namespace Go.Proofs.YtmgmganbamjnmaaGreatDoor
open Go.RowKit
set_option linter.unusedVariables false
set_option maxRecDepth 100000

def triRen : Go.Shelf.Ren := ⟨fun | 160 => 48 | 232 => 64 | 231 => 63 | 227 => 65 | 234 => 67 | 233 => 66 | 236 => 69 | 235 => 68 | 228 => 84 | 271 => 87 | 151 => 86 | 197 => 85 | 120 => 110 | 152 => 109 | 260 => 108 | 137 => 124 | 119 => 125 | 224 => 122 | 225 => 121 | 217 => 120 | 266 => 127 | n => n, fun | 9 => 9 | 4 => 4 | 3 => 3 | 5 => 5 | 117 => 102 | 116 => 101 | 0 => 0 | 124 => 105 | 21 => 21 | 105 => 114 | 46 => 110 | 119 => 145 | 139 => 148 | 138 => 147 | n => n, fun | 3 => 1 | 4 => 2 | n => n⟩
theorem triLays : Go.Proofs.Lays.n160 Tryz.prog triRen := {
  mixed := by kernel_rfl
  f119 := Tryz.func125.trans (congrArg some (by kernel_rfl))
  f120 := Tryz.func110.trans (congrArg some (by kernel_rfl))
  f137 := Tryz.func124.trans (congrArg some (by kernel_rfl))
  f151 := Tryz.func86.trans (congrArg some (by kernel_rfl))
  f152 := Tryz.func109.trans (congrArg some (by kernel_rfl))
  f160 := Tryz.func48.trans (congrArg some (by kernel_rfl))
  f197 := Tryz.func85.trans (congrArg some (by kernel_rfl))
  f217 := Tryz.func120.trans (congrArg some (by kernel_rfl))
  f224 := Tryz.func122.trans (congrArg some (by kernel_rfl))
  f225 := Tryz.func121.trans (congrArg some (by kernel_rfl))
  f227 := Tryz.func65.trans (congrArg some (by kernel_rfl))
  f228 := Tryz.func84.trans (congrArg some (by kernel_rfl))
  f231 := Tryz.func63.trans (congrArg some (by kernel_rfl))
  f232 := Tryz.func64.trans (congrArg some (by kernel_rfl))
  f233 := Tryz.func66.trans (congrArg some (by kernel_rfl))
  f234 := Tryz.func67.trans (congrArg some (by kernel_rfl))
  f235 := Tryz.func68.trans (congrArg some (by kernel_rfl))
  f236 := Tryz.func69.trans (congrArg some (by kernel_rfl))
  f260 := Tryz.func108.trans (congrArg some (by kernel_rfl))
  f266 := Tryz.func127.trans (congrArg some (by kernel_rfl))
  f271 := Tryz.func87.trans (congrArg some (by kernel_rfl))
  t0 := Tryz.underlying0
  a0 := Tryz.isAgg0
  z0 := Tryz.sizeOf0
  v0 := Tryz.zeroValue0
  t3 := Tryz.underlying3
  a3 := Tryz.isAgg3
  z3 := Tryz.sizeOf3
  v3 := Tryz.zeroValue3
  t4 := Tryz.underlying4
  a4 := Tryz.isAgg4
  z4 := Tryz.sizeOf4
  v4 := Tryz.zeroValue4
  t5 := Tryz.underlying5
  a5 := Tryz.isAgg5
  z5 := Tryz.sizeOf5
  v5 := Tryz.zeroValue5
  t9 := Tryz.underlying9
  a9 := Tryz.isAgg9
  z9 := Tryz.sizeOf9
  v9 := Tryz.zeroValue9
  t21 := Tryz.underlying21
  a21 := Tryz.isAgg21
  z21 := Tryz.sizeOf21
  v21 := Tryz.zeroValue21
  t46 := Tryz.underlying110
  a46 := Tryz.isAgg110
  z46 := Tryz.sizeOf110
  v46 := Tryz.zeroValue110
  t105 := Tryz.underlying114
  a105 := Tryz.isAgg114
  z105 := Tryz.sizeOf114
  v105 := Tryz.zeroValue114
  t116 := Tryz.underlying101
  a116 := Tryz.isAgg101
  z116 := Tryz.sizeOf101
  t117 := Tryz.underlying102
  a117 := Tryz.isAgg102
  z117 := Tryz.sizeOf102
  v117 := Tryz.zeroValue102
  t119 := Tryz.underlying145
  a119 := Tryz.isAgg145
  z119 := Tryz.sizeOf145
  t124 := Tryz.underlying105
  a124 := Tryz.isAgg105
  z124 := Tryz.sizeOf105
  v124 := Tryz.zeroValue105
  t138 := Tryz.underlying147
  a138 := Tryz.isAgg147
  z138 := Tryz.sizeOf147
  v138 := Tryz.zeroValue147
  t139 := Tryz.underlying148
  a139 := Tryz.isAgg148
  z139 := Tryz.sizeOf148
  v139 := Tryz.zeroValue148
  g3 := by kernel_rfl
  g4 := by kernel_rfl }
theorem trim_info : (Tryz.prog.info? 101).map (fun i => (i.zero, i.size)) = some (some (.agg (Array.replicate 256 (.bool false))), 256) := by kernel_rfl
theorem trimS (p : List UInt8) (w : World) (hp : p.length ≤ maxLen) :
    Calls Tryz.prog 48 #[.string (B p), .string (B cutset)] w fun e w' => e = .returned (.string (B (Lib.trimS p cutset))) ∧ Below w.heap.size w w' :=
  Any.strings_Trim_laid triLays trim_info (B p) (B cutset) w (by rw [B_size]; exact hp) (by decide) (ascii_of_all (l := cutset) (by decide))
end Go.Proofs.YtmgmganbamjnmaaGreatDoor

/-
  The document's own reader of names.
-/
namespace Go.Proofs.YtmgmganbamjnmaaGreatDoor
open Go.RowKit
set_option linter.unusedVariables false
set_option maxRecDepth 100000

/-! ### the document's reader -/
theorem okP_trim {p : List UInt8} (h0 : p ≠ []) (h1 : p ≠ [46]) (h2 : p ≠ [46, 46]) : okP p = true ↔ Lib.trimS p cutset = [] := by
  rw [trim_nil]
  simp [okP, h0, h1, h2]

set_option maxHeartbeats 2000000 in
theorem parted_any (s : List UInt8) (w : World) (hs : s.length ≤ maxLen) :
    Calls Tryz.prog 32 #[.string (B s)] w fun e w' => ∃ v, e = .returned (.tuple #[v, .int .i64 (errN s : Nat)]) ∧ SRow w' w.heap.size v (prow s) ∧ Below w.heap.size w w' ∧ (errN s ≠ 0 → v = .slice none 0 0) := by
  have hsz := B_size s
  unfold maxLen at hs
  by_cases h40 : 40 < s.length
  · have HE := hide (errN_long h40)
    have h40' : 40 < (B s).size := by rw [hsz]; omega
    have hms : (B s).size ≤ 9223372036854775807 := by rw [hsz]; omega
    clear hsz h40 hs
    generalize B s = t at *
    go_enter Tryz.func32, Tryz.ntmps32
    go_wp2
    go_ret2
    rw [prow_bad (by rw [unhide HE]; decide), unhide HE]
    exact ⟨_, rfl, SRow.nil _ _, Below.refl _ _, fun _ => rfl⟩
  · have hsp := split_any (B s) w (by rw [hsz]; omega)
    rw [data_B] at hsp
    have h40' : (B s).size ≤ 40 := by rw [hsz]; omega
    have h41 := spl_le41 (s := s) (by omega)
    have HR := hide (SRow.new w (spl s) (by unfold maxLen; omega))
    have HE := hide (fun p hp hb => errN_bad (s := s) (p := p) (by omega) hp hb)
    have HO := hide (errN_of (l := s) (by omega))
    have hmem : ∀ p ∈ spl s, p.length ≤ s.length := spl_le s
    obtain ⟨L, hL⟩ : ∃ L, (spl s).length = L := ⟨_, rfl⟩
    rw [hL] at hsp HR h41
    have HL := hide hL
    have HC : Hid (∀ j (hj : j < (spl s).length) (W : World), Below (w.heap.size + 1) (w.alloc (.cells (strV (spl s)).toArray 9)) W → W.cell? ⟨w.heap.size, j, none⟩ = some (.string (B ((spl s)[j]'hj)))) := by
      intro j hj W hW
      rw [hW.cell (p := ⟨w.heap.size, j, none⟩) (Nat.lt_succ_self _), World.cell?_alloc_at _ _ _ _ rfl]
      simp [strV, hj]
    have hs40 : s.length ≤ 40 := by omega
    clear hL hsz h40 hs
    generalize B s = t at *
    go_enter Tryz.func32, Tryz.ntmps32
    go_wp2_with (go_at_call 47; refine hsp.mono ?_; rintro e w' ⟨rfl, hw⟩; rw [hw])
    clear hsp
    go_loopw [6, 14] (fun _ i wr => ∃ k : Nat, k ≤ L ∧ i = .int .i64 k ∧ Hid (∀ j (hj : j < (spl s).length), j < k → okP ((spl s)[j]'hj) = true) ∧ Hid (Below (w.heap.size + 1) (w.alloc (.cells (strV (spl s)).toArray 9)) wr)) (fun _ i _ => L - (intOf i).toNat)
    case atStart => exact ⟨0, Nat.zero_le _, rfl, fun j _ hj => absurd hj (by omega), Below.refl _ _⟩
    case round =>
      obtain ⟨k, hk, rfl, HN, HB⟩ := hrel
      by_cases hlt : k < L
      · have hlt' : k < (spl s).length := by rw [unhide HL]; exact hlt
        have hcell := (unhide HC) k hlt' wr (unhide HB)
        have hz := (unhide HB).size
        have hlen := hmem _ (List.getElem_mem hlt')
        have HM := hide (List.getElem_mem hlt')
        have HQ := hide (fun h => (unhide HE) _ (unhide HM) h)
        have HN2 : Hid (okP ((spl s)[k]'hlt') = true → ∀ j (hj : j < (spl s).length), j < k + 1 → okP ((spl s)[j]'hj) = true) := by
          intro h j hj hjk
          by_cases e : j = k
          · subst e; exact h
          · exact (unhide HN) j hj (by omega)
        generalize (spl s)[k]'hlt' = q at *
        have hz2 : w.heap.size + 1 ≤ wr.heap.size := by simp at hz; omega
        clear HM
        have BAD : ∀ W, Hid (Below (w.heap.size + 1) (w.alloc (.cells (strV (spl s)).toArray 9)) W) → Hid (okP q = false) → Hid (SRow W w.heap.size (.slice none 0 0) (prow s) ∧ errN s = 1 ∧ Below w.heap.size w W) := by
          intro W h1 h2
          have he := (unhide HQ) (unhide h2)
          refine ⟨?_, he, (below_new w _).trans ((unhide h1).mono (Nat.le_succ _))⟩
          rw [prow_bad (by rw [he]; decide)]
          exact SRow.nil _ _
        by_cases h0 : q = []
        · subst h0
          have hcell2 : wr.cell? ⟨w.heap.size, k, none⟩ = some (.string ⟨#[]⟩) := hcell
          have HX := BAD wr HB rfl
          clear hcell BAD
          go_wp2
          go_ret2
          obtain ⟨x1, x2, x3⟩ := unhide HX
          rw [x2]
          exact ⟨_, rfl, x1, x3, fun _ => rfl⟩
        by_cases h1 : q = [46]
        · subst h1
          have hcell2 : wr.cell? ⟨w.heap.size, k, none⟩ = some (.string ⟨#[46]⟩) := hcell
          have HX := BAD wr HB rfl
          clear hcell BAD
          go_wp2
          go_ret2
          obtain ⟨x1, x2, x3⟩ := unhide HX
          rw [x2]
          exact ⟨_, rfl, x1, x3, fun _ => rfl⟩
        by_cases h2 : q = [46, 46]
        · subst h2
          have hcell2 : wr.cell? ⟨w.heap.size, k, none⟩ = some (.string ⟨#[46, 46]⟩) := hcell
          have HX := BAD wr HB rfl
          clear hcell BAD
          go_wp2
          go_ret2
          obtain ⟨x1, x2, x3⟩ := unhide HX
          rw [x2]
          exact ⟨_, rfl, x1, x3, fun _ => rfl⟩
        have HOK := hide (okP_trim h0 h1 h2)
        have e0 := str_none (B q) h0
        have e1 := str_ne (B q) [46] h1
        have e2 := str_ne (B q) [46, 46] h2
        have cT := trimS q wr (by unfold maxLen; omega)
        clear h0 h1 h2
        generalize B q = qb at *
        by_cases ht : Lib.trimS q cutset = []
        · have HO2 := hide ((unhide HOK).2 ht)
          have hB : B (Lib.trimS q cutset) = ⟨#[]⟩ := by rw [ht]; rfl
          rw [hB] at cT
          clear ht hB HOK BAD
          go_wp2_with (go_at_call 48; refine cT.mono ?_; rintro e w1 ⟨rfl, hb1⟩; have HB1 := hide ((unhide HB).trans (hb1.mono hz2)); clear hb1)
          go_roundw
          case rel => exact ⟨k + 1, by omega, by go_num, (unhide HN2) (unhide HO2), unhide HB1⟩
          case measure => simp [intOf]; omega
        · have HO2 : Hid (okP q = false) := by
            cases ho : okP q with
            | false => rfl
            | true => exact absurd ((unhide HOK).1 ho) ht
          have et := str_none (B (Lib.trimS q cutset)) ht
          clear ht HOK
          generalize B (Lib.trimS q cutset) = tb at *
          have HBAD := hide BAD
          clear BAD
          go_wp2_with (go_at_call 48; refine cT.mono ?_; rintro e w1 ⟨rfl, hb1⟩; have HB1 := hide ((unhide HB).trans (hb1.mono hz2)); clear hb1)
          go_ret2
          obtain ⟨x1, x2, x3⟩ := unhide ((unhide HBAD) w1 HB1 HO2)
          rw [x2]
          exact ⟨_, rfl, x1, x3, fun _ => rfl⟩
      · obtain rfl : k = L := by omega
        have HZ : Hid (errN s = 0) := (unhide HO) (by
          rw [List.all_eq_true]
          intro p hp
          obtain ⟨j, hj, rfl⟩ := List.mem_iff_getElem.1 hp
          exact (unhide HN) j hj (by rw [unhide HL] at hj; exact hj))
        go_wp2
        go_ret2
        rw [prow_ok (unhide HZ), unhide HZ]
        refine ⟨_, rfl, ?_, (below_new w _).trans ((unhide HB).mono (Nat.le_succ _)), fun h => absurd rfl h⟩
        exact (unhide HR).below (by simpa using unhide HB)
end Go.Proofs.YtmgmganbamjnmaaGreatDoor

/-
  Worlds, of lists alone: what a right one is.
-/
namespace Go.Proofs.YtmgmganbamjnmaaGreatDoor
open Go.RowKit
set_option linter.unusedVariables false
set_option linter.unusedSimpArgs false

/-- a node that is right -/
structure NdOk (l : List Fl) (c : Int) : Prop where
  m : errM l = 0
  lo : 0 ≤ c
  hi : c ≤ 1000000
  st : ∀ f ∈ l, f.stamp ≤ c
theorem errNd_zero {l : List Fl} {c : Int} : errNd l c = 0 ↔ NdOk l c := by
  unfold errNd
  constructor
  · intro h
    by_cases h0 : errM l = 0
    · rw [if_neg (by simp [h0])] at h
      by_cases h1 : c < 0 ∨ 1000000 < c ∨ c < rsd c l
      · rw [if_pos h1] at h; cases h
      · exact ⟨h0, by omega, by omega, rsd_iff.1 (by omega)⟩
    · rw [if_pos h0] at h; exact absurd h h0
  · intro h
    have := rsd_iff.2 h.st
    have h1 := h.lo
    have h2 := h.hi
    rw [if_neg (by simp [h.m]), if_neg (by omega)]
theorem errNs_zero : ∀ {ls : List (List Fl)} {cs : List Int}, errNs ls cs = 0 ↔ ∀ (k : Nat) (l : List Fl) (c : Int), ls[k]? = some l → cs[k]? = some c → NdOk l c
  | [], cs => by simp [errNs]
  | l :: r, [] => by simp [errNs]
  | l :: r, c :: s => by
    have ih := @errNs_zero r s
    constructor
    · intro h k l' c' h1 h2
      have hd : errNs (l :: r) (c :: s) = if errNd l c ≠ 0 then errNd l c else errNs r s := rfl
      rw [hd] at h
      by_cases h0 : errNd l c = 0
      · rw [if_neg (by simp [h0])] at h
        cases k with
        | zero => cases h1; cases h2; exact errNd_zero.1 h0
        | succ k => exact ih.1 h k l' c' (by simpa using h1) (by simpa using h2)
      · rw [if_pos h0] at h; exact absurd h h0
    · intro h
      have hd : errNs (l :: r) (c :: s) = if errNd l c ≠ 0 then errNd l c else errNs r s := rfl
      have h0 := errNd_zero.2 (h 0 l c rfl rfl)
      rw [hd, if_neg (by simp [h0])]
      exact ih.2 (fun k l' c' h1 h2 => h (k + 1) l' c' (by simpa using h1) (by simpa using h2))
structure MsOk (n : Nat) (m : Ms) : Prop where
  fl : errM m.files = 0
  lo : 0 ≤ m.dst
  hi : m.dst < n
theorem isP_true {k : Int} {n : Nat} : isP k n = true ↔ 0 ≤ k ∧ k < n := by unfold isP; rw [decide_eq_true_iff]
theorem isP_false {k : Int} {n : Nat} : isP k n = false ↔ ¬ (0 ≤ k ∧ k < n) := by unfold isP; rw [decide_eq_false_iff_not]
theorem isP_nat {k n : Nat} (h : k < n) : isP (k : Int) n = true := isP_true.2 ⟨by omega, by omega⟩
theorem errMs_zero {n : Nat} : ∀ {ms : List Ms}, errMs n ms = 0 ↔ ∀ m ∈ ms, MsOk n m
  | [] => by simp [errMs]
  | m :: r => by
    have ih := @errMs_zero n r
    have hd : errMs n (m :: r) = if errM m.files ≠ 0 then errM m.files else if isP m.dst n = false then 5 else errMs n r := rfl
    rw [hd]
    constructor
    · intro h x hx
      by_cases h0 : errM m.files = 0
      · rw [if_neg (by simp [h0])] at h
        by_cases h1 : isP m.dst n = false
        · rw [if_pos h1] at h; cases h
        · rw [if_neg h1] at h
          rcases List.mem_cons.1 hx with rfl | hx
          · have := isP_true.1 (by simpa using h1)
            exact ⟨h0, this.1, this.2⟩
          · exact ih.1 h x hx
      · rw [if_pos h0] at h; exact absurd h h0
    · intro h
      have h0 := h m List.mem_cons_self
      rw [if_neg (by simp [h0.fl]), if_neg (by rw [isP_true.2 ⟨h0.lo, h0.hi⟩]; decide)]
      exact ih.2 (fun x hx => h x (List.mem_cons_of_mem _ hx))
/-- a right world -/
structure WdOk (W : Wd) : Prop where
  lo : 1 ≤ W.nodes.length
  hi : W.nodes.length ≤ 4
  cl : W.clock.length = W.nodes.length
  nt : W.net.length ≤ 20
  nd : ∀ (k : Nat) (l : List Fl) (c : Int), W.nodes[k]? = some l → W.clock[k]? = some c → NdOk l c
  ms : ∀ m ∈ W.net, MsOk W.nodes.length m
theorem errWd_zero {W : Wd} : errWd W = 0 ↔ WdOk W := by
  unfold errWd
  constructor
  · intro h
    by_cases h1 : W.nodes.length < 1 ∨ 4 < W.nodes.length ∨ W.clock.length ≠ W.nodes.length
    · rw [if_pos h1] at h; cases h
    · rw [if_neg h1] at h
      by_cases h2 : 20 < W.net.length
      · rw [if_pos h2] at h; cases h
      · rw [if_neg h2] at h
        by_cases h3 : errNs W.nodes W.clock = 0
        · rw [if_neg (by simp [h3])] at h
          exact ⟨by omega, by omega, by omega, by omega, errNs_zero.1 h3, errMs_zero.1 h⟩
        · rw [if_pos h3] at h; exact absurd h h3
  · intro h
    have h1 := h.lo
    have h2 := h.hi
    have h3 := h.cl
    have h4 := h.nt
    rw [if_neg (by omega), if_neg (by omega), if_neg (by simp [errNs_zero.2 h.nd])]
    exact errMs_zero.2 h.ms
theorem WdOk.node {W : Wd} (h : WdOk W) {k : Nat} (hk : k < W.nodes.length) : ∃ l c, W.nodes[k]? = some l ∧ W.clock[k]? = some c ∧ NdOk l c := by
  have hk2 : k < W.clock.length := by rw [h.cl]; exact hk
  exact ⟨_, _, List.getElem?_eq_getElem hk, List.getElem?_eq_getElem hk2, h.nd k _ _ (List.getElem?_eq_getElem hk) (List.getElem?_eq_getElem hk2)⟩
end Go.Proofs.YtmgmganbamjnmaaGreatDoor
