/-
  Package gz: Unpack.
-/
import Derived.Test.YtfoaaamcpknjnadGreatQ3
import Derived.Test.YtfoaaamcpknjnadGreatQ22
namespace Go.Proofs.YtfoaaamcpknjnadGreat
open Go.RowKit
set_option linter.unusedVariables false
set_option linter.unusedSimpArgs false
set_option maxRecDepth 100000

def gzI (bs : List Nat) : US := iunpk (rowB (bs.drop 10) (bs.length - 10))
/-- what is wrong with these bytes -/
def gzE (bs : List Nat) : Int := if 6000 < bs.length then 2 else if bs.length < 10 ∨ bs.take 10 ≠ headL then 4 else if (gzI bs).e ≠ 0 then (gzI bs).e else chkT (bs.drop (10 + ((gzI bs).p + 7) / 8)) (tailL (crcN 0 (gzI bs).out) (gzI bs).out.length)
/-- what Unpack answers -/
def GzU (bs : List Nat) (w : World) (e : Ending) (w' : World) : Prop :=
  Below w.heap.size w w' ∧ ((gzE bs = 0 ∧ ∃ a c, e = .returned (.tuple #[.slice a (gzI bs).out.length c, .int .i64 0]) ∧ BytesIn w' a (gzI bs).out) ∨ (gzE bs ≠ 0 ∧ e = .returned (.tuple #[.slice none 0 0, .int .i64 (gzE bs)])))
theorem BytesIn.from {w : World} {b o : Nat} {xs : List Nat} (hb : b < w.heap.size) (h : Bytes w b o xs) (k : Nat) : Bytes w b (o + k) (xs.drop k) := fun j hj => by
  have hj2 : k + j < xs.length := by rw [List.length_drop] at hj; omega
  have e : (xs.drop k).getD j 0 = xs.getD (k + j) 0 := by simp only [List.getD]; rw [List.getElem?_drop]
  rw [e, Nat.add_assoc]
  exact h (k + j) hj2
theorem drop_val {xs : List Nat} (h : ∀ j, xs.getD j 0 < 256) (k j : Nat) : (xs.drop k).getD j 0 < 256 := by
  have e : (xs.drop k).getD j 0 = xs.getD (k + j) 0 := by simp only [List.getD]; rw [List.getElem?_drop]
  rw [e]; exact h _
theorem take_val10 {xs : List Nat} (h : ∀ j, xs.getD j 0 < 256) (q j : Nat) : (xs.take q).getD j 0 < 256 := by
  by_cases hj : j < q
  · have e : (xs.take q).getD j 0 = xs.getD j 0 := by simp only [List.getD]; rw [List.getElem?_take_of_lt hj]
    rw [e]; exact h j
  · simp only [List.getD]
    rw [List.getElem?_eq_none (by rw [List.length_take]; omega)]
    decide
theorem gz_many (a : Option Addr) (n cap : Nat) (bs : List Nat) (w : World) (hl : bs.length = n) (hm : n ≤ 9223372036854775807) (hn : 6000 < n) :
    Calls Tryz.prog 12 #[.slice a n cap] w fun e w' => GzU bs w e w' := by
  have HE : Hid (gzE bs = 2) := hide (by unfold gzE; rw [if_pos (by omega)])
  have hnI : (6000 : Int) < (n : Int) := by omega
  go_enter Tryz.func12, Tryz.ntmps12
  go_wp2
  refine bodyPost_ret (v := .tuple #[.slice none 0 0, .int .i64 2]) ?_ rfl ⟨Below.refl _ _, .inr ⟨by rw [unhide HE]; decide, by rw [unhide HE]⟩⟩
  first | rfl | kernel_rfl
theorem gz_short (a : Option Addr) (n cap : Nat) (bs : List Nat) (w : World) (hl : bs.length = n) (hn : n < 10) :
    Calls Tryz.prog 12 #[.slice a n cap] w fun e w' => GzU bs w e w' := by
  have HE : Hid (gzE bs = 4) := hide (by unfold gzE; rw [if_neg (by omega), if_pos (.inl (by omega))])
  have hnI : ¬ (6000 : Int) < (n : Int) := by omega
  have hnJ : decide ((n : Int) < 10) = true := by rw [decide_eq_true_eq]; omega
  have hnK : (n : Int) < 10 := by omega
  go_enter Tryz.func12, Tryz.ntmps12
  go_wp2
  go_quiet (fail)
  go_wp2
  refine bodyPost_ret (v := .tuple #[.slice none 0 0, .int .i64 4]) ?_ rfl ⟨below_drewN (Below.refl _ _) _, .inr ⟨by rw [unhide HE]; decide, by rw [unhide HE]⟩⟩
  first | rfl | kernel_rfl

set_option maxHeartbeats 4000000 in
theorem gz_long (b o n cap : Nat) (bs : List Nat) (w : World) (hl : bs.length = n) (hn : 10 ≤ n) (hn6 : n ≤ 6000) (hcap : n ≤ cap) (hb : b < w.heap.size) (hB : Bytes w b o bs) (hv : ∀ j, bs.getD j 0 < 256) :
    Calls Tryz.prog 12 #[.slice (some ⟨b, o, none⟩) n cap] w fun e w' => GzU bs w e w' := by
  have hnI : ¬ (6000 : Int) < (n : Int) := by omega
  have hnK : ¬ (n : Int) < 10 := by omega
  have hx10 : (bs.take 10).length = 10 := by rw [List.length_take]; omega
  have hne := fun W => neq10 (bs.take 10) headL W hx10 rfl (take_val10 hv 10) head_val
  have HR : w.rangeAt b o (u8s (bs.take 10)) := Bytes.range (fun j hj => by
    have hj2 : j < 10 ∧ j < bs.length := by rw [List.length_take] at hj; omega
    have e : (bs.take 10).getD j 0 = bs.getD j 0 := by simp only [List.getD]; rw [List.getElem?_take_of_lt hj2.1]
    rw [e]; exact hB j hj2.2)
  have har : ∀ (a : Option Addr) (c : Nat) (W : World), (Instr.arrayAt 42 (.slice a n c)).run Tryz.prog W = .ok (.pointer a) W := fun a c W => run_arrayAt _ _ _ _ _ _ _ Tryz.underlying42 (by omega)
  have hu10 := Tryz.underlying42
  have hi10 : (Tryz.prog.info? 42).map (·.size) = some (u8s (bs.take 10)).length := by rw [info10]; simp; omega
  have HH := hide (fun q => head_any (w.drewN q))
  have hgd : Tryz.prog.eqGuardType Tryz.prog.depth 42 = false := by kernel_rfl
  obtain ⟨q, hq⟩ : ∃ q, (bs.take 10 == headL) = q := ⟨_, rfl⟩
  have HQ := hide hq
  rw [hq] at hne
  have HBD : Hid (∀ (W : World) (x : Option Addr) (m : Nat), Below w.heap.size w W → (x = some ⟨b, o + m, none⟩ ∨ n ≤ m) → BytesIn W x (bs.drop m)) := hide (fun W x m hW hx => by
    rcases hx with rfl | hx
    · exact .inr ⟨b, o + m, rfl, by have := hW.size; omega, fun j hj => (hW.cell (p := ⟨b, o + m + j, none⟩) hb).trans (BytesIn.from hb hB m j hj)⟩
    · exact .inl (List.drop_eq_nil_of_le (by omega)))
  have HC1 : Hid (∀ (W : World) (x : Option Addr) (c : Nat), Below w.heap.size w W → (x = some ⟨b, o + 10, none⟩ ∨ n ≤ 10) → Calls Tryz.prog 20 #[.slice x (n - 10) c] W fun e w' => Unpd W (bs.drop 10) (n - 10) e w') := hide (fun W x c hW hx => unpackAll_any x (n - 10) c (bs.drop 10) W (by rw [List.length_drop, hl]) (by omega) (unhide HBD W x 10 hW hx) (drop_val hv 10))
  have HIS : Hid (gzI bs = iunpk (rowB (bs.drop 10) (n - 10))) := hide (by unfold gzI; rw [hl])
  have HCT : Hid (∀ (W : World) (x ao : Option Addr) (m c co : Nat) (out : List Nat), Below w.heap.size w W → (x = some ⟨b, o + m, none⟩ ∨ n ≤ m) → BytesIn W ao out → (∀ j, out.getD j 0 < 256) → out.length ≤ 3000 → Calls Tryz.prog 21 #[.slice x (n - m) c, .slice ao out.length co] W fun e w' => e = .returned (.int .i64 (chkT (bs.drop m) (tailL (crcN 0 out) out.length))) ∧ Below W.heap.size W w') := hide (fun W x ao m c co out hW hx h1 h2 h3 => checkTail_any x ao (n - m) c out.length co (bs.drop m) out W (by rw [List.length_drop, hl]) (by omega) (unhide HBD W x m hW hx) (drop_val hv m) rfl (by omega) h1 h2)
  obtain ⟨XH, hXH⟩ : ∃ XH, u8s (bs.take 10) = XH := ⟨_, rfl⟩
  obtain ⟨HL, hHL⟩ : ∃ HL, u8s headL = HL := ⟨_, rfl⟩
  simp only [hXH, hHL] at hne HR hi10 HH
  have HB := hide hB
  have HV := hide hv
  have HLL := hide hl
  clear hq hB hv hXH hHL hl
  go_enter Tryz.func12, Tryz.ntmps12
  go_wp2
  refine wp_region_held_drew (S := fun w' => w'.rangeAt b o XH) (by kernel_rfl) HR (fun hHeld => ?_)
  refine wpAnyH_take (i := 0) (v := .slice (some ⟨b, o, none⟩) n cap) rfl (by kernel_rfl) (by kernel_rfl) (by kernel_rfl) (fun _ _ _ h => h) (Or.inl ⟨by rfl, fun W hS => by go_simp⟩) hHeld ?_
  simp only [Act.put, List.setIfInBounds_toArray, List.set_cons_zero, List.set_cons_succ]
  refine wpAnyH_take (i := 1) (v := .int .i64 (n : Int)) rfl (by kernel_rfl) (by kernel_rfl) (by kernel_rfl) (fun _ _ _ h => h) (Or.inl ⟨by rfl, fun W hS => by go_simp⟩) hHeld ?_
  simp only [Act.put, List.setIfInBounds_toArray, List.set_cons_zero, List.set_cons_succ]
  refine wpAnyH_take (i := 2) (v := .bool false) rfl (by kernel_rfl) (by kernel_rfl) (by kernel_rfl) (fun _ _ _ h => h) (Or.inl ⟨by rfl, fun W hS => by go_simp⟩) hHeld ?_
  simp only [Act.put, List.setIfInBounds_toArray, List.set_cons_zero, List.set_cons_succ]
  refine wpAnyH_take (i := 3) (v := .bool false) rfl (by kernel_rfl) (by kernel_rfl) (by kernel_rfl) (fun _ _ _ h => h) (Or.inl ⟨by rfl, fun W hS => by go_simp⟩) hHeld ?_
  simp only [Act.put, List.setIfInBounds_toArray, List.set_cons_zero, List.set_cons_succ]
  refine wpAnyH_take (i := 4) (v := .slice (some ⟨b, o, none⟩) n cap) rfl (by kernel_rfl) (by kernel_rfl) (by kernel_rfl) (fun _ _ _ h => h) (Or.inl ⟨by rfl, fun W hS => by go_simp⟩) hHeld ?_
  simp only [Act.put, List.setIfInBounds_toArray, List.set_cons_zero, List.set_cons_succ]
  refine wpAnyH_take (i := 5) (v := .pointer (some ⟨b, o, none⟩)) rfl (by kernel_rfl) (by kernel_rfl) (by kernel_rfl) (fun _ _ _ h => h) (Or.inl ⟨by rfl, fun W hS => by go_simp⟩) hHeld ?_
  simp only [Act.put, List.setIfInBounds_toArray, List.set_cons_zero, List.set_cons_succ]
  refine wpAnyH_take (i := 6) (v := .agg XH.toArray) rfl (by kernel_rfl) (by kernel_rfl) (by kernel_rfl) (fun _ _ _ h => h) (yieldsIf_load_mid (by rfl) _ _ rfl _ _ rfl _ _ (fun _ h => h) hu10 rfl hi10) hHeld ?_
  simp only [Act.put, List.setIfInBounds_toArray, List.set_cons_zero, List.set_cons_succ]
  refine wpAnyH_ready (rs := [7]) (by kernel_rfl) (by simp) (AllReadyH.cons rfl (fun K hK => ?_) AllReadyH.nil)
  go_simp
  refine (unhide HH _).mono ?_
  rintro e w4 ⟨rfl, hB4⟩
  have HB4 : Hid (Below w.heap.size w w4) := hide ((below_drewN (Below.refl _ _) _).trans hB4)
  have hr4 : w4.rangeAt b o XH := fun j v hv => ((unhide HB4).cell (p := ⟨b, o + j, none⟩) hb).trans (HR j v hv)
  clear hB4
  dsimp only
  refine hK.out _ _ hr4 (fun hHeld4 => ?_)
  clear hK K hHeld
  refine wpAnyH_ready (rs := [8]) (by kernel_rfl) (by simp) (AllReadyH.cons rfl (fun K hK => ?_) AllReadyH.nil)
  go_simp
  refine hK.out _ _ hHeld4 (fun hHeld5 => ?_)
  clear hK K hHeld4
  refine wpAnyH_ready (rs := [9]) (by kernel_rfl) (by simp) (AllReadyH.cons rfl (fun K hK => ?_) AllReadyH.nil)
  go_simp
  refine hK.out _ _ hHeld5 (fun hHeld6 => ?_)
  clear hK K hHeld5
  refine wpAnyH_done (by kernel_rfl) ?_ _
  clear hne HR har hu10 hi10 hgd hr4 hHeld6
  cases q with
  | false =>
    have HE : Hid (gzE bs = 4) := hide (by unfold gzE; rw [if_neg (by rw [unhide HLL]; omega), if_pos (.inr (by have := unhide HQ; simpa using this))])
    go_wp2
    refine bodyPost_ret (v := .tuple #[.slice none 0 0, .int .i64 4]) ?_ rfl ⟨unhide HB4, .inr ⟨by rw [unhide HE]; decide, by rw [unhide HE]⟩⟩
    first | rfl | kernel_rfl
  | true =>
    have HE : Hid (gzE bs = if (gzI bs).e ≠ 0 then (gzI bs).e else chkT (bs.drop (10 + ((gzI bs).p + 7) / 8)) (tailL (crcN 0 (gzI bs).out) (gzI bs).out.length)) := hide (by unfold gzE; rw [if_neg (by rw [unhide HLL]; omega), if_neg (by rw [unhide HLL]; rintro (h | h); omega; exact h (by have := unhide HQ; simpa using this))])
    by_cases hc10 : cap = 10
    · go_wp2_with fail
      refine (unhide HC1 w4 _ _ (unhide HB4) (.inr (by omega))).mono ?_
      rintro e w5 ⟨hB5, hd⟩
      rcases hd with ⟨e0, ov, kv, rfl, ho, hk⟩ | ⟨e0, rfl⟩
      · have := iunpk_ahd (rowB (bs.drop 10) (n - 10)) (n - 10) (rowB_length _ _) e0
        rw [rowB_length] at this
        omega
      · have HF : Hid (gzE bs = (iunpk (rowB (bs.drop 10) (n - 10))).e) := hide (by rw [unhide HE, unhide HIS, if_pos e0])
        obtain ⟨E, hE⟩ : ∃ E, (iunpk (rowB (bs.drop 10) (n - 10))).e = E := ⟨_, rfl⟩
        rw [hE] at e0 HF ⊢
        have hEb : (E != 0) = true := by rw [bne_iff_ne]; exact e0
        have HB5 := hide ((unhide HB4).trans (hB5.mono (unhide HB4).size))
        have HE0 := hide e0
        clear hE hB5 e0
        go_wp2
        refine bodyPost_ret (v := .tuple #[.slice none 0 0, .int .i64 E]) ?_ rfl ⟨unhide HB5, .inr ⟨by rw [unhide HF]; exact unhide HE0, by rw [unhide HF]⟩⟩
        first | rfl | kernel_rfl
    · go_wp2_with fail
      refine (unhide HC1 w4 _ _ (unhide HB4) (.inl rfl)).mono ?_
      rintro e w5 ⟨hB5, hd⟩
      rcases hd with ⟨e0, ov, kv, rfl, ho, hk⟩ | ⟨e0, rfl⟩
      · have hah := iunpk_ahd (rowB (bs.drop 10) (n - 10)) (n - 10) (rowB_length _ _) e0
        have hval := iunpk_val (rowB (bs.drop 10) (n - 10)) (n - 10) (rowB_length _ _) e0
        rw [rowB_length] at hah
        have HF : Hid (gzE bs = chkT (bs.drop (10 + ((iunpk (rowB (bs.drop 10) (n - 10))).p + 7) / 8)) (tailL (crcN 0 (iunpk (rowB (bs.drop 10) (n - 10))).out) (iunpk (rowB (bs.drop 10) (n - 10))).out.length)) := hide (by rw [unhide HE, unhide HIS, if_neg (fun c => c e0)])
        obtain ⟨U, hU⟩ : ∃ U, iunpk (rowB (bs.drop 10) (n - 10)) = U := ⟨_, rfl⟩
        rw [hU] at hah hval HF HIS ho hk ⊢
        obtain ⟨k, hk7⟩ : ∃ k, (U.p + 7) / 8 = k := ⟨_, rfl⟩
        rw [hk7] at HF ⊢
        have hkn : k ≤ n - 10 := by omega
        obtain ⟨_, ao, co, rfl, hbo⟩ := BytesIn.ofOwn ho
        obtain ⟨a2, c2, rfl⟩ := own_slice' hk
        have HB5 := hide ((unhide HB4).trans (hB5.mono (unhide HB4).size))
        have HBO := hide hbo
        obtain ⟨m, hm⟩ : ∃ m, 10 + k = m := ⟨_, rfl⟩
        have HCC := hide (fun x c hx => unhide HCT w5 x ao m c co U.out (unhide HB5) hx hbo hval hah.2.2.1)
        rw [hm] at HF
        obtain ⟨T, hT⟩ : ∃ T, chkT (bs.drop m) (tailL (crcN 0 U.out) U.out.length) = T := ⟨_, rfl⟩
        rw [hT] at HF HCC
        obtain ⟨L, hL⟩ : ∃ L, U.out.length = L := ⟨_, rfl⟩
        rw [hL] at HCC ⊢
        have HL := hide hL
        have hmI : (10 : Int) + (k : Int) = (m : Int) := by omega
        have hmn : (m : Int) ≤ (n : Int) := by omega
        have hmc : (m : Int) ≤ (cap : Int) := by omega
        have hnc : (n : Int) ≤ (cap : Int) := by omega
        clear hah hval hU hk7 hm hT hL ho hk hbo hB5 e0 HCT HC1 HBD
        by_cases hcm : cap = m
        · go_wp2_with fail
          refine (unhide HCC _ _ (.inr (by omega))).mono ?_
          rintro e w6 ⟨rfl, hB6⟩
          have HB6 := hide ((unhide HB5).trans (hB6.mono (unhide HB5).size))
          have HBO6 := hide ((unhide HBO).below hB6 (Nat.le_refl _))
          clear hB6
          by_cases hT0 : T = 0
          · have HFN : Hid (GzU bs w (.returned (.tuple #[.slice ao L co, .int .i64 0])) w6) := hide ⟨unhide HB6, .inl ⟨by rw [unhide HF]; exact hT0, ao, co, by rw [unhide HIS, unhide HL], by rw [unhide HIS]; exact unhide HBO6⟩⟩
            subst hT0
            go_wp2
            refine bodyPost_ret (v := .tuple #[.slice ao L co, .int .i64 0]) ?_ rfl (unhide HFN)
            first | rfl | kernel_rfl
          · have hTb : (T != 0) = true := by rw [bne_iff_ne]; exact hT0
            have HFN : Hid (GzU bs w (.returned (.tuple #[.slice none 0 0, .int .i64 T])) w6) := hide ⟨unhide HB6, .inr ⟨by rw [unhide HF]; exact hT0, by rw [unhide HF]⟩⟩
            clear hT0
            go_wp2
            refine bodyPost_ret (v := .tuple #[.slice none 0 0, .int .i64 T]) ?_ rfl (unhide HFN)
            first | rfl | kernel_rfl
        · go_wp2_with fail
          refine (unhide HCC _ _ (.inl rfl)).mono ?_
          rintro e w6 ⟨rfl, hB6⟩
          have HB6 := hide ((unhide HB5).trans (hB6.mono (unhide HB5).size))
          have HBO6 := hide ((unhide HBO).below hB6 (Nat.le_refl _))
          clear hB6
          by_cases hT0 : T = 0
          · have HFN : Hid (GzU bs w (.returned (.tuple #[.slice ao L co, .int .i64 0])) w6) := hide ⟨unhide HB6, .inl ⟨by rw [unhide HF]; exact hT0, ao, co, by rw [unhide HIS, unhide HL], by rw [unhide HIS]; exact unhide HBO6⟩⟩
            subst hT0
            go_wp2
            refine bodyPost_ret (v := .tuple #[.slice ao L co, .int .i64 0]) ?_ rfl (unhide HFN)
            first | rfl | kernel_rfl
          · have hTb : (T != 0) = true := by rw [bne_iff_ne]; exact hT0
            have HFN : Hid (GzU bs w (.returned (.tuple #[.slice none 0 0, .int .i64 T])) w6) := hide ⟨unhide HB6, .inr ⟨by rw [unhide HF]; exact hT0, by rw [unhide HF]⟩⟩
            clear hT0
            go_wp2
            refine bodyPost_ret (v := .tuple #[.slice none 0 0, .int .i64 T]) ?_ rfl (unhide HFN)
            first | rfl | kernel_rfl
      · have HF : Hid (gzE bs = (iunpk (rowB (bs.drop 10) (n - 10))).e) := hide (by rw [unhide HE, unhide HIS, if_pos e0])
        obtain ⟨E, hE⟩ : ∃ E, (iunpk (rowB (bs.drop 10) (n - 10))).e = E := ⟨_, rfl⟩
        rw [hE] at e0 HF ⊢
        have hEb : (E != 0) = true := by rw [bne_iff_ne]; exact e0
        have HB5 := hide ((unhide HB4).trans (hB5.mono (unhide HB4).size))
        have HE0 := hide e0
        clear hE hB5 e0
        go_wp2
        refine bodyPost_ret (v := .tuple #[.slice none 0 0, .int .i64 E]) ?_ rfl ⟨unhide HB5, .inr ⟨by rw [unhide HF]; exact unhide HE0, by rw [unhide HF]⟩⟩
        first | rfl | kernel_rfl
theorem gzUnpack_any (a : Option Addr) (n cap : Nat) (bs : List Nat) (w : World) (hl : bs.length = n) (hm : n ≤ 9223372036854775807) (hcap : n ≤ cap) (hby : BytesIn w a bs) (hv : ∀ j, bs.getD j 0 < 256) :
    Calls Tryz.prog 12 #[.slice a n cap] w fun e w' => GzU bs w e w' := by
  by_cases h1 : 6000 < n
  · exact gz_many a n cap bs w hl hm h1
  by_cases h2 : n < 10
  · exact gz_short a n cap bs w hl h2
  obtain ⟨b, o, rfl, hb, hB⟩ := bytesIn_some hby (by omega)
  exact gz_long b o n cap bs w hl (by omega) (by omega) hcap hb hB hv
end Go.Proofs.YtfoaaamcpknjnadGreat
