/-
  The law BlockPack answers true for all parts and all kinds: any parts are packed, each by its kind, so that the document unpacks them, in no more bits than it says, errors too. No condition is asked.
-/
import Derived.Test.YtekgcoajgbpniacGreatQ51
import Derived.Test.YtekgcoajgbpniacGreatQ52
import Derived.SizedLaws
import Derived.Deep.Matrix
namespace Go.Proofs.YtekgcoajgbpniacGreat.blockPack
open Go.ChangeShapes Go.WideShapes Go.ChangeAt Go.RowKit Go.Deep
set_option linter.unusedVariables false

theorem bytes5 : Tryz.prog.bytesOf 5 = 1 := by kernel_rfl
theorem cellsP : Tryz.prog.cellsOf 24 = 1 := by kernel_rfl

theorem walk (b o cp np nk ck : Nat) (ap bk : Option Addr) (A : Nat → Option Addr) (C : Nat → Nat) (bss : List (List Nat)) (ks : List Int) (w : World) (hp : bss.length = np) (hkl : ks.length = nk) (hP : 0 < np → ap = some ⟨b, o, none⟩ ∧ PartsIn w b o A C bss) (hK : RowIn .i64 w bk ks) (hbig : ∀ j, j < np → (bss.getD j []).length ≤ 140737488351232) (hmp : np ≤ maxLen) (hmk : nk ≤ maxLen) :
    Calls Tryz.prog 3 #[.slice ap np cp, .slice bk nk ck] w fun e w' => e = .returned (.bool true) ∧ Below w.heap.size w w' := by
  unfold maxLen at hmp hmk
  by_cases h0 : np = 0
  · subst h0
    exact blockPack_none ap bk cp nk ck ks w hkl hK
  · obtain ⟨rfl, hPP⟩ := hP (by omega)
    by_cases h1 : np = nk
    · subst h1
      rcases hK with hk0 | ⟨b2, o2, rfl, hb2, hK⟩
      · rw [hk0] at hkl; simp at hkl; omega
      · by_cases hE : chkP (bss.map List.length) ks 0 0 = 0
        · exact blockPack_ok b o cp b2 o2 np ck A C bss ks w hp hkl hPP hb2 hK hbig (by unfold errP; rw [if_neg (by rw [List.length_map, hkl, hp]; omega)]; exact hE)
        · exact blockPack_bad b o cp b2 o2 np ck A C bss ks w hp hkl hPP hb2 hK hbig (by omega) (by omega) _ rfl hE
    · exact blockPack_form b o cp np nk ck bk A C bss ks w hp hkl hPP hK (by omega) h1 (by omega) (by omega)

theorem weightsAll_mem {H : Type} {P : Program} {e : TypeId} : ∀ {ds : List (DataW H)} {d : DataW H}, d ∈ ds → ∀ n ∈ d.weights P e, n ∈ DataW.weightsAll P e ds
  | x :: r, d, h, n, hn => by
    simp only [DataW.weightsAll, List.mem_append]
    rcases List.mem_cons.1 h with e | e
    · subst e; exact .inl hn
    · exact .inr (weightsAll_mem e n hn)
  | [], d, h, n, hn => by cases h
theorem row_bytes {w : World} {ar : Option Addr} {L C : Nat} {Z : List Int} (hl : L ≤ C) (hz : Z.length = C) (hwf : ∀ n ∈ Z, (Lit.int .u8 n).wf = true) (hnil : ar = none → C = 0) (hc : ∀ a', ar = some a' → ∀ c, c < C → w.cell? (a'.add c) = some (.int .u8 (Z.getD c 0))) :
    ((Z.take L).map Int.toNat).length = L ∧ (∀ j, ((Z.take L).map Int.toNat).getD j 0 < 256) ∧ BytesIn w ar ((Z.take L).map Int.toNat) := by
  have hb : ∀ j, j < Z.length → 0 ≤ Z.getD j 0 ∧ Z.getD j 0 ≤ 255 := by
    intro j hj
    have hmem : Z.getD j 0 ∈ Z := by simp [List.getD, hj]
    have := hwf _ hmem
    simpa [Lit.wf, IntKind.min, IntKind.max, IntKind.signed, IntKind.bits] using this
  have e1 : ∀ j, j < L → ((Z.take L).map Int.toNat).getD j 0 = (Z.getD j 0).toNat := by
    intro j hj
    have : j < Z.length := by omega
    simp [List.getD, hj, this]
  have hlen : ((Z.take L).map Int.toNat).length = L := by simp; omega
  refine ⟨hlen, ?_, ?_⟩
  · intro j
    by_cases hj : j < L
    · rw [e1 j hj]
      have := hb j (by omega)
      omega
    · rw [List.getD_eq_getElem?_getD, List.getElem?_eq_none (by rw [hlen]; omega)]; simp
  · by_cases h0 : L = 0
    · subst h0
      exact .inl rfl
    · cases ar with
      | none => have := hnil rfl; omega
      | some a =>
        obtain ⟨b, o, spot⟩ := a
        have h1 := hc _ rfl 0 (by omega)
        have hspot : spot = none := by simpa [Addr.add] using World.cell?_spot h1
        subst hspot
        refine .inr ⟨b, o, rfl, ?_, ?_⟩
        · have := World.block_lt_of_cell? _ _ h1
          simpa [Addr.add] using this
        · intro j hj
          have hj' : j < L := by rw [hlen] at hj; exact hj
          have h2 := hc _ rfl j (by omega)
          rw [e1 j hj', Int.toNat_of_nonneg (hb j (by omega)).1]
          rw [add_plain] at h2
          exact h2
set_option maxRecDepth 100000 in
theorem open_parts {H : Type} {enc : TypeId × Value → H} {w : World} {fuel : Nat} {a0 : Option Addr} {l0 c0 : Nat} {d : DataW H} {p : List MemPlace}
    (h : DataW.trod enc Tryz.prog w 0 (fun _ => true) true fuel 22 [.slice a0 l0 c0] = some (d, p)) (lt : ∀ x ∈ p, x.block < w.heap.size) {ts : List TypeId} {ds : List (DataW H)} {j : Nat}
    (hsz : (DataW.weightsEach Tryz.prog ts ds).all (· ≤ reachBytes) = true) (ht : ts[j]? = some 22) (hd : ds[j]? = some d) :
    l0 ≤ maxLen ∧ ∃ (b o : Nat) (A : Nat → Option Addr) (C : Nat → Nat) (bss : List (List Nat)), bss.length = l0 ∧ (0 < l0 → a0 = some ⟨b, o, none⟩ ∧ PartsIn w b o A C bss) ∧ ∀ j, j < l0 → (bss.getD j []).length ≤ 140737488351232 := by
  rcases open_int_rows Tryz.underlying22 Tryz.underlying24 Tryz.underlying5 cellsP cells5 h with ⟨hcs, _⟩ | ⟨a, len, cap, A, L, C, Z, hcs, _, hl, hm, hx, hrow⟩
  · simp at hcs
    obtain ⟨rfl, rfl, rfl⟩ := hcs
    exact ⟨by unfold maxLen; omega, 0, 0, fun _ => none, fun _ => 0, [], rfl, fun h => by omega, fun j hj => by omega⟩
  · simp at hcs
    obtain ⟨rfl, rfl, rfl⟩ := hcs
    have hx1 := congrArg Prod.fst hx
    simp only at hx1
    have hbyt := fun r (hr : r < c0) => row_bytes (w := w) (ar := A r) (L := L r) (C := C r) (Z := Z r) (hrow r hr).2.1 (hrow r hr).2.2.2.1 (hrow r hr).2.2.2.2.1 (hrow r hr).2.2.2.2.2.1 (fun a' e => ((hrow r hr).2.2.2.2.2.2 a' e).2)
    have hbig : ∀ r, r < l0 → L r ≤ 140737488351232 := by
      intro r hr
      obtain ⟨r1, r2, r3, r4, r5, r6, r7⟩ := hrow r (by omega)
      cases hA : A r with
      | none => have := r6 hA; omega
      | some ar =>
        have hmem : (C r) * 1 ∈ (intRow (H := H) .u8 (A r) (L r) (Z r)).weights Tryz.prog 24 := by
          rw [hA]
          simp only [intRow, DataW.weights, Tryz.underlying24, bytes5]
          have e : (lits (H := H) .u8 ((Z r).take (L r))).length + (lits (H := H) .u8 ((Z r).drop (L r))).length = C r := by
            simp [lits]
            omega
          rw [e]
          exact List.mem_cons_self
        have hm2 : (C r) * 1 ∈ d.weights Tryz.prog 22 := by
          rw [hx1]
          simp only [DataW.weights, Tryz.underlying22]
          refine List.mem_cons_of_mem _ (List.mem_append.2 (.inl (weightsAll_mem (List.mem_map.2 ⟨r, List.mem_range.2 hr, rfl⟩) _ hmem)))
        have h3 := List.all_eq_true.1 hsz _ (DataW.weights_mem_each ht hd _ hm2)
        have h4 : C r * 1 ≤ reachBytes := by simpa using h3
        have : reachBytes = 140737488351232 := rfl
        omega
    have hget : ∀ r, r < l0 → ((List.range l0).map fun r => ((Z r).take (L r)).map Int.toNat).getD r [] = ((Z r).take (L r)).map Int.toNat := by
      intro r hr
      simp [List.getD, hr]
    obtain ⟨b, o, spot⟩ := a
    refine ⟨Nat.le_trans hl hm, b, o, A, C, (List.range l0).map fun r => ((Z r).take (L r)).map Int.toNat, by simp, ?_, ?_⟩
    · intro hpos
      have hc0 := (hrow 0 (by omega)).1
      have hspot : spot = none := by simpa [Addr.add] using World.cell?_spot hc0
      subst hspot
      refine ⟨rfl, ⟨?_, ?_, ?_, ?_, ?_, ?_, ?_⟩⟩
      · have := World.block_lt_of_cell? _ _ hc0
        simpa [Addr.add] using this
      · intro j hj
        have hj' : j < l0 := by simpa using hj
        rw [hget j hj', (hbyt j (by omega)).1]
        have := (hrow j (by omega)).1
        rw [add_plain] at this
        exact this
      · intro j hj
        have hj' : j < l0 := by simpa using hj
        rw [hget j hj']
        exact (hbyt j (by omega)).2.2
      · intro j hj
        have hj' : j < l0 := by simpa using hj
        rw [hget j hj', (hbyt j (by omega)).1]
        exact (hrow j (by omega)).2.1
      · intro j hj
        have hj' : j < l0 := by simpa using hj
        exact (hrow j (by omega)).2.2.2.2.2.1
      · intro j hj
        have hj' : j < l0 := by simpa using hj
        rw [hget j hj', (hbyt j (by omega)).1]
        have := hbig j hj'
        split <;> omega
      · intro j i
        by_cases hj : j < l0
        · rw [hget j hj]
          exact (hbyt j (by omega)).2.1 i
        · have e : ((List.range l0).map fun r => ((Z r).take (L r)).map Int.toNat).getD j [] = [] := by
            rw [List.getD, List.getElem?_eq_none (by simp; omega)]
            rfl
          rw [e]
          simp
    · intro j hj
      rw [hget j hj, (hbyt j (by omega)).1]
      exact hbig j hj

/-! ### the row's step -/
set_option maxRecDepth 100000 in
theorem lifted (os : Os) (started : os.Started) (H : Type) (enc : TypeId × Value → H) :
    ReturnsInHanded {} Tryz.checked os 3 .any (Rows.blockPackSpec.pre6 enc Tryz.prog Tryz.f3 Rows.blockPackRow.domain false) (Rows.blockPackSpec.post enc Tryz.prog Tryz.f3 false true false false) := by
  refine returnsInHanded_of_change_sized (C := Tryz.checked) own started (by kernel_rfl) Tryz.func3
    (ChangeSpec.witness6 (enc := enc) (C := Tryz.checked) false ⟨#[], #[.slice none 0 0, .slice none 0 0], []⟩ 8 (by kernel_rfl) (by kernel_rfl) (by kernel_rfl) (by kernel_rfl)) ?_
  intro W base args ds gs before hval0 hW hcnd hsz _
  have hval : ∀ (j : Nat) t v, Tryz.f3.params[j]? = some t → args[j]? = some v → Value.okWide Tryz.prog W .any base t v := hval0
  have hW' := hW
  obtain ⟨p, q, hA0, hV, rfl, hfz, hnd⟩ := hW
  have hA : DataW.TrodAll enc Tryz.prog W 0 (fun _ => true) true Tryz.f3.params.toList args.toList ds p := hA0
  rw [Tryz.params3] at hA hval
  obtain ⟨v0, v1, d0, d1, p0, p1, rfl, rfl, rfl, h0, h1⟩ := trodAll_two hA
  obtain ⟨rfl, rfl⟩ := trodVars_none hV
  obtain ⟨a0, len0, cap0, rfl⟩ := okWide_slice Tryz.underlying22 (hval 0 22 v0 rfl rfl)
  obtain ⟨a1, len1, cap1, rfl⟩ := okWide_slice Tryz.underlying23 (hval 1 23 v1 rfl rfl)
  have k0 := h0
  have k1 := h1
  have lt0 : ∀ x ∈ p0, x.block < W.heap.size := by obtain ⟨m, hm⟩ := k0; exact DataW.trod_lt m _ _ _ hm
  have lt1 : ∀ x ∈ p1, x.block < W.heap.size := by obtain ⟨m, hm⟩ := k1; exact DataW.trod_lt m _ _ _ hm
  obtain ⟨fuel0, hf0⟩ := h0
  have hg0 : DataW.trod enc Tryz.prog W 0 (fun _ => true) true fuel0 22 [.slice a0 len0 cap0] = some (d0, p0) := by simpa [Value.cells] using hf0
  obtain ⟨fuel1, hf1⟩ := h1
  obtain ⟨hm1, ks, hl1, hR⟩ := open_nums (by simpa [Value.cells] using hf1)
  obtain ⟨hm0, b, o, A, C, bss, hl0, hP, hbig⟩ := open_parts hg0 lt0 hsz (j := 0) rfl rfl
  clear hA0 hval0
  refine (walk b o cap0 len0 len1 cap1 a0 a1 A C bss ks W hl0 hl1 hP hR hbig hm0 hm1).mono fun e W' ⟨he, bel⟩ => ?_
  subst he
  exact ⟨_, rfl, _, _, _, [], _, [], hW', trodAll_mk1 (shut_bool Tryz.underlying4 _), (trodAll_cons_mk (Below.trod laidOut (by kernel_rfl) (of_decide_eq_true (by kernel_rfl)) k0 bel lt0) (trodAll_cons_mk (Below.trod laidOut (by kernel_rfl) (of_decide_eq_true (by kernel_rfl)) k1 bel lt1) trodAll_mk0)), rfl, bel.frame _, fun h => by cases h⟩

theorem over : Rows.blockPackRow.holds Tryz.pinned (OpenSpec.ofChange Rows.blockPackSpec) :=
  OpenClaim.holds_of_wide 3 Tryz.f3 rfl rfl rfl rfl rfl rfl rfl ⟨rfl, rfl, rfl, rfl, rfl⟩ rfl rfl rfl rfl rfl (by kernel_rfl) Tryz.func3 (by kernel_rfl)
    (of_decide_eq_true (by kernel_rfl)) (by unfold Func.isWrapper; first | (rw [if_pos (by decide +kernel)]; kernel_rfl) | (rw [if_neg (by decide +kernel)]; exact ⟨rfl, rfl⟩))
    (fun os started H enc _ => lifted os started H enc)
end Go.Proofs.YtekgcoajgbpniacGreat.blockPack
namespace Go.Proofs.YtekgcoajgbpniacGreat
theorem blockPack_holds : Rows.BlockPackSaid := blockPack.over
end Go.Proofs.YtekgcoajgbpniacGreat
