/-
  Pack.
-/
import Derived.Test.YtfoaaamcpknjnadGreatQ46
namespace Go.Proofs.YtfoaaamcpknjnadGreat
open Go.RowKit
set_option linter.unusedVariables false
set_option maxRecDepth 100000

def itemsP (bss : List (List Nat)) (ks : List Int) : List (List Nat × Nat) := (bss.zip ks).map (fun p => (p.1, p.2.toNat))
theorem itemsP_drop (bss : List (List Nat)) (ks : List Int) (h : ks.length = bss.length) {k : Nat} (hk : k < bss.length) : (itemsP bss ks).drop k = (bss.getD k [], (ks.getD k 0).toNat) :: (itemsP bss ks).drop (k + 1) := by
  have hl : k < (itemsP bss ks).length := by simp [itemsP]; omega
  rw [List.drop_eq_getElem_cons hl]
  have hk2 : k < ks.length := by omega
  simp [itemsP, List.getD, hk, hk2]
theorem itemsP_len (bss : List (List Nat)) (ks : List Int) (h : ks.length = bss.length) : (itemsP bss ks).length = bss.length := by simp [itemsP]; omega
theorem chkP_step {ns : List Nat} {ks : List Int} {k t : Nat} {n : Nat} {x : Int} (hn : k < ns.length) (hk : k < ks.length) (en : ns.getD k 0 = n) (ex : ks.getD k 0 = x) (h : chkP (ns.drop k) (ks.drop k) k t = 0) : t + n ≤ 3000 ∧ k < 40 ∧ (x = 0 ∨ x = 1 ∨ x = 2) ∧ chkP (ns.drop (k + 1)) (ks.drop (k + 1)) (k + 1) (t + n) = 0 := by
  have hd1 := getD_drop ns 0 hn
  have hd2 := getD_drop ks 0 hk
  rw [en] at hd1
  rw [ex] at hd2
  rw [hd1, hd2, chkP] at h
  split at h
  · cases h
  · rename_i h1
    split at h
    · rename_i h2
      exact ⟨by omega, by omega, h2, h⟩
    · cases h

theorem chkP_len : ∀ (ns : List Nat) (ks : List Int) (i t : Nat), chkP ns ks i t = 0 → ns ≠ [] → i + ns.length ≤ 40
  | [], _, _, _, _, h => absurd rfl h
  | n :: r, ks, i, t, h, _ => by
    rw [chkP] at h
    split at h
    · cases h
    · rename_i h1
      split at h
      · by_cases e : r = []
        · subst e
          simp only [List.length_cons, List.length_nil]
          omega
        · have := chkP_len r ks.tail (i + 1) (t + n) h e
          rw [List.length_cons]
          omega
      · cases h

theorem pack_err (b o cp : Nat) (bk : Option Addr) (np nk ck : Nat) (A : Nat → Option Addr) (C : Nat → Nat) (bss : List (List Nat)) (ks : List Int) (w : World) (hp : bss.length = np) (hkl : ks.length = nk) (hP : bss = [] ∨ PartsIn w b o A C bss) (hK : RowIn .i64 w bk ks) (ap : Option Addr) (hap : bss ≠ [] → ap = some ⟨b, o, none⟩) (E : Int) (hE : Hid (errP (bss.map List.length) ks = E)) (h0 : E ≠ 0) :
    Calls Tryz.prog 18 #[.slice ap np cp, .slice bk nk ck] w fun e w' => e = .returned (.tuple #[.slice none 0 0, .int .i64 E]) ∧ w' = w := by
  have HC := hide (bcheck_any b o cp bk np nk ck A C bss ks w hp hkl hP hK ap hap E hE)
  have hb : (E == 0) = false := by rw [beq_eq_false_iff_ne]; exact h0
  have hb2 : (E != 0) = true := by simp [bne, hb]
  clear hP hK hap hE
  go_enter Tryz.func18, Tryz.ntmps18
  go_wp2_with fail
  refine (unhide HC).mono ?_
  rintro e w1 ⟨rfl, rfl⟩
  go_wp2
  go_ret2
  exact ⟨rfl, rfl⟩

set_option maxHeartbeats 1000000 in
theorem pack_ok (b o cp b2 o2 np ck : Nat) (A : Nat → Option Addr) (C : Nat → Nat) (bss : List (List Nat)) (ks : List Int) (w : World) (hp : bss.length = np) (hkl : ks.length = np) (hP : PartsIn w b o A C bss) (hb2 : b2 < w.heap.size) (hK : Row .i64 w b2 o2 ks) (hE : errP (bss.map List.length) ks = 0) :
    Calls Tryz.prog 18 #[.slice (some ⟨b, o, none⟩) np cp, .slice (some ⟨b2, o2, none⟩) np ck] w fun e w' => ∃ v out, e = .returned (.tuple #[v, .int .i64 0]) ∧ w'.ownsRow w.heap.size 5 1 v out.length (u8s out) ∧ rowB out out.length = padB (packF (itemsP bss ks) []) ∧ (∀ j, out.getD j 0 < 256) ∧ Below w.heap.size w w' := by
  have HC := hide (bcheck_any b o cp (some ⟨b2, o2, none⟩) np np ck A C bss ks w hp hkl (.inr hP) (.inr ⟨b2, o2, rfl, hb2, hK⟩) (some ⟨b, o, none⟩) (fun _ => rfl) 0 (hide hE))
  have HE0 : Hid (chkP (bss.map List.length) ks 0 0 = 0) := by
    unfold errP at hE
    split at hE
    · cases hE
    · exact hE
  have hnp : 0 < np := by
    unfold errP at hE
    split at hE
    · cases hE
    · rename_i h
      rw [List.length_map, hp] at h
      omega
  have hnp40 : np ≤ 40 := by
    have := chkP_len _ _ _ _ (unhide HE0) (fun e => by rw [List.map_eq_nil_iff] at e; rw [e] at hp; simp at hp; omega)
    rw [List.length_map, hp] at this
    omega
  have HP := hide hp
  have HKL := hide hkl
  have HPI := hide hP
  have HK := hide hK
  have hbp := hP.lt
  clear hE hP hK hp hkl
  obtain ⟨T, hT⟩ : ∃ T, packF (itemsP bss ks) [] = T := ⟨_, rfl⟩
  rw [hT]
  have HT := hide hT
  clear hT
  have HR0 := hide (RIs.empty (No := fun g => g < w.heap.size) (B := w.heap.size) (w := w.alloc (.cells #[.slice none 0 0, .int .i64 0] 61)) (b := w.heap.size) (Nat.le_refl _) (by simp) (heap_alloc_new _ _))
  go_enter Tryz.func18, Tryz.ntmps18
  go_wp2_with fail
  refine (unhide HC).mono ?_
  rintro e w1 ⟨rfl, rfl⟩
  clear HC
  go_wp2
  go_loopw [20] (fun v wr => ∃ (k t : Nat) (S : List Bool), k ≤ np ∧ t ≤ 3000 ∧ v = .int .i64 (k : Int) ∧ Hid (chkP ((bss.map List.length).drop k) (ks.drop k) k t = 0 ∧ Rp (fun g => g < w1.heap.size) w1.heap.size (w1.alloc (.cells #[.slice none 0 0, .int .i64 0] 61)) w1.heap.size S wr ∧ packF ((itemsP bss ks).drop k) S = T ∧ S.length ≤ 2400 * k + 60 * t)) (fun v _ => np - (intOf v).toNat)
  case atStart => exact ⟨0, 0, [], Nat.zero_le _, by decide, rfl, hide ⟨unhide HE0, Rp.refl (unhide HR0), unhide HT, by simp⟩⟩
  case round =>
    obtain ⟨k, t, S, hk, ht, rfl, hst⟩ := hrel
    obtain ⟨s1, s2, s3, s4⟩ := unhide hst
    have hzr := s2.below.size
    simp only [World.size_alloc] at hzr
    have hkeep : ∀ g, g < w1.heap.size → wr.heap[g]? = w1.heap[g]? := fun g hg => (s2.kp g (by simp; omega) hg).trans (Below.heap_alloc w1 _ g hg)
    by_cases hlt : k < np
    · have hkb : k < bss.length := by rw [unhide HP]; exact hlt
      have hkk : k < ks.length := by rw [unhide HKL]; exact hlt
      have c1 := (World.cell?_of_block (w := w1) (a := ⟨b, o + k, none⟩) (hkeep b hbp)).trans ((unhide HPI).cell k hkb)
      have c2 := (World.cell?_of_block (w := w1) (a := ⟨b2, o2 + k, none⟩) (hkeep b2 hb2)).trans (unhide HK k hkk)
      have hby := bytes_kp ((unhide HPI).byt k hkb) (by omega) (fun b' o' _ _ hb' => hkeep b' hb') (w' := wr)
      have hcp := (unhide HPI).cap k hkb
      have hnl := (unhide HPI).nil k hkb
      have hvl := (unhide HPI).val k
      have hib := (unhide HPI).byt k hkb
      have hid := itemsP_drop bss ks (by rw [unhide HP, unhide HKL]) hkb
      rw [hid] at s3
      obtain ⟨bs, hbs⟩ : ∃ bs, bss.getD k [] = bs := ⟨_, rfl⟩
      obtain ⟨x, hx⟩ : ∃ x, ks.getD k 0 = x := ⟨_, rfl⟩
      rw [hbs] at c1 hby hcp hvl s3 hib
      rw [hx] at c2 s3
      have hgl : (bss.map List.length).getD k 0 = bs.length := by
        rw [← hbs]
        simp [List.getD, hkb]
      obtain ⟨r1, r2, r3, r4⟩ := chkP_step (by rw [List.length_map]; exact hkb) hkk hgl hx s1
      obtain ⟨x', hx'⟩ : ∃ x' : Nat, x = (x' : Int) ∧ x' ≤ 2 := by
        rcases r3 with rfl | rfl | rfl
        · exact ⟨0, rfl, by decide⟩
        · exact ⟨1, rfl, by decide⟩
        · exact ⟨2, rfl, by decide⟩
      obtain ⟨rfl, hx2⟩ := hx'
      rw [Int.toNat_natCast] at s3
      obtain ⟨n, hn⟩ : ∃ n, bs.length = n := ⟨_, rfl⟩
      rw [hn] at c1 hcp r1 r4
      have hlast : decide ((itemsP bss ks).drop (k + 1) = []) = decide (k + 1 = np) := by
        have hl := itemsP_len bss ks (by rw [unhide HP, unhide HKL])
        rw [unhide HP] at hl
        by_cases e : k + 1 = np
        · rw [decide_eq_true e, decide_eq_true]
          exact List.drop_eq_nil_of_le (by omega)
        · rw [decide_eq_false e, decide_eq_false]
          intro h2
          have := List.drop_eq_nil_iff.1 h2
          omega
      have hpk : packF ((itemsP bss ks).drop (k + 1)) (blkB S bs x' (decide (k + 1 = np))) = T := by rw [← s3, packF, hlast]
      have HPB := hide (putBlock_any (fun g => g < w1.heap.size) w1.heap.size w1.heap.size (A k) n (C k) x' (decide (k + 1 = np)) bs S wr s2.is hn (by omega) hcp hnl hx2 hby hvl (fun b' o' e hne => by
        rcases hib with h | ⟨b3, o3, e3, hb3, _⟩
        · exact absurd h hne
        · rw [e3] at e; cases e; exact hb3) (fun g hg => by omega) (by omega))
      have hbq : ((k : Int) == (np : Int) - 1) = decide (k + 1 = np) := by
        by_cases e : k + 1 = np
        · rw [decide_eq_true e, beq_iff_eq]; omega
        · rw [decide_eq_false e, beq_eq_false_iff_ne]; omega
      obtain ⟨la, hla⟩ : ∃ la, decide (k + 1 = np) = la := ⟨_, rfl⟩
      rw [hla] at hbq hpk HPB
      clear hla
      have HS2 := hide s2
      have HPK := hide hpk
      have HR4 := hide r4
      have hkI : (k : Int) < (np : Int) := by omega
      clear hst s1 s2 s3 hkeep hby hcp hnl hvl hib hid hbs hx hgl r3 r4 hlast hpk hn hkb hkk
      generalize A k = ak at *
      generalize C k = cc at *
      go_wp2_with fail
      refine (unhide HPB).mono ?_
      rintro e w4 ⟨rfl, hle, hR⟩
      have HN := hide ((unhide HS2).trans hR)
      clear hR
      go_wp2
      go_roundw
      case rel => exact ⟨k + 1, t + n, _, by omega, by omega, by go_num, hide ⟨unhide HR4, unhide HN, unhide HPK, by omega⟩⟩
      case measure => simp [intOf]; omega
    · obtain rfl : np = k := by omega
      rw [List.drop_eq_nil_of_le (by rw [itemsP_len bss ks (by rw [unhide HP, unhide HKL]), unhide HP]; exact Nat.le_refl _), packF] at s3
      subst s3
      obtain ⟨ov, bs, h1, h2, h3, h4, h5⟩ := s2.is.ex
      have c0 : wr.cell? ⟨w1.heap.size, 0, none⟩ = some ov := heap_row h1
      obtain ⟨a', cc, rfl⟩ : ∃ a c, ov = .slice a bs.length c := own_slice' h2
      have HF : Hid (wr.ownsRow w1.heap.size 5 1 (.slice a' bs.length cc) bs.length (u8s bs) ∧ rowB bs bs.length = padB S ∧ (∀ j, bs.getD j 0 < 256) ∧ Below w1.heap.size w1 wr) := ⟨own_mono h2 (by omega), h5, h4, ((Below.refl w1.heap.size w1).alloc (Nat.le_refl _) _).trans s2.below⟩
      obtain ⟨L, hL⟩ : ∃ L, bs.length = L := ⟨_, rfl⟩
      have HL := hide hL
      rw [hL] at c0
      clear hst s1 s2 s4 hkeep h1 h2 h3 h4 h5 hL
      go_wp2
      go_ret2
      exact ⟨.slice a' bs.length cc, bs, by rw [unhide HL]; rfl, unhide HF⟩
end Go.Proofs.YtfoaaamcpknjnadGreat

/-
  Pack of one part; Best.
-/
namespace Go.Proofs.YtfoaaamcpknjnadGreat
open Go.RowKit
set_option linter.unusedVariables false
set_option maxRecDepth 100000

theorem rowB_inj {x y : List Nat} (hx : ∀ j, x.getD j 0 < 256) (hy : ∀ j, y.getD j 0 < 256) (h : rowB x x.length = rowB y y.length) : x = y := by
  have hl := congrArg List.length h
  rw [rowB_length, rowB_length] at hl
  have hl2 : x.length = y.length := by omega
  apply List.ext_getElem hl2
  intro j h1 h2
  have e1 : x[j] = x.getD j 0 := by simp [List.getD, h1]
  have e2 : y[j] = y.getD j 0 := by simp [List.getD, h2]
  rw [e1, e2]
  apply Nat.eq_of_testBit_eq
  intro i
  by_cases hi : i < 8
  · have p1 := rowB_getD x x.length (8 * j + i) (by omega)
    have p2 := rowB_getD y y.length (8 * j + i) (by omega)
    rw [h, p2] at p1
    unfold bitAt at p1
    rw [show (8 * j + i) / 8 = j by omega, show (8 * j + i) % 8 = i by omega] at p1
    exact p1.symm
  · have b : ∀ m, m < 256 → m.testBit i = false := fun m hm => Nat.testBit_lt_two_pow (Nat.lt_of_lt_of_le hm (show 2 ^ 8 ≤ 2 ^ i from Nat.pow_le_pow_right (by decide) (by omega)))
    rw [b _ (hx j), b _ (hy j)]

/-- the bits of one part's block -/
noncomputable def oneB (bs : List Nat) (k : Nat) : List Bool := padB (blkB [] bs k true)
noncomputable def lenP (bs : List Nat) (k : Nat) : Nat := (oneB bs k).length / 8
/-- the kind of the shortest of the first k kinds -/
noncomputable def bestP (bs : List Nat) : Nat → Nat
  | 0 => 0
  | 1 => 0
  | k + 2 => if lenP bs (k + 1) < lenP bs (bestP bs (k + 1)) then k + 1 else bestP bs (k + 1)
/-- bytes that are one part's block -/
structure IsOne (bs : List Nat) (k : Nat) (out : List Nat) : Prop where
  row : rowB out out.length = oneB bs k
  val : ∀ j, out.getD j 0 < 256
theorem IsOne.len {bs out : List Nat} {k : Nat} (h : IsOne bs k out) : out.length = lenP bs k := by
  unfold lenP
  rw [← h.row, rowB_length]
  omega
theorem IsOne.one {bs x y : List Nat} {k : Nat} (h : IsOne bs k x) (h2 : IsOne bs k y) : x = y := rowB_inj h.val h2.val (by rw [h.row, h2.row])
theorem blk_pos (bs : List Nat) (k : Nat) (last : Bool) : 3 ≤ (blkB [] bs k last).length := by
  unfold blkB
  split
  · unfold storB
    simp only [List.length_append, numBits_length, List.length_cons, List.length_nil, List.length_replicate]
    omega
  · split <;> simp only [List.length_append, numBits_length, List.length_cons, List.length_nil] <;> omega
theorem IsOne.pos {bs out : List Nat} {k : Nat} (h : IsOne bs k out) : 0 < out.length := by
  have h1 := congrArg List.length h.row
  rw [rowB_length] at h1
  unfold oneB at h1
  rw [padB_length] at h1
  have := blk_pos bs k true
  omega
theorem packF_one (bs : List Nat) (k : Nat) : packF (itemsP [bs] [(k : Int)]) [] = blkB [] bs k true := by
  have : itemsP [bs] [(k : Int)] = [(bs, k)] := by simp [itemsP]
  rw [this, packF, packF]
  simp
theorem parts_one {w : World} {a : Option Addr} {n cap : Nat} {bs : List Nat} (hl : bs.length = n) (hcap : n ≤ cap) (hnil : a = none → cap = 0) (hB : BytesIn w a bs) (hx : ∀ j, bs.getD j 0 < 256) (hm : n ≤ 9223372036854775807) (k : Int) (T U : TypeId) :
    PartsIn ((w.alloc (.cells #[.slice a n cap] T)).alloc (.cells #[.int .i64 k] U)) w.heap.size 0 (fun _ => a) (fun _ => cap) [bs] ∧ Row .i64 ((w.alloc (.cells #[.slice a n cap] T)).alloc (.cells #[.int .i64 k] U)) (w.heap.size + 1) 0 [k] := by
  have hj0 : ∀ j, j < [bs].length → j = 0 := fun j hj => by simp at hj; omega
  refine ⟨⟨by simp; omega, fun j hj => ?_, fun j hj => ?_, fun j hj => ?_, fun j hj => ?_, fun j hj => ?_, fun j i => ?_⟩, fun j hj => ?_⟩
  · rw [hj0 j hj]
    simp [hl]
  · rw [hj0 j hj]
    exact hB.below (((Below.refl w.heap.size w).alloc (Nat.le_refl _) _).alloc (by simp) _) (Nat.le_refl _)
  · rw [hj0 j hj]
    simpa [hl] using hcap
  · exact fun e => hnil e
  · rw [hj0 j hj]
    simpa [hl] using hm
  · cases j with
    | zero => simpa using hx i
    | succ j => simp
  · have : j = 0 := by simp at hj; omega
    subst this
    simp
theorem one_err {n : Nat} (h : 3000 < n) (bs : List Nat) (hl : bs.length = n) (k : Int) : errP ([bs].map List.length) [k] = 2 := by
  unfold errP
  rw [if_neg (by simp)]
  simp only [List.map_cons, List.map_nil, chkP]
  rw [if_pos (.inl (by omega))]
theorem one_fine {n k : Nat} (h : n ≤ 3000) (bs : List Nat) (hl : bs.length = n) (hk : k ≤ 2) : errP ([bs].map List.length) [(k : Int)] = 0 := by
  unfold errP
  rw [if_neg (by simp)]
  simp only [List.map_cons, List.map_nil, chkP]
  rw [if_neg (by omega)]
  exact if_pos (show (k : Int) = 0 ∨ (k : Int) = 1 ∨ (k : Int) = 2 by omega)

theorem one_many (a : Option Addr) (n cap : Nat) (k : Int) (bs : List Nat) (w : World) (T U : TypeId) (hl : bs.length = n) (hcap : n ≤ cap) (hnil : a = none → cap = 0) (hB : BytesIn w a bs) (hx : ∀ j, bs.getD j 0 < 256) (hm : n ≤ 9223372036854775807) (hn : 3000 < n) :
    Calls Tryz.prog 18 #[.slice (some ⟨w.heap.size, 0, none⟩) 1 1, .slice (some ⟨w.heap.size + 1, 0, none⟩) 1 1] ((w.alloc (.cells #[.slice a n cap] T)).alloc (.cells #[.int .i64 k] U)) fun e w' => e = .returned (.tuple #[.slice none 0 0, .int .i64 2]) ∧ Below w.heap.size w w' := by
  obtain ⟨h1, h2⟩ := parts_one hl hcap hnil hB hx hm k T U
  refine (pack_err w.heap.size 0 1 (some ⟨w.heap.size + 1, 0, none⟩) 1 1 1 _ _ [bs] [k] _ rfl rfl (.inr h1) (.inr ⟨_, 0, rfl, by simp, h2⟩) (some ⟨w.heap.size, 0, none⟩) (fun _ => rfl) 2 (hide (one_err hn bs hl k)) (by decide)).mono ?_
  rintro e w' ⟨rfl, rfl⟩
  exact ⟨rfl, ((Below.refl w.heap.size w).alloc (Nat.le_refl _) _).alloc (by simp) _⟩
theorem one_ok (a : Option Addr) (n cap k : Nat) (bs : List Nat) (w : World) (T U : TypeId) (hl : bs.length = n) (hcap : n ≤ cap) (hnil : a = none → cap = 0) (hB : BytesIn w a bs) (hx : ∀ j, bs.getD j 0 < 256) (hn : n ≤ 3000) (hk : k ≤ 2) :
    Calls Tryz.prog 18 #[.slice (some ⟨w.heap.size, 0, none⟩) 1 1, .slice (some ⟨w.heap.size + 1, 0, none⟩) 1 1] ((w.alloc (.cells #[.slice a n cap] T)).alloc (.cells #[.int .i64 (k : Int)] U)) fun e w' => ∃ g c out, e = .returned (.tuple #[.slice (some ⟨g, 0, none⟩) (lenP bs k) c, .int .i64 0]) ∧ g < w'.heap.size ∧ Bytes w' g 0 out ∧ IsOne bs k out ∧ Below w.heap.size w w' := by
  obtain ⟨h1, h2⟩ := parts_one hl hcap hnil hB hx (by omega) (k : Int) T U
  refine (pack_ok w.heap.size 0 1 (w.heap.size + 1) 0 1 1 _ _ [bs] [(k : Int)] _ rfl rfl h1 (by simp) h2 (one_fine hn bs hl hk)).mono ?_
  rintro e w' ⟨v, out, rfl, hO, hr, hv, hb⟩
  rw [packF_one] at hr
  have hI : IsOne bs k out := ⟨hr, hv⟩
  obtain ⟨g, c, rfl, _, hg⟩ := own_shape hO hI.pos
  refine ⟨g, c, out, by rw [hI.len], hg, fun j hj => ?_, hI, (((Below.refl w.heap.size w).alloc (Nat.le_refl _) _).alloc (by simp) _).trans (hb.mono (by simp; omega))⟩
  rw [Nat.zero_add]
  have := hO.cellAt j (by omega)
  rw [this]
  simp [List.getD, hj]
end Go.Proofs.YtfoaaamcpknjnadGreat

/-
  Best.
-/
namespace Go.Proofs.YtfoaaamcpknjnadGreat
open Go.RowKit
set_option linter.unusedVariables false
set_option maxRecDepth 100000

theorem idx0 (W : World) : (Instr.index 46 (.agg #[.int .i64 0, .int .i64 1, .int .i64 2]) (.int .i64 0)).run Tryz.prog W = .ok (.int .i64 0) W := by kernel_rfl
theorem idx1 (W : World) : (Instr.index 46 (.agg #[.int .i64 0, .int .i64 1, .int .i64 2]) (.int .i64 1)).run Tryz.prog W = .ok (.int .i64 1) W := by kernel_rfl
theorem idx2 (W : World) : (Instr.index 46 (.agg #[.int .i64 0, .int .i64 1, .int .i64 2]) (.int .i64 2)).run Tryz.prog W = .ok (.int .i64 2) W := by kernel_rfl
theorem idxK (k : Nat) (hk : k ≤ 2) (W : World) : (Instr.index 46 (.agg #[.int .i64 0, .int .i64 1, .int .i64 2]) (.int .i64 (k : Int))).run Tryz.prog W = .ok (.int .i64 (k : Int)) W := by
  rcases (by omega : k = 0 ∨ k = 1 ∨ k = 2) with rfl | rfl | rfl
  · exact idx0 W
  · exact idx1 W
  · exact idx2 W

theorem bestP_next (bs : List Nat) (k : Nat) (h : 0 < k) : bestP bs (k + 1) = if lenP bs k < lenP bs (bestP bs k) then k else bestP bs k := by
  obtain ⟨q, rfl⟩ : ∃ q, k = q + 1 := ⟨k - 1, by omega⟩
  rfl

theorem best_many (a : Option Addr) (n cap : Nat) (bs : List Nat) (w : World) (hl : bs.length = n) (hcap : n ≤ cap) (hnil : a = none → cap = 0) (hB : BytesIn w a bs) (hx : ∀ j, bs.getD j 0 < 256) (hm : n ≤ 9223372036854775807) (hn : 3000 < n) :
    Calls Tryz.prog 7 #[.slice a n cap] w fun e w' => e = .returned (.tuple #[.slice none 0 0, .int .i64 0, .int .i64 2]) ∧ Below w.heap.size w w' := by
  have HC := hide (fun T U => one_many a n cap 0 bs w T U hl hcap hnil hB hx hm hn)
  clear hB hx hnil
  go_enter Tryz.func7, Tryz.ntmps7
  go_wp2
  go_loopw [2, 3, 10] (fun v2 v3 v10 wr => v2 = .slice none 0 0 ∧ v3 = .int .i64 0 ∧ v10 = .int .i64 0 ∧ wr = w) (fun _ _ _ _ => 0)
  case atStart => exact ⟨rfl, rfl, rfl, rfl⟩
  case round =>
    obtain ⟨rfl, rfl, rfl, rfl⟩ := hrel
    have hix := idx0
    go_wp2_with fail
    refine (unhide HC _ _).mono ?_
    rintro e w1 ⟨rfl, hB1⟩
    have HB1 := hide hB1
    clear hB1
    go_wp2
    go_ret3
    exact ⟨rfl, unhide HB1⟩

set_option maxHeartbeats 1000000 in
theorem best_ok (a : Option Addr) (n cap : Nat) (bs : List Nat) (w : World) (hl : bs.length = n) (hcap : n ≤ cap) (hnil : a = none → cap = 0) (hB : BytesIn w a bs) (hx : ∀ j, bs.getD j 0 < 256) (hn : n ≤ 3000) :
    Calls Tryz.prog 7 #[.slice a n cap] w fun e w' => ∃ g c out, e = .returned (.tuple #[.slice (some ⟨g, 0, none⟩) (lenP bs (bestP bs 3)) c, .int .i64 (bestP bs 3 : Nat), .int .i64 0]) ∧ g < w'.heap.size ∧ Bytes w' g 0 out ∧ IsOne bs (bestP bs 3) out ∧ Below w.heap.size w w' := by
  have HC := hide (fun (W : World) (k : Nat) (hk : k ≤ 2) (hW : Below w.heap.size w W) T U => one_ok a n cap k bs W T U hl hcap hnil (hB.below hW (Nat.le_refl _)) hx hn hk)
  clear hB hx hnil
  have hI0 : (#[Value.int .i64 0, Value.int .i64 1, Value.int .i64 2] : Array Value).size = 3 := rfl
  go_enter Tryz.func7, Tryz.ntmps7
  go_wp2
  go_loopw [2, 3, 10] (fun v2 v3 v10 wr => ∃ k : Nat, k ≤ 3 ∧ v10 = .int .i64 (k : Int) ∧ Below w.heap.size w wr ∧ ((k = 0 ∧ v2 = .slice none 0 0 ∧ v3 = .int .i64 0) ∨ (0 < k ∧ ∃ g c out, v2 = .slice (some ⟨g, 0, none⟩) (lenP bs (bestP bs k)) c ∧ v3 = .int .i64 (bestP bs k : Nat) ∧ g < wr.heap.size ∧ Bytes wr g 0 out ∧ IsOne bs (bestP bs k) out))) (fun _ _ v10 _ => 3 - (intOf v10).toNat)
  case atStart => exact ⟨0, by decide, rfl, Below.refl _ _, .inl ⟨rfl, rfl, rfl⟩⟩
  case round =>
    obtain ⟨k, hk, rfl, hBw, hs⟩ := hrel
    have HBw := hide hBw
    clear hBw
    by_cases h3 : k = 3
    · subst h3
      rcases hs with ⟨h, _⟩ | ⟨_, g, c, out, rfl, rfl, hg, hby, hI⟩
      · omega
      · have HF := hide (And.intro hg (And.intro hby hI))
        clear hg hby hI
        go_wp2
        go_ret3
        exact ⟨g, c, out, rfl, (unhide HF).1, (unhide HF).2.1, (unhide HF).2.2, unhide HBw⟩
    · have hk2 : k ≤ 2 := by omega
      have hz := (unhide HBw).size
      have HCk := hide (fun T U => unhide HC wr k hk2 (unhide HBw) T U)
      clear HC
      rcases hs with ⟨rfl, rfl, rfl⟩ | ⟨h0, g, c, out, rfl, rfl, hg, hby, hI⟩
      · have hix := idx0
        go_wp2_with fail
        refine (unhide HCk _ _).mono ?_
        rintro e w1 ⟨g1, c1, out1, rfl, hg1, hby1, hI1, hB1⟩
        have HF := hide (And.intro hg1 (And.intro hby1 (And.intro hI1 ((unhide HBw).trans (hB1.mono hz)))))
        have e1 : bestP bs 1 = 0 := rfl
        clear hg1 hby1 hI1 hB1
        go_wp2
        rename_i hKK
        refine hKK _ _ ?_
        simp only [Act.put, List.setIfInBounds_toArray, List.set_cons_zero, List.set_cons_succ, Option.isNone]
        clear hKK
        go_wp2
        go_roundw
        case rel => exact ⟨1, by decide, by go_num, (unhide HF).2.2.2, .inr ⟨by decide, g1, c1, out1, by rw [e1], by rw [e1]; rfl, (unhide HF).1, (unhide HF).2.1, by rw [e1]; exact (unhide HF).2.2.1⟩⟩
        case measure => simp [intOf]
      · have HS := hide (And.intro hg (And.intro hby hI))
        have hix := idxK k hk2
        have hbp := bestP_next bs k h0
        clear hg hby hI
        have hqI : (k : Int) < 3 := by omega
        obtain ⟨B, hBB⟩ : ∃ B, bestP bs k = B := ⟨_, rfl⟩
        rw [hBB] at hbp HS ⊢
        obtain ⟨l1, hl1⟩ : ∃ l1, lenP bs k = l1 := ⟨_, rfl⟩
        obtain ⟨l2, hl2⟩ : ∃ l2, lenP bs B = l2 := ⟨_, rfl⟩
        rw [hl1, hl2] at hbp
        rw [hl1] at HCk
        rw [hl2]
        have HBP := hide hbp
        have HL1 := hide hl1
        have HL2 := hide hl2
        clear hbp hl1 hl2 hBB
        go_wp2_with fail
        refine (unhide HCk _ _).mono ?_
        rintro e w1 ⟨g1, c1, out1, rfl, hg1, hby1, hI1, hB1⟩
        have HF := hide (And.intro hg1 (And.intro hby1 (And.intro hI1 ((unhide HBw).trans (hB1.mono hz)))))
        have HK := hide (And.intro (Nat.lt_of_lt_of_le (unhide HS).1 hB1.size) ((unhide HS).2.1.below hB1 (unhide HS).1))
        clear hg1 hby1 hI1 hB1
        by_cases hlt : l1 < l2
        · have hltI : (l1 : Int) < (l2 : Int) := by omega
          have hb : Hid (bestP bs (k + 1) = k) := hide (by rw [unhide HBP, if_pos hlt])
          clear hlt
          go_wp2
          rename_i hKK
          refine hKK _ _ ?_
          simp only [Act.put, List.setIfInBounds_toArray, List.set_cons_zero, List.set_cons_succ]
          clear hKK
          go_wp2
          go_roundw
          case rel => exact ⟨k + 1, by omega, by go_num, (unhide HF).2.2.2, .inr ⟨by omega, g1, c1, out1, by rw [unhide hb, unhide HL1], by rw [unhide hb], (unhide HF).1, (unhide HF).2.1, by rw [unhide hb]; exact (unhide HF).2.2.1⟩⟩
          case measure => simp [intOf]; omega
        · have hltI : ¬ (l1 : Int) < (l2 : Int) := by omega
          have hb : Hid (bestP bs (k + 1) = B) := hide (by rw [unhide HBP, if_neg hlt])
          clear hlt
          go_wp2
          rename_i hKK
          refine hKK _ _ ?_
          simp only [Act.put, List.setIfInBounds_toArray, List.set_cons_zero, List.set_cons_succ]
          clear hKK
          go_wp2
          go_roundw
          case rel => exact ⟨k + 1, by omega, by go_num, (unhide HF).2.2.2, .inr ⟨by omega, g, c, out, by rw [unhide hb, unhide HL2], by rw [unhide hb], (unhide HK).1, (unhide HK).2, by rw [unhide hb]; exact (unhide HS).2.2⟩⟩
          case measure => simp [intOf]; omega
end Go.Proofs.YtfoaaamcpknjnadGreat
