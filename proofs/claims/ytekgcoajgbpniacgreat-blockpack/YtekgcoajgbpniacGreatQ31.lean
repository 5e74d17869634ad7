/-
  What Pack is given, checked.
-/
import Derived.Test.YtekgcoajgbpniacGreatQ30
import Derived.Test.YtekgcoajgbpniacGreatQ2
namespace Go.Proofs.YtekgcoajgbpniacGreat
open Go.RowKit
set_option linter.unusedVariables false
set_option maxRecDepth 100000

/-- what is wrong with parts of these lengths and their kinds, from the i-th on, behind t bytes -/
def chkP : List Nat → List Int → Nat → Nat → Int
  | [], _, _, _ => 0
  | n :: r, ks, i, t => if 3000 < t + n ∨ 40 ≤ i then 2 else if ks.headD 0 = 0 ∨ ks.headD 0 = 1 ∨ ks.headD 0 = 2 then chkP r ks.tail (i + 1) (t + n) else 3
def errP (ns : List Nat) (ks : List Int) : Int := if ns.length = 0 ∨ ks.length ≠ ns.length then 4 else chkP ns ks 0 0

/-- the parts, each in its slice -/
structure PartsIn (w : World) (b o : Nat) (A : Nat → Option Addr) (C : Nat → Nat) (bss : List (List Nat)) : Prop where
  lt : b < w.heap.size
  cell : ∀ j, j < bss.length → w.cell? ⟨b, o + j, none⟩ = some (.slice (A j) (bss.getD j []).length (C j))
  byt : ∀ j, j < bss.length → BytesIn w (A j) (bss.getD j [])
  cap : ∀ j, j < bss.length → (bss.getD j []).length ≤ C j
  nil : ∀ j, j < bss.length → A j = none → C j = 0
  big : ∀ j, j < bss.length → (bss.getD j []).length + (if j = 0 then 0 else 3000) ≤ 9223372036854775807
  val : ∀ j i, (bss.getD j []).getD i 0 < 256
theorem getD_drop {α : Type} (l : List α) (d : α) {k : Nat} (hk : k < l.length) : l.drop k = l.getD k d :: l.drop (k + 1) := by
  rw [List.drop_eq_getElem_cons hk]
  simp [List.getD, hk]

set_option maxHeartbeats 1000000 in
theorem bcheck_any (b o cp : Nat) (bk : Option Addr) (np nk ck : Nat) (A : Nat → Option Addr) (C : Nat → Nat) (bss : List (List Nat)) (ks : List Int) (w : World) (hp : bss.length = np) (hkl : ks.length = nk) (hP : bss = [] ∨ PartsIn w b o A C bss) (hK : RowIn .i64 w bk ks) (ap : Option Addr) (hap : bss ≠ [] → ap = some ⟨b, o, none⟩) (E : Int) (hE : Hid (errP (bss.map List.length) ks = E)) :
    Calls Tryz.prog 9 #[.slice ap np cp, .slice bk nk ck] w fun e w' => e = .returned (.int .i64 E) ∧ w' = w := by
  have hml : (bss.map List.length).length = np := by rw [List.length_map]; exact hp
  by_cases h0 : np = 0
  · subst h0
    have hE4 : E = 4 := by rw [← unhide hE]; unfold errP; rw [if_pos (.inl hml)]
    subst hE4
    clear hP hK hap
    go_enter Tryz.func9, Tryz.ntmps9
    go_wp2
    go_ret
    exact ⟨rfl, rfl⟩
  · have hne : bss ≠ [] := fun e => h0 (by rw [← hp, e]; rfl)
    obtain rfl := hap hne
    have hPI : PartsIn w b o A C bss := by rcases hP with h | h; exact absurd h hne; exact h
    have hb0 : ((np : Int) == 0) = false := by rw [beq_eq_false_iff_ne]; omega
    by_cases hkk : nk = np
    · subst hkk
      have hbk : ∃ b2 o2, bk = some ⟨b2, o2, none⟩ ∧ Row .i64 w b2 o2 ks := by
        rcases hK with h | ⟨b2, o2, e, _, h⟩
        · exact absurd (by rw [← hkl, h]; rfl) h0
        · exact ⟨b2, o2, e, h⟩
      obtain ⟨b2, o2, rfl, hrow⟩ := hbk
      have HE0 : Hid (chkP (bss.map List.length) ks 0 0 = E) := hide (by
        have := unhide hE
        unfold errP at this
        rw [if_neg (by rintro (h | h); exact h0 (by omega); exact h (by omega))] at this
        exact this)
      have hbb : (((nk : Int) == (nk : Int))) = true := by simp
      have HC := hide hPI.cell
      have HBG := hide hPI.big
      have HR := hide hrow
      have HP := hide hp
      have HK := hide hkl
      clear hP hK hPI hrow hE hml hap hne hp hkl hbb
      go_enter Tryz.func9, Tryz.ntmps9
      go_wp2
      go_loop [5, 20] (fun v5 v20 => ∃ k t : Nat, k ≤ nk ∧ t ≤ 3000 ∧ (k = 0 → t = 0) ∧ v5 = .int .i64 (t : Int) ∧ v20 = .int .i64 (k : Int) ∧ Hid (chkP ((bss.map List.length).drop k) (ks.drop k) k t = E)) (fun _ v20 => nk - (intOf v20).toNat)
      case atStart => exact ⟨0, 0, Nat.zero_le _, by decide, fun _ => rfl, rfl, rfl, HE0⟩
      case round =>
        obtain ⟨k, t, hk, ht, ht0, rfl, rfl, hc⟩ := hrel
        by_cases hlt : k < nk
        · have c1 := unhide HC k (by rw [unhide HP]; exact hlt)
          have hbg := unhide HBG k (by rw [unhide HP]; exact hlt)
          have c2 := unhide HR k (by rw [unhide HK]; exact hlt)
          have hd1 := getD_drop (bss.map List.length) 0 (k := k) (by rw [List.length_map, unhide HP]; exact hlt)
          have hd2 := getD_drop ks 0 (k := k) (by rw [unhide HK]; exact hlt)
          have hgl : (bss.map List.length).getD k 0 = (bss.getD k []).length := by
            have hk2 : k < bss.length := by rw [unhide HP]; exact hlt
            simp [List.getD, hk2]
          rw [hgl] at hd1
          obtain ⟨n, hn⟩ : ∃ n, (bss.getD k []).length = n := ⟨_, rfl⟩
          obtain ⟨x, hx⟩ : ∃ x, ks.getD k 0 = x := ⟨_, rfl⟩
          rw [hn] at c1 hbg hd1
          rw [hx] at c2 hd2
          have hstep : chkP ((bss.map List.length).drop k) (ks.drop k) k t = if 3000 < t + n ∨ 40 ≤ k then 2 else if x = 0 ∨ x = 1 ∨ x = 2 then chkP ((bss.map List.length).drop (k + 1)) (ks.drop (k + 1)) (k + 1) (t + n) else 3 := by rw [hd1, hd2, chkP]; rfl
          have hc' := unhide hc
          rw [hstep] at hc'
          have hltI : (k : Int) < (nk : Int) := by omega
          have hsum : t + n ≤ 9223372036854775807 := by
            by_cases e : k = 0
            · rw [if_pos e] at hbg
              have := ht0 e
              omega
            · rw [if_neg e] at hbg
              omega
          clear hbg ht0 hc hd1 hd2 hgl hn hx hstep
          generalize A k = ak at *
          generalize C k = cc at *
          by_cases h1 : 3000 < t + n
          · rw [if_pos (.inl h1)] at hc'
            subst hc'
            have h1I : (3000 : Int) < (t : Int) + (n : Int) ∨ (40 : Int) ≤ (k : Int) := .inl (by omega)
            clear h1
            go_wp2
            all_goals go_ret
            all_goals exact ⟨rfl, rfl⟩
          · have h1I : ¬ (3000 : Int) < (t : Int) + (n : Int) := by omega
            by_cases h2 : 40 ≤ k
            · rw [if_pos (.inr h2)] at hc'
              subst hc'
              have h2I : (3000 : Int) < (t : Int) + (n : Int) ∨ (40 : Int) ≤ (k : Int) := .inr (by omega)
              clear h1 h2 h1I
              go_wp2
              all_goals go_ret
              all_goals exact ⟨rfl, rfl⟩
            · have h2I : ¬ ((3000 : Int) < (t : Int) + (n : Int) ∨ (40 : Int) ≤ (k : Int)) := by omega
              rw [if_neg (by omega)] at hc'
              by_cases hx3 : x = 0 ∨ x = 1 ∨ x = 2
              · rw [if_pos hx3] at hc'
                have HC' := hide hc'
                clear hc'
                rcases hx3 with rfl | rfl | rfl
                all_goals go_wp2
                all_goals go_round
                all_goals first | exact ⟨k + 1, t + n, by omega, by omega, fun e => absurd e (by omega), by go_num, by go_num, HC'⟩ | (simp [intOf]; omega)
              · rw [if_neg hx3] at hc'
                subst hc'
                have x0 : (x == 0) = false := by rw [beq_eq_false_iff_ne]; exact fun e => hx3 (.inl e)
                have x1 : (x == 1) = false := by rw [beq_eq_false_iff_ne]; exact fun e => hx3 (.inr (.inl e))
                have x2 : (x == 2) = false := by rw [beq_eq_false_iff_ne]; exact fun e => hx3 (.inr (.inr e))
                have x3 : ((x != 0) = true ∧ (x != 1) = true) ∧ (x != 2) = true := ⟨⟨by simp [bne, x0], by simp [bne, x1]⟩, by simp [bne, x2]⟩
                clear hx3
                go_wp2
                all_goals first | (go_ret; exact ⟨rfl, rfl⟩) | (exfalso; rename_i h9; rcases h9 with (h9 | h9) | h9 <;> simp [bne, x0, x1, x2] at h9)
        · obtain rfl : k = nk := by omega
          have hE2 : E = 0 := by
            rw [← unhide hc, List.drop_eq_nil_of_le (by rw [List.length_map, unhide HP]; exact Nat.le_refl _)]
            rfl
          subst hE2
          clear hc
          go_wp2
          go_ret
          exact ⟨rfl, rfl⟩
    · have hE4 : E = 4 := by rw [← unhide hE]; unfold errP; rw [if_pos (.inr (by omega))]
      subst hE4
      have hbn : ((nk : Int) == (np : Int)) = false := by rw [beq_eq_false_iff_ne]; omega
      clear hP hK hPI hap hne
      go_enter Tryz.func9, Tryz.ntmps9
      go_wp2
      go_ret
      exact ⟨rfl, rfl⟩
end Go.Proofs.YtekgcoajgbpniacGreat

/-
  Pack.
-/
namespace Go.Proofs.YtekgcoajgbpniacGreat
open Go.RowKit
set_option linter.unusedVariables false
set_option maxRecDepth 100000

def itemsP (bss : List (List Nat)) (ks : List Int) : List (List Nat × Nat) := (bss.zip ks).map (fun p => (p.1, p.2.toNat))
theorem itemsP_drop (bss : List (List Nat)) (ks : List Int) (h : ks.length = bss.length) {k : Nat} (hk : k < bss.length) : (itemsP bss ks).drop k = (bss.getD k [], (ks.getD k 0).toNat) :: (itemsP bss ks).drop (k + 1) := by
  have hl : k < (itemsP bss ks).length := by simp [itemsP]; omega
  rw [List.drop_eq_getElem_cons hl]
  have hk2 : k < ks.length := by omega
  simp [itemsP, List.getD, hk, hk2]
theorem itemsP_len (bss : List (List Nat)) (ks : List Int) (h : ks.length = bss.length) : (itemsP bss ks).length = bss.length := by simp [itemsP]; omega
theorem chkP_step {ns : List Nat} {ks : List Int} {k t : Nat} {n : Nat} {x : Int} (hn : k < ns.length) (hk : k < ks.length) (en : ns.getD k 0 = n) (ex : ks.getD k 0 = x) (h : chkP (ns.drop k) (ks.drop k) k t = 0) : t + n ≤ 3000 ∧ k < 40 ∧ (x = 0 ∨ x = 1 ∨ x = 2) ∧ chkP (ns.drop (k + 1)) (ks.drop (k + 1)) (k + 1) (t + n) = 0 := by
  have hd1 := getD_drop ns 0 hn
  have hd2 := getD_drop ks 0 hk
  rw [en] at hd1
  rw [ex] at hd2
  rw [hd1, hd2, chkP] at h
  split at h
  · cases h
  · rename_i h1
    split at h
    · rename_i h2
      exact ⟨by omega, by omega, h2, h⟩
    · cases h

theorem chkP_len : ∀ (ns : List Nat) (ks : List Int) (i t : Nat), chkP ns ks i t = 0 → ns ≠ [] → i + ns.length ≤ 40
  | [], _, _, _, _, h => absurd rfl h
  | n :: r, ks, i, t, h, _ => by
    rw [chkP] at h
    split at h
    · cases h
    · rename_i h1
      split at h
      · by_cases e : r = []
        · subst e
          simp only [List.length_cons, List.length_nil]
          omega
        · have := chkP_len r ks.tail (i + 1) (t + n) h e
          rw [List.length_cons]
          omega
      · cases h

theorem pack_err (b o cp : Nat) (bk : Option Addr) (np nk ck : Nat) (A : Nat → Option Addr) (C : Nat → Nat) (bss : List (List Nat)) (ks : List Int) (w : World) (hp : bss.length = np) (hkl : ks.length = nk) (hP : bss = [] ∨ PartsIn w b o A C bss) (hK : RowIn .i64 w bk ks) (ap : Option Addr) (hap : bss ≠ [] → ap = some ⟨b, o, none⟩) (E : Int) (hE : Hid (errP (bss.map List.length) ks = E)) (h0 : E ≠ 0) :
    Calls Tryz.prog 4 #[.slice ap np cp, .slice bk nk ck] w fun e w' => e = .returned (.tuple #[.slice none 0 0, .int .i64 E]) ∧ w' = w := by
  have HC := hide (bcheck_any b o cp bk np nk ck A C bss ks w hp hkl hP hK ap hap E hE)
  have hb : (E == 0) = false := by rw [beq_eq_false_iff_ne]; exact h0
  have hb2 : (E != 0) = true := by simp [bne, hb]
  clear hP hK hap hE
  go_enter Tryz.func4, Tryz.ntmps4
  go_wp2_with fail
  refine (unhide HC).mono ?_
  rintro e w1 ⟨rfl, rfl⟩
  go_wp2
  go_ret2
  exact ⟨rfl, rfl⟩

set_option maxHeartbeats 1000000 in
theorem pack_ok (b o cp b2 o2 np ck : Nat) (A : Nat → Option Addr) (C : Nat → Nat) (bss : List (List Nat)) (ks : List Int) (w : World) (hp : bss.length = np) (hkl : ks.length = np) (hP : PartsIn w b o A C bss) (hb2 : b2 < w.heap.size) (hK : Row .i64 w b2 o2 ks) (hE : errP (bss.map List.length) ks = 0) :
    Calls Tryz.prog 4 #[.slice (some ⟨b, o, none⟩) np cp, .slice (some ⟨b2, o2, none⟩) np ck] w fun e w' => ∃ v out, e = .returned (.tuple #[v, .int .i64 0]) ∧ w'.ownsRow w.heap.size 5 1 v out.length (u8s out) ∧ rowB out out.length = padB (packF (itemsP bss ks) []) ∧ (∀ j, out.getD j 0 < 256) ∧ Below w.heap.size w w' := by
  have HC := hide (bcheck_any b o cp (some ⟨b2, o2, none⟩) np np ck A C bss ks w hp hkl (.inr hP) (.inr ⟨b2, o2, rfl, hb2, hK⟩) (some ⟨b, o, none⟩) (fun _ => rfl) 0 (hide hE))
  have HE0 : Hid (chkP (bss.map List.length) ks 0 0 = 0) := by
    unfold errP at hE
    split at hE
    · cases hE
    · exact hE
  have hnp : 0 < np := by
    unfold errP at hE
    split at hE
    · cases hE
    · rename_i h
      rw [List.length_map, hp] at h
      omega
  have hnp40 : np ≤ 40 := by
    have := chkP_len _ _ _ _ (unhide HE0) (fun e => by rw [List.map_eq_nil_iff] at e; rw [e] at hp; simp at hp; omega)
    rw [List.length_map, hp] at this
    omega
  have HP := hide hp
  have HKL := hide hkl
  have HPI := hide hP
  have HK := hide hK
  have hbp := hP.lt
  clear hE hP hK hp hkl
  obtain ⟨T, hT⟩ : ∃ T, packF (itemsP bss ks) [] = T := ⟨_, rfl⟩
  rw [hT]
  have HT := hide hT
  clear hT
  have HR0 := hide (RIs.empty (No := fun g => g < w.heap.size) (B := w.heap.size) (w := w.alloc (.cells #[.slice none 0 0, .int .i64 0] 37)) (b := w.heap.size) (Nat.le_refl _) (by simp) (heap_alloc_new _ _))
  go_enter Tryz.func4, Tryz.ntmps4
  go_wp2_with fail
  refine (unhide HC).mono ?_
  rintro e w1 ⟨rfl, rfl⟩
  clear HC
  go_wp2
  go_loopw [20] (fun v wr => ∃ (k t : Nat) (S : List Bool), k ≤ np ∧ t ≤ 3000 ∧ v = .int .i64 (k : Int) ∧ Hid (chkP ((bss.map List.length).drop k) (ks.drop k) k t = 0 ∧ Rp (fun g => g < w1.heap.size) w1.heap.size (w1.alloc (.cells #[.slice none 0 0, .int .i64 0] 37)) w1.heap.size S wr ∧ packF ((itemsP bss ks).drop k) S = T ∧ S.length ≤ 2400 * k + 60 * t)) (fun v _ => np - (intOf v).toNat)
  case atStart => exact ⟨0, 0, [], Nat.zero_le _, by decide, rfl, hide ⟨unhide HE0, Rp.refl (unhide HR0), unhide HT, by simp⟩⟩
  case round =>
    obtain ⟨k, t, S, hk, ht, rfl, hst⟩ := hrel
    obtain ⟨s1, s2, s3, s4⟩ := unhide hst
    have hzr := s2.below.size
    simp only [World.size_alloc] at hzr
    have hkeep : ∀ g, g < w1.heap.size → wr.heap[g]? = w1.heap[g]? := fun g hg => (s2.kp g (by simp; omega) hg).trans (Below.heap_alloc w1 _ g hg)
    by_cases hlt : k < np
    · have hkb : k < bss.length := by rw [unhide HP]; exact hlt
      have hkk : k < ks.length := by rw [unhide HKL]; exact hlt
      have c1 := (World.cell?_of_block (w := w1) (a := ⟨b, o + k, none⟩) (hkeep b hbp)).trans ((unhide HPI).cell k hkb)
      have c2 := (World.cell?_of_block (w := w1) (a := ⟨b2, o2 + k, none⟩) (hkeep b2 hb2)).trans (unhide HK k hkk)
      have hby := bytes_kp ((unhide HPI).byt k hkb) (by omega) (fun b' o' _ _ hb' => hkeep b' hb') (w' := wr)
      have hcp := (unhide HPI).cap k hkb
      have hnl := (unhide HPI).nil k hkb
      have hvl := (unhide HPI).val k
      have hib := (unhide HPI).byt k hkb
      have hid := itemsP_drop bss ks (by rw [unhide HP, unhide HKL]) hkb
      rw [hid] at s3
      obtain ⟨bs, hbs⟩ : ∃ bs, bss.getD k [] = bs := ⟨_, rfl⟩
      obtain ⟨x, hx⟩ : ∃ x, ks.getD k 0 = x := ⟨_, rfl⟩
      rw [hbs] at c1 hby hcp hvl s3 hib
      rw [hx] at c2 s3
      have hgl : (bss.map List.length).getD k 0 = bs.length := by
        rw [← hbs]
        simp [List.getD, hkb]
      obtain ⟨r1, r2, r3, r4⟩ := chkP_step (by rw [List.length_map]; exact hkb) hkk hgl hx s1
      obtain ⟨x', hx'⟩ : ∃ x' : Nat, x = (x' : Int) ∧ x' ≤ 2 := by
        rcases r3 with rfl | rfl | rfl
        · exact ⟨0, rfl, by decide⟩
        · exact ⟨1, rfl, by decide⟩
        · exact ⟨2, rfl, by decide⟩
      obtain ⟨rfl, hx2⟩ := hx'
      rw [Int.toNat_natCast] at s3
      obtain ⟨n, hn⟩ : ∃ n, bs.length = n := ⟨_, rfl⟩
      rw [hn] at c1 hcp r1 r4
      have hlast : decide ((itemsP bss ks).drop (k + 1) = []) = decide (k + 1 = np) := by
        have hl := itemsP_len bss ks (by rw [unhide HP, unhide HKL])
        rw [unhide HP] at hl
        by_cases e : k + 1 = np
        · rw [decide_eq_true e, decide_eq_true]
          exact List.drop_eq_nil_of_le (by omega)
        · rw [decide_eq_false e, decide_eq_false]
          intro h2
          have := List.drop_eq_nil_iff.1 h2
          omega
      have hpk : packF ((itemsP bss ks).drop (k + 1)) (blkB S bs x' (decide (k + 1 = np))) = T := by rw [← s3, packF, hlast]
      have HPB := hide (putBlock_any (fun g => g < w1.heap.size) w1.heap.size w1.heap.size (A k) n (C k) x' (decide (k + 1 = np)) bs S wr s2.is hn (by omega) hcp hnl hx2 hby hvl (fun b' o' e hne => by
        rcases hib with h | ⟨b3, o3, e3, hb3, _⟩
        · exact absurd h hne
        · rw [e3] at e; cases e; exact hb3) (fun g hg => by omega) (by omega))
      have hbq : ((k : Int) == (np : Int) - 1) = decide (k + 1 = np) := by
        by_cases e : k + 1 = np
        · rw [decide_eq_true e, beq_iff_eq]; omega
        · rw [decide_eq_false e, beq_eq_false_iff_ne]; omega
      obtain ⟨la, hla⟩ : ∃ la, decide (k + 1 = np) = la := ⟨_, rfl⟩
      rw [hla] at hbq hpk HPB
      clear hla
      have HS2 := hide s2
      have HPK := hide hpk
      have HR4 := hide r4
      have hkI : (k : Int) < (np : Int) := by omega
      clear hst s1 s2 s3 hkeep hby hcp hnl hvl hib hid hbs hx hgl r3 r4 hlast hpk hn hkb hkk
      generalize A k = ak at *
      generalize C k = cc at *
      go_wp2_with fail
      refine (unhide HPB).mono ?_
      rintro e w4 ⟨rfl, hle, hR⟩
      have HN := hide ((unhide HS2).trans hR)
      clear hR
      go_wp2
      go_roundw
      case rel => exact ⟨k + 1, t + n, _, by omega, by omega, by go_num, hide ⟨unhide HR4, unhide HN, unhide HPK, by omega⟩⟩
      case measure => simp [intOf]; omega
    · obtain rfl : np = k := by omega
      rw [List.drop_eq_nil_of_le (by rw [itemsP_len bss ks (by rw [unhide HP, unhide HKL]), unhide HP]; exact Nat.le_refl _), packF] at s3
      subst s3
      obtain ⟨ov, bs, h1, h2, h3, h4, h5⟩ := s2.is.ex
      have c0 : wr.cell? ⟨w1.heap.size, 0, none⟩ = some ov := heap_row h1
      obtain ⟨a', cc, rfl⟩ : ∃ a c, ov = .slice a bs.length c := own_slice' h2
      have HF : Hid (wr.ownsRow w1.heap.size 5 1 (.slice a' bs.length cc) bs.length (u8s bs) ∧ rowB bs bs.length = padB S ∧ (∀ j, bs.getD j 0 < 256) ∧ Below w1.heap.size w1 wr) := ⟨own_mono h2 (by omega), h5, h4, ((Below.refl w1.heap.size w1).alloc (Nat.le_refl _) _).trans s2.below⟩
      obtain ⟨L, hL⟩ : ∃ L, bs.length = L := ⟨_, rfl⟩
      have HL := hide hL
      rw [hL] at c0
      clear hst s1 s2 s4 hkeep h1 h2 h3 h4 h5 hL
      go_wp2
      go_ret2
      exact ⟨.slice a' bs.length cc, bs, by rw [unhide HL]; rfl, unhide HF⟩
end Go.Proofs.YtekgcoajgbpniacGreat

/-
  Codes are told apart; the next place is sought. Of bits alone.
-/
namespace Go.Proofs.YtekgcoajgbpniacGreat
set_option linter.unusedVariables false
set_option maxRecDepth 100000

theorem hb_inj : ∀ n c c', c < 2 ^ n → c' < 2 ^ n → hb c n = hb c' n → c = c'
  | 0, c, c', h, h', _ => by simp at h h'; omega
  | n + 1, c, c', h, h', e => by
    rw [Nat.pow_succ] at h h'
    rw [hb, hb] at e
    have e1 := List.append_inj e (by rw [hb_length, hb_length])
    have e2 := hb_inj n (c / 2) (c' / 2) (by omega) (by omega) e1.1
    have e3 : decide (c % 2 = 1) = decide (c' % 2 = 1) := by simpa using e1.2
    have e4 : (c % 2 = 1 ↔ c' % 2 = 1) := by simpa using e3
    omega
theorem codeT_inj (l : List Int) (hG : Good l) (s : List Bool) (hs : s ≠ []) (q q' : Nat) (hq : q < l.length) (hq' : q' < l.length) (e : codeT l q = s) (e' : codeT l q' = s) : q = q' := by
  obtain ⟨m, hm⟩ := Int.eq_ofNat_of_zero_le (hG.ok q hq).1
  obtain ⟨m', hm'⟩ := Int.eq_ofNat_of_zero_le (hG.ok q' hq').1
  have hl := congrArg List.length (e.trans e'.symm)
  have hs0 : 0 < m := by
    by_cases h : m = 0
    · subst h; unfold codeT at e; rw [hm] at e; exact absurd e.symm hs
    · omega
  have ee := e.trans e'.symm
  unfold codeT at hl ee
  rw [hm, hm', Int.toNat_natCast, Int.toNat_natCast] at hl ee
  rw [hb_length, hb_length] at hl
  subst hl
  by_cases h : q = q'
  · exact h
  · have c3 := (code_lt l hG hq hm hs0).2.2
    have c3' := (code_lt l hG hq' hm' hs0).2.2
    have := prefix_free l hG hq hq' hm hm' h hs0 (Nat.le_refl _)
    rw [Nat.sub_self, Nat.pow_zero, Nat.div_one] at this
    exact absurd (hb_inj m _ _ c3' c3 ee.symm) this
theorem nextF_go (l : List Int) (row : List Bool) (p : Nat) : ∀ k f, (∀ j, 1 ≤ j → j ≤ k → ¬ row.length < p + j ∧ findC l ((row.drop p).take j) = none) → ∀ n, n + k = k + 1 → nextF l row p (k + f) n = nextF l row p f (n + k)
  | 0, f, _, n, _ => by simp
  | k + 1, f, h, n, hn => by
    have e := nextF_go l row p k (f + 1) (fun j h1 h2 => h j h1 (by omega)) n (by omega)
    rw [show k + 1 + f = k + (f + 1) by omega, e]
    obtain rfl : n = 1 := by omega
    obtain ⟨a1, a2⟩ := h (k + 1) (by omega) (Nat.le_refl _)
    rw [nextF, show 1 + k = k + 1 by omega, if_neg a1, a2, show 1 + (k + 1) = k + 1 + 1 by omega]
end Go.Proofs.YtekgcoajgbpniacGreat

/-
  What was written is read: of bits alone.
-/
namespace Go.Proofs.YtekgcoajgbpniacGreat
set_option linter.unusedVariables false

theorem numOf_append (a b : List Bool) : numOf (a ++ b) = numOf a + 2 ^ a.length * numOf b := by
  induction a with
  | nil => simp [numOf]
  | cons x r ih =>
    rw [List.cons_append, numOf, ih, numOf, List.length_cons, Nat.pow_succ, Nat.mul_add, ← Nat.mul_assoc, Nat.mul_comm 2 (2 ^ r.length), Nat.add_assoc]
theorem numOf_numBits (x : Nat) : ∀ n, numOf (numBits x n) = x % 2 ^ n
  | 0 => by simp [numBits, numOf, Nat.mod_one]
  | n + 1 => by
    have h : numBits x (n + 1) = numBits x n ++ [x.testBit n] := rfl
    rw [h, numOf_append, numOf_numBits x n, numBits_length, Nat.pow_succ, Nat.mod_mul]
    congr 2
    have := bit_div x n
    rw [this]
    cases x.testBit n <;> simp [numOf]
/-- a number that stands there is read -/
theorem uget_ok (row : List Bool) (n x : Nat) (u : US) (he : u.e = 0) (hle : u.p + n ≤ row.length) (hx : x < 2 ^ n) (h : (row.drop u.p).take n = numBits x n) : uget row n u = (x, { u with p := u.p + n }) := by
  unfold uget
  rw [if_pos he, if_neg (by omega), h, numOf_numBits, Nat.mod_eq_of_lt hx]
theorem hb_take (c : Nat) : ∀ n j, j ≤ n → (hb c n).take j = hb (c / 2 ^ (n - j)) j := by
  intro n
  induction n generalizing c with
  | zero =>
    intro j hj
    obtain rfl : j = 0 := by omega
    rfl
  | succ n ih =>
    intro j hj
    by_cases e : j = n + 1
    · subst e
      rw [Nat.sub_self, Nat.pow_zero, Nat.div_one, List.take_of_length_le (by rw [hb_length]; exact Nat.le_refl _)]
    · rw [hb, List.take_append_of_le_length (by rw [hb_length]; omega), ih (c / 2) j (by omega), Nat.div_div_eq_div_mul, ← Nat.pow_succ', show n + 1 - j = (n - j) + 1 by omega]
/-- no code begins another one -/
theorem codeT_free (l : List Int) (hG : Good l) (q q' : Nat) (hq : q < l.length) (hq' : q' < l.length) (hpos : codeT l q ≠ []) (h : codeT l q = (codeT l q').take (codeT l q).length) : q = q' := by
  obtain ⟨m, hm⟩ := Int.eq_ofNat_of_zero_le (hG.ok q hq).1
  obtain ⟨m', hm'⟩ := Int.eq_ofNat_of_zero_le (hG.ok q' hq').1
  have hl : (codeT l q).length = m := by unfold codeT; rw [hm, Int.toNat_natCast, hb_length]
  have hl' : (codeT l q').length = m' := by unfold codeT; rw [hm', Int.toNat_natCast, hb_length]
  have hm0 : 0 < m := by
    rw [← hl]
    exact List.length_pos_iff.2 hpos
  have hle : m ≤ m' := by
    have := congrArg List.length h
    rw [List.length_take, hl, hl'] at this
    omega
  by_cases e : q = q'
  · exact e
  · exfalso
    have hp := prefix_free l hG hq hq' hm hm' e hm0 hle
    rw [hl] at h
    unfold codeT at h
    rw [hm, hm', Int.toNat_natCast, Int.toNat_natCast, hb_take _ _ _ hle] at h
    have c3 := (code_lt l hG hq hm hm0).2.2
    have c3' := (code_lt l hG hq' hm' (by omega)).2.2
    have hlt : codeN l q' / 2 ^ (m' - m) < 2 ^ m := by
      rw [Nat.div_lt_iff_lt_mul (Nat.two_pow_pos _), ← Nat.pow_add, show m + (m' - m) = m' by omega]
      exact c3'
    exact hp (hb_inj m _ _ hlt c3 h.symm)
/-- a place whose code stands there is read -/
theorem uplace_ok (l : List Int) (hG : Good l) (row : List Bool) (q : Nat) (u : US) (he : u.e = 0) (hq : q < l.length) (hpos : codeT l q ≠ []) (hle : u.p + (codeT l q).length ≤ row.length) (h : (row.drop u.p).take (codeT l q).length = codeT l q) : uplace l row u = (q, { u with p := u.p + (codeT l q).length }) := by
  obtain ⟨m, hm⟩ := Int.eq_ofNat_of_zero_le (hG.ok q hq).1
  have hm15 := (hG.ok q hq).2
  have hl : (codeT l q).length = m := by unfold codeT; rw [hm, Int.toNat_natCast, hb_length]
  have hm0 : 0 < m := by
    rw [← hl]
    exact List.length_pos_iff.2 hpos
  obtain ⟨k, rfl⟩ : ∃ k, m = k + 1 := ⟨m - 1, by omega⟩
  rw [hm] at hm15
  rw [hl] at hle h ⊢
  have hfree : ∀ j, 1 ≤ j → j ≤ k → findC l ((row.drop u.p).take j) = none := by
    intro j h1 h2
    unfold findC
    rw [List.find?_eq_none]
    intro q2 hq2
    simp only [decide_eq_true_eq]
    intro e
    have hj : (codeT l q2).length = j := by
      rw [e, List.length_take, List.length_drop]
      omega
    have hne : codeT l q2 ≠ [] := fun e0 => by rw [e0] at hj; simp at hj; omega
    have := codeT_free l hG q2 q (by simpa using hq2) hq hne (by
      rw [hj, ← h, List.take_take, show min j (k + 1) = j by omega]
      exact e)
    subst this
    omega
  have hfound : findC l ((row.drop u.p).take (k + 1)) = some q := by
    unfold findC
    cases hf : (List.range l.length).find? (fun q2 => decide (codeT l q2 = (row.drop u.p).take (k + 1))) with
    | none =>
      rw [List.find?_eq_none] at hf
      exact absurd (by simpa using h.symm) (hf q (by simpa using hq))
    | some y =>
      have hy := List.find?_some hf
      have hy2 := List.mem_of_find?_eq_some hf
      simp only [decide_eq_true_eq] at hy
      rw [codeT_inj l hG (codeT l q) hpos y q (by simpa using hy2) hq (hy.trans h) rfl]
  have hn : nextR l row u.p = (q, k + 1, 0) := by
    unfold nextR
    have := nextF_go l row u.p k (15 - k) (fun j h1 h2 => ⟨by omega, hfree j h1 h2⟩) 1 (by omega)
    rw [show k + (15 - k) = 15 by omega] at this
    rw [this, show 15 - k = (14 - k) + 1 by omega, nextF, show 1 + k = k + 1 by omega, if_neg (by omega), hfound]
  unfold uplace
  rw [if_pos he, hn]
  simp [he]
end Go.Proofs.YtekgcoajgbpniacGreat
