/-
  What Pack is given, checked.
-/
import Derived.Test.YtfoaaamcpknjnacQ29
import Derived.Test.YtfoaaamcpknjnacQ16
import Derived.Test.YtfoaaamcpknjnacQ5
namespace Go.Proofs.Ytfoaaamcpknjnac
open Go.RowKit
set_option linter.unusedVariables false
set_option maxRecDepth 100000

/-- what is wrong with parts of these lengths and their kinds, from the i-th on, behind t bytes -/
def chkP : List Nat → List Int → Nat → Nat → Int
  | [], _, _, _ => 0
  | n :: r, ks, i, t => if 3000 < t + n ∨ 40 ≤ i then 2 else if ks.headD 0 = 0 ∨ ks.headD 0 = 1 ∨ ks.headD 0 = 2 then chkP r ks.tail (i + 1) (t + n) else 3
def errP (ns : List Nat) (ks : List Int) : Int := if ns.length = 0 ∨ ks.length ≠ ns.length then 4 else chkP ns ks 0 0

theorem getD_drop {α : Type} (l : List α) (d : α) {k : Nat} (hk : k < l.length) : l.drop k = l.getD k d :: l.drop (k + 1) := by
  rw [List.drop_eq_getElem_cons hk]
  simp [List.getD, hk]

set_option maxHeartbeats 1000000 in
theorem bcheck_any (b o cp : Nat) (bk : Option Addr) (np nk ck : Nat) (A : Nat → Option Addr) (C : Nat → Nat) (bss : List (List Nat)) (ks : List Int) (w : World) (hp : bss.length = np) (hkl : ks.length = nk) (hP : bss = [] ∨ PartsIn w b o A C bss) (hK : RowIn .i64 w bk ks) (ap : Option Addr) (hap : bss ≠ [] → ap = some ⟨b, o, none⟩) (E : Int) (hE : Hid (errP (bss.map List.length) ks = E)) :
    Calls Try.prog 25 #[.slice ap np cp, .slice bk nk ck] w fun e w' => e = .returned (.int .i64 E) ∧ w' = w := by
  have hml : (bss.map List.length).length = np := by rw [List.length_map]; exact hp
  by_cases h0 : np = 0
  · subst h0
    have hE4 : E = 4 := by rw [← unhide hE]; unfold errP; rw [if_pos (.inl hml)]
    subst hE4
    clear hP hK hap
    go_enter Try.func25, Try.ntmps25
    go_wp2
    go_ret
    exact ⟨rfl, rfl⟩
  · have hne : bss ≠ [] := fun e => h0 (by rw [← hp, e]; rfl)
    obtain rfl := hap hne
    have hPI : PartsIn w b o A C bss := by rcases hP with h | h; exact absurd h hne; exact h
    have hb0 : ((np : Int) == 0) = false := by rw [beq_eq_false_iff_ne]; omega
    by_cases hkk : nk = np
    · subst hkk
      have hbk : ∃ b2 o2, bk = some ⟨b2, o2, none⟩ ∧ Row .i64 w b2 o2 ks := by
        rcases hK with h | ⟨b2, o2, e, _, h⟩
        · exact absurd (by rw [← hkl, h]; rfl) h0
        · exact ⟨b2, o2, e, h⟩
      obtain ⟨b2, o2, rfl, hrow⟩ := hbk
      have HE0 : Hid (chkP (bss.map List.length) ks 0 0 = E) := hide (by
        have := unhide hE
        unfold errP at this
        rw [if_neg (by rintro (h | h); exact h0 (by omega); exact h (by omega))] at this
        exact this)
      have hbb : (((nk : Int) == (nk : Int))) = true := by simp
      have HC := hide hPI.cell
      have HBG := hide hPI.big
      have HR := hide hrow
      have HP := hide hp
      have HK := hide hkl
      clear hP hK hPI hrow hE hml hap hne hp hkl hbb
      go_enter Try.func25, Try.ntmps25
      go_wp2
      go_loop [5, 20] (fun v5 v20 => ∃ k t : Nat, k ≤ nk ∧ t ≤ 3000 ∧ (k = 0 → t = 0) ∧ v5 = .int .i64 (t : Int) ∧ v20 = .int .i64 (k : Int) ∧ Hid (chkP ((bss.map List.length).drop k) (ks.drop k) k t = E)) (fun _ v20 => nk - (intOf v20).toNat)
      case atStart => exact ⟨0, 0, Nat.zero_le _, by decide, fun _ => rfl, rfl, rfl, HE0⟩
      case round =>
        obtain ⟨k, t, hk, ht, ht0, rfl, rfl, hc⟩ := hrel
        by_cases hlt : k < nk
        · have c1 := unhide HC k (by rw [unhide HP]; exact hlt)
          have hbg := unhide HBG k (by rw [unhide HP]; exact hlt)
          have c2 := unhide HR k (by rw [unhide HK]; exact hlt)
          have hd1 := getD_drop (bss.map List.length) 0 (k := k) (by rw [List.length_map, unhide HP]; exact hlt)
          have hd2 := getD_drop ks 0 (k := k) (by rw [unhide HK]; exact hlt)
          have hgl : (bss.map List.length).getD k 0 = (bss.getD k []).length := by
            have hk2 : k < bss.length := by rw [unhide HP]; exact hlt
            simp [List.getD, hk2]
          rw [hgl] at hd1
          obtain ⟨n, hn⟩ : ∃ n, (bss.getD k []).length = n := ⟨_, rfl⟩
          obtain ⟨x, hx⟩ : ∃ x, ks.getD k 0 = x := ⟨_, rfl⟩
          rw [hn] at c1 hbg hd1
          rw [hx] at c2 hd2
          have hstep : chkP ((bss.map List.length).drop k) (ks.drop k) k t = if 3000 < t + n ∨ 40 ≤ k then 2 else if x = 0 ∨ x = 1 ∨ x = 2 then chkP ((bss.map List.length).drop (k + 1)) (ks.drop (k + 1)) (k + 1) (t + n) else 3 := by rw [hd1, hd2, chkP]; rfl
          have hc' := unhide hc
          rw [hstep] at hc'
          have hltI : (k : Int) < (nk : Int) := by omega
          have hsum : t + n ≤ 9223372036854775807 := by
            by_cases e : k = 0
            · rw [if_pos e] at hbg
              have := ht0 e
              omega
            · rw [if_neg e] at hbg
              omega
          clear hbg ht0 hc hd1 hd2 hgl hn hx hstep
          generalize A k = ak at *
          generalize C k = cc at *
          by_cases h1 : 3000 < t + n
          · rw [if_pos (.inl h1)] at hc'
            subst hc'
            have h1I : (3000 : Int) < (t : Int) + (n : Int) ∨ (40 : Int) ≤ (k : Int) := .inl (by omega)
            clear h1
            go_wp2
            all_goals go_ret
            all_goals exact ⟨rfl, rfl⟩
          · have h1I : ¬ (3000 : Int) < (t : Int) + (n : Int) := by omega
            by_cases h2 : 40 ≤ k
            · rw [if_pos (.inr h2)] at hc'
              subst hc'
              have h2I : (3000 : Int) < (t : Int) + (n : Int) ∨ (40 : Int) ≤ (k : Int) := .inr (by omega)
              clear h1 h2 h1I
              go_wp2
              all_goals go_ret
              all_goals exact ⟨rfl, rfl⟩
            · have h2I : ¬ ((3000 : Int) < (t : Int) + (n : Int) ∨ (40 : Int) ≤ (k : Int)) := by omega
              rw [if_neg (by omega)] at hc'
              by_cases hx3 : x = 0 ∨ x = 1 ∨ x = 2
              · rw [if_pos hx3] at hc'
                have HC' := hide hc'
                clear hc'
                rcases hx3 with rfl | rfl | rfl
                all_goals go_wp2
                all_goals go_round
                all_goals first | exact ⟨k + 1, t + n, by omega, by omega, fun e => absurd e (by omega), by go_num, by go_num, HC'⟩ | (simp [intOf]; omega)
              · rw [if_neg hx3] at hc'
                subst hc'
                have x0 : (x == 0) = false := by rw [beq_eq_false_iff_ne]; exact fun e => hx3 (.inl e)
                have x1 : (x == 1) = false := by rw [beq_eq_false_iff_ne]; exact fun e => hx3 (.inr (.inl e))
                have x2 : (x == 2) = false := by rw [beq_eq_false_iff_ne]; exact fun e => hx3 (.inr (.inr e))
                have x3 : ((x != 0) = true ∧ (x != 1) = true) ∧ (x != 2) = true := ⟨⟨by simp [bne, x0], by simp [bne, x1]⟩, by simp [bne, x2]⟩
                clear hx3
                go_wp2
                all_goals first | (go_ret; exact ⟨rfl, rfl⟩) | (exfalso; rename_i h9; rcases h9 with (h9 | h9) | h9 <;> simp [bne, x0, x1, x2] at h9)
        · obtain rfl : k = nk := by omega
          have hE2 : E = 0 := by
            rw [← unhide hc, List.drop_eq_nil_of_le (by rw [List.length_map, unhide HP]; exact Nat.le_refl _)]
            rfl
          subst hE2
          clear hc
          go_wp2
          go_ret
          exact ⟨rfl, rfl⟩
    · have hE4 : E = 4 := by rw [← unhide hE]; unfold errP; rw [if_pos (.inr (by omega))]
      subst hE4
      have hbn : ((nk : Int) == (np : Int)) = false := by rw [beq_eq_false_iff_ne]; omega
      clear hP hK hPI hap hne
      go_enter Try.func25, Try.ntmps25
      go_wp2
      go_ret
      exact ⟨rfl, rfl⟩
end Go.Proofs.Ytfoaaamcpknjnac

/-
  Pack.
-/
namespace Go.Proofs.Ytfoaaamcpknjnac
open Go.RowKit
set_option linter.unusedVariables false
set_option maxRecDepth 100000

def itemsP (bss : List (List Nat)) (ks : List Int) : List (List Nat × Nat) := (bss.zip ks).map (fun p => (p.1, p.2.toNat))
theorem itemsP_drop (bss : List (List Nat)) (ks : List Int) (h : ks.length = bss.length) {k : Nat} (hk : k < bss.length) : (itemsP bss ks).drop k = (bss.getD k [], (ks.getD k 0).toNat) :: (itemsP bss ks).drop (k + 1) := by
  have hl : k < (itemsP bss ks).length := by simp [itemsP]; omega
  rw [List.drop_eq_getElem_cons hl]
  have hk2 : k < ks.length := by omega
  simp [itemsP, List.getD, hk, hk2]
theorem itemsP_len (bss : List (List Nat)) (ks : List Int) (h : ks.length = bss.length) : (itemsP bss ks).length = bss.length := by simp [itemsP]; omega
theorem chkP_step {ns : List Nat} {ks : List Int} {k t : Nat} {n : Nat} {x : Int} (hn : k < ns.length) (hk : k < ks.length) (en : ns.getD k 0 = n) (ex : ks.getD k 0 = x) (h : chkP (ns.drop k) (ks.drop k) k t = 0) : t + n ≤ 3000 ∧ k < 40 ∧ (x = 0 ∨ x = 1 ∨ x = 2) ∧ chkP (ns.drop (k + 1)) (ks.drop (k + 1)) (k + 1) (t + n) = 0 := by
  have hd1 := getD_drop ns 0 hn
  have hd2 := getD_drop ks 0 hk
  rw [en] at hd1
  rw [ex] at hd2
  rw [hd1, hd2, chkP] at h
  split at h
  · cases h
  · rename_i h1
    split at h
    · rename_i h2
      exact ⟨by omega, by omega, h2, h⟩
    · cases h

theorem chkP_len : ∀ (ns : List Nat) (ks : List Int) (i t : Nat), chkP ns ks i t = 0 → ns ≠ [] → i + ns.length ≤ 40
  | [], _, _, _, _, h => absurd rfl h
  | n :: r, ks, i, t, h, _ => by
    rw [chkP] at h
    split at h
    · cases h
    · rename_i h1
      split at h
      · by_cases e : r = []
        · subst e
          simp only [List.length_cons, List.length_nil]
          omega
        · have := chkP_len r ks.tail (i + 1) (t + n) h e
          rw [List.length_cons]
          omega
      · cases h

theorem pack_err (b o cp : Nat) (bk : Option Addr) (np nk ck : Nat) (A : Nat → Option Addr) (C : Nat → Nat) (bss : List (List Nat)) (ks : List Int) (w : World) (hp : bss.length = np) (hkl : ks.length = nk) (hP : bss = [] ∨ PartsIn w b o A C bss) (hK : RowIn .i64 w bk ks) (ap : Option Addr) (hap : bss ≠ [] → ap = some ⟨b, o, none⟩) (E : Int) (hE : Hid (errP (bss.map List.length) ks = E)) (h0 : E ≠ 0) :
    Calls Try.prog 14 #[.slice ap np cp, .slice bk nk ck] w fun e w' => e = .returned (.tuple #[.slice none 0 0, .int .i64 E]) ∧ w' = w := by
  have HC := hide (bcheck_any b o cp bk np nk ck A C bss ks w hp hkl hP hK ap hap E hE)
  have hb : (E == 0) = false := by rw [beq_eq_false_iff_ne]; exact h0
  have hb2 : (E != 0) = true := by simp [bne, hb]
  clear hP hK hap hE
  go_enter Try.func14, Try.ntmps14
  go_wp2_with fail
  refine (unhide HC).mono ?_
  rintro e w1 ⟨rfl, rfl⟩
  go_wp2
  go_ret2
  exact ⟨rfl, rfl⟩

set_option maxHeartbeats 1000000 in
theorem pack_ok (b o cp b2 o2 np ck : Nat) (A : Nat → Option Addr) (C : Nat → Nat) (bss : List (List Nat)) (ks : List Int) (w : World) (hp : bss.length = np) (hkl : ks.length = np) (hP : PartsIn w b o A C bss) (hb2 : b2 < w.heap.size) (hK : Row .i64 w b2 o2 ks) (hE : errP (bss.map List.length) ks = 0) :
    Calls Try.prog 14 #[.slice (some ⟨b, o, none⟩) np cp, .slice (some ⟨b2, o2, none⟩) np ck] w fun e w' => ∃ v out, e = .returned (.tuple #[v, .int .i64 0]) ∧ w'.ownsRow w.heap.size 5 1 v out.length (u8s out) ∧ rowB out out.length = padB (packF (itemsP bss ks) []) ∧ (∀ j, out.getD j 0 < 256) ∧ Below w.heap.size w w' := by
  have HC := hide (bcheck_any b o cp (some ⟨b2, o2, none⟩) np np ck A C bss ks w hp hkl (.inr hP) (.inr ⟨b2, o2, rfl, hb2, hK⟩) (some ⟨b, o, none⟩) (fun _ => rfl) 0 (hide hE))
  have HE0 : Hid (chkP (bss.map List.length) ks 0 0 = 0) := by
    unfold errP at hE
    split at hE
    · cases hE
    · exact hE
  have hnp : 0 < np := by
    unfold errP at hE
    split at hE
    · cases hE
    · rename_i h
      rw [List.length_map, hp] at h
      omega
  have hnp40 : np ≤ 40 := by
    have := chkP_len _ _ _ _ (unhide HE0) (fun e => by rw [List.map_eq_nil_iff] at e; rw [e] at hp; simp at hp; omega)
    rw [List.length_map, hp] at this
    omega
  have HP := hide hp
  have HKL := hide hkl
  have HPI := hide hP
  have HK := hide hK
  have hbp := hP.lt
  clear hE hP hK hp hkl
  obtain ⟨T, hT⟩ : ∃ T, packF (itemsP bss ks) [] = T := ⟨_, rfl⟩
  rw [hT]
  have HT := hide hT
  clear hT
  have HR0 := hide (RIs.empty (No := fun g => g < w.heap.size) (B := w.heap.size) (w := w.alloc (.cells #[.slice none 0 0, .int .i64 0] 54)) (b := w.heap.size) (Nat.le_refl _) (by simp) (heap_alloc_new _ _))
  go_enter Try.func14, Try.ntmps14
  go_wp2_with fail
  refine (unhide HC).mono ?_
  rintro e w1 ⟨rfl, rfl⟩
  clear HC
  go_wp2
  go_loopw [20] (fun v wr => ∃ (k t : Nat) (S : List Bool), k ≤ np ∧ t ≤ 3000 ∧ v = .int .i64 (k : Int) ∧ Hid (chkP ((bss.map List.length).drop k) (ks.drop k) k t = 0 ∧ Rp (fun g => g < w1.heap.size) w1.heap.size (w1.alloc (.cells #[.slice none 0 0, .int .i64 0] 54)) w1.heap.size S wr ∧ packF ((itemsP bss ks).drop k) S = T ∧ S.length ≤ 2400 * k + 60 * t)) (fun v _ => np - (intOf v).toNat)
  case atStart => exact ⟨0, 0, [], Nat.zero_le _, by decide, rfl, hide ⟨unhide HE0, Rp.refl (unhide HR0), unhide HT, by simp⟩⟩
  case round =>
    obtain ⟨k, t, S, hk, ht, rfl, hst⟩ := hrel
    obtain ⟨s1, s2, s3, s4⟩ := unhide hst
    have hzr := s2.below.size
    simp only [World.size_alloc] at hzr
    have hkeep : ∀ g, g < w1.heap.size → wr.heap[g]? = w1.heap[g]? := fun g hg => (s2.kp g (by simp; omega) hg).trans (Below.heap_alloc w1 _ g hg)
    by_cases hlt : k < np
    · have hkb : k < bss.length := by rw [unhide HP]; exact hlt
      have hkk : k < ks.length := by rw [unhide HKL]; exact hlt
      have c1 := (World.cell?_of_block (w := w1) (a := ⟨b, o + k, none⟩) (hkeep b hbp)).trans ((unhide HPI).cell k hkb)
      have c2 := (World.cell?_of_block (w := w1) (a := ⟨b2, o2 + k, none⟩) (hkeep b2 hb2)).trans (unhide HK k hkk)
      have hby := bytes_kp ((unhide HPI).byt k hkb) (by omega) (fun b' o' _ _ hb' => hkeep b' hb') (w' := wr)
      have hcp := (unhide HPI).cap k hkb
      have hnl := (unhide HPI).nil k hkb
      have hvl := (unhide HPI).val k
      have hib := (unhide HPI).byt k hkb
      have hid := itemsP_drop bss ks (by rw [unhide HP, unhide HKL]) hkb
      rw [hid] at s3
      obtain ⟨bs, hbs⟩ : ∃ bs, bss.getD k [] = bs := ⟨_, rfl⟩
      obtain ⟨x, hx⟩ : ∃ x, ks.getD k 0 = x := ⟨_, rfl⟩
      rw [hbs] at c1 hby hcp hvl s3 hib
      rw [hx] at c2 s3
      have hgl : (bss.map List.length).getD k 0 = bs.length := by
        rw [← hbs]
        simp [List.getD, hkb]
      obtain ⟨r1, r2, r3, r4⟩ := chkP_step (by rw [List.length_map]; exact hkb) hkk hgl hx s1
      obtain ⟨x', hx'⟩ : ∃ x' : Nat, x = (x' : Int) ∧ x' ≤ 2 := by
        rcases r3 with rfl | rfl | rfl
        · exact ⟨0, rfl, by decide⟩
        · exact ⟨1, rfl, by decide⟩
        · exact ⟨2, rfl, by decide⟩
      obtain ⟨rfl, hx2⟩ := hx'
      rw [Int.toNat_natCast] at s3
      obtain ⟨n, hn⟩ : ∃ n, bs.length = n := ⟨_, rfl⟩
      rw [hn] at c1 hcp r1 r4
      have hlast : decide ((itemsP bss ks).drop (k + 1) = []) = decide (k + 1 = np) := by
        have hl := itemsP_len bss ks (by rw [unhide HP, unhide HKL])
        rw [unhide HP] at hl
        by_cases e : k + 1 = np
        · rw [decide_eq_true e, decide_eq_true]
          exact List.drop_eq_nil_of_le (by omega)
        · rw [decide_eq_false e, decide_eq_false]
          intro h2
          have := List.drop_eq_nil_iff.1 h2
          omega
      have hpk : packF ((itemsP bss ks).drop (k + 1)) (blkB S bs x' (decide (k + 1 = np))) = T := by rw [← s3, packF, hlast]
      have HPB := hide (putBlock_any (fun g => g < w1.heap.size) w1.heap.size w1.heap.size (A k) n (C k) x' (decide (k + 1 = np)) bs S wr s2.is hn (by omega) hcp hnl hx2 hby hvl (fun b' o' e hne => by
        rcases hib with h | ⟨b3, o3, e3, hb3, _⟩
        · exact absurd h hne
        · rw [e3] at e; cases e; exact hb3) (fun g hg => by omega) (by omega))
      have hbq : ((k : Int) == (np : Int) - 1) = decide (k + 1 = np) := by
        by_cases e : k + 1 = np
        · rw [decide_eq_true e, beq_iff_eq]; omega
        · rw [decide_eq_false e, beq_eq_false_iff_ne]; omega
      obtain ⟨la, hla⟩ : ∃ la, decide (k + 1 = np) = la := ⟨_, rfl⟩
      rw [hla] at hbq hpk HPB
      clear hla
      have HS2 := hide s2
      have HPK := hide hpk
      have HR4 := hide r4
      have hkI : (k : Int) < (np : Int) := by omega
      clear hst s1 s2 s3 hkeep hby hcp hnl hvl hib hid hbs hx hgl r3 r4 hlast hpk hn hkb hkk
      generalize A k = ak at *
      generalize C k = cc at *
      go_wp2_with fail
      refine (unhide HPB).mono ?_
      rintro e w4 ⟨rfl, hle, hR⟩
      have HN := hide ((unhide HS2).trans hR)
      clear hR
      go_wp2
      go_roundw
      case rel => exact ⟨k + 1, t + n, _, by omega, by omega, by go_num, hide ⟨unhide HR4, unhide HN, unhide HPK, by omega⟩⟩
      case measure => simp [intOf]; omega
    · obtain rfl : np = k := by omega
      rw [List.drop_eq_nil_of_le (by rw [itemsP_len bss ks (by rw [unhide HP, unhide HKL]), unhide HP]; exact Nat.le_refl _), packF] at s3
      subst s3
      obtain ⟨ov, bs, h1, h2, h3, h4, h5⟩ := s2.is.ex
      have c0 : wr.cell? ⟨w1.heap.size, 0, none⟩ = some ov := heap_row h1
      obtain ⟨a', cc, rfl⟩ : ∃ a c, ov = .slice a bs.length c := own_slice' h2
      have HF : Hid (wr.ownsRow w1.heap.size 5 1 (.slice a' bs.length cc) bs.length (u8s bs) ∧ rowB bs bs.length = padB S ∧ (∀ j, bs.getD j 0 < 256) ∧ Below w1.heap.size w1 wr) := ⟨own_mono h2 (by omega), h5, h4, ((Below.refl w1.heap.size w1).alloc (Nat.le_refl _) _).trans s2.below⟩
      obtain ⟨L, hL⟩ : ∃ L, bs.length = L := ⟨_, rfl⟩
      have HL := hide hL
      rw [hL] at c0
      clear hst s1 s2 s4 hkeep h1 h2 h3 h4 h5 hL
      go_wp2
      go_ret2
      exact ⟨.slice a' bs.length cc, bs, by rw [unhide HL]; rfl, unhide HF⟩
end Go.Proofs.Ytfoaaamcpknjnac

/-
  What was packed is read by the document's own reader: tokens. Of bits alone.
-/
namespace Go.Proofs.Ytfoaaamcpknjnac
set_option linter.unusedVariables false
set_option maxRecDepth 100000

theorem uplace_at (l : List Int) (hG : Good l) (row : List Bool) (q : Nat) (u : US) (R : List Bool) (he : u.e = 0) (hq : q < l.length) (hpos : 0 < l.getD q 0) (h : row.drop u.p = codeT l q ++ R) : uplace l row u = (q, { u with p := u.p + (codeT l q).length }) := by
  have hl := code_len l hG q
  have hne : codeT l q ≠ [] := fun e => by rw [e, List.length_nil] at hl; omega
  refine uplace_ok l hG row q u he hq hne (drop_len h (List.length_pos_iff.2 hne)) ?_
  rw [h, List.take_append_of_le_length (Nat.le_refl _), List.take_length]

/-! how many, how far -/
theorem ucopy_ok (d : Nat) : ∀ (n : Nat) (u : US), u.e = 0 → u.out.length + n ≤ 3000 → ucopy d n u = { u with out := copyN u.out d n }
  | 0, u, he, h => by rw [ucopy, copyN]
  | n + 1, u, he, h => by
    rw [ucopy, if_pos he, copyN]
    have e : usay (u.out.getD (u.out.length - d) 0) u = { u with out := u.out ++ [u.out.getD (u.out.length - d) 0] } := by
      unfold usay; rw [if_pos he, if_neg (by omega)]
    rw [e, ucopy_ok d n { u with out := u.out ++ [u.out.getD (u.out.length - d) 0] } he (by simp; omega)]
theorem wid_pos {t : Tk} {n : Nat} (h : errOne t n = 0) : 1 ≤ wid t := (wid_le h).1
/-- a token that stands there is read -/
theorem utok1_ok (a b : List Int) (hA : Good a) (hB : Good b) (row : List Bool) (t : Tk) (u : US) (R : List Bool) (he : u.e = 0) (hu : u.p ≤ row.length) (ht : errOne t u.out.length = 0) (h256 : t.1 < 256) (hlen : u.out.length + wid t ≤ 3000) (hh : Has a b (itOf t)) (h : row.drop u.p = putIs a b (itOf t) ++ R) :
    utok1 row a b u = (true, { u with p := u.p + (putIs a b (itOf t)).length, out := putT t u.out }) ∧ u.p + (putIs a b (itOf t)).length ≤ row.length := by
  have hR := congrArg List.length h
  rw [List.length_drop, List.length_append] at hR
  refine ⟨?_, by omega⟩
  obtain ⟨b0, n, d⟩ := t
  rcases errOne_right ht with ⟨h1, h2⟩ | ⟨h1, h2, h3, h4, h5⟩
  · simp only at h1 h2 h256 hlen
    have ei : itOf (b0, n, d) = [.sym b0] := by unfold itOf; rw [if_pos h1]
    rw [ei] at hh h ⊢
    have hp : putIs a b [.sym b0] = codeT a b0 := by simp [putIs, putI]
    rw [hp] at h ⊢
    obtain ⟨k1, k2⟩ := hh.1 b0 (by simp)
    have hw : wid (b0, n, d) = 1 := by unfold wid; rw [if_pos h1]
    rw [hw] at hlen
    have hpt : putT (b0, n, d) u.out = u.out ++ [b0] := by unfold putT; rw [if_pos h1]
    unfold utok1
    rw [uplace_at a hA row b0 u R he k1 k2 h]
    simp only
    rw [if_neg (by simp [he]; omega), if_pos h256, hpt]
    unfold usay
    simp only
    rw [if_pos he, if_neg (by omega)]
  · simp only at h1 h2 h3 h4 h5 hlen
    obtain ⟨n, rfl⟩ := Int.eq_ofNat_of_zero_le (show 0 ≤ n by omega)
    obtain ⟨d, rfl⟩ := Int.eq_ofNat_of_zero_le (show 0 ≤ d by omega)
    have hn0 : ¬ ((n : Nat) : Int) = 0 := by omega
    have ei : itOf (b0, (n : Int), (d : Int)) = [.sym (manyI n).1, .rest (manyI n).2.1 (manyI n).2.2, .far (farI d).1, .rest (farI d).2.1 (farI d).2.2] := by unfold itOf; rw [if_neg hn0]; rfl
    have hw : wid (b0, (n : Int), (d : Int)) = n := by unfold wid; rw [if_neg hn0]; rfl
    rw [hw] at hlen
    have hpt : putT (b0, (n : Int), (d : Int)) u.out = copyN u.out d n := by unfold putT; rw [if_neg hn0]; rfl
    obtain ⟨m1, m2, m3, m4, m5, m6, _⟩ := many_is (n := n) (by omega) (by omega)
    obtain ⟨f1, f2, f3, f4, f5⟩ := far_is (d := d) (by omega) (by omega)
    rw [ei] at hh h hR ⊢
    obtain ⟨k1, k2⟩ := hh.1 (manyI n).1 (by simp)
    obtain ⟨k3, k4⟩ := hh.2 (farI d).1 (by simp)
    generalize hm1 : (manyI n).1 = M at *
    generalize hm2 : (manyI n).2.1 = MR at *
    generalize hm3 : (manyI n).2.2 = MS at *
    generalize hf1 : (farI d).1 = F at *
    generalize hf2 : (farI d).2.1 = FR at *
    generalize hf3 : (farI d).2.2 = FZ at *
    have hp : putIs a b [.sym M, .rest MR MS, .far F, .rest FR FZ] = codeT a M ++ (numBits MR MS ++ (codeT b F ++ numBits FR FZ)) := by simp [putIs, putI]
    rw [hp] at h hR ⊢
    simp only [List.append_assoc] at h
    simp only [List.length_append, numBits_length] at hR
    have c1 := uplace_at a hA row M u _ he k1 k2 h
    have d1 := drop_more h
    have c2 := uget_at row MS MR { u with p := u.p + (codeT a M).length } _ he (by simp only; omega) m5 d1
    have d2 := drop_more d1
    rw [numBits_length] at d2
    have c3 := uplace_at b hB row F { u with p := u.p + (codeT a M).length + MS } _ he k3 k4 d2
    have d3 := drop_more d2
    have c4 := uget_at row FZ FR { u with p := u.p + (codeT a M).length + MS + (codeT b F).length } _ he (by simp only; omega) f4 d3
    unfold utok1
    rw [c1]
    simp only
    rw [if_neg (by rintro (h9 | h9); exact h9 he; omega), if_neg (by omega), if_neg (by omega)]
    unfold usame
    simp only [m3, c2, c3]
    rw [if_neg (show ¬ (u.e = 0 ∧ 29 < F) by omega)]
    rw [if_neg (show ¬ (u.e ≠ 0) from fun h9 => h9 he)]
    unfold ufar
    simp only [f2, c4, f3, m4]
    rw [if_neg (show ¬ (u.e = 0 ∧ u.out.length < d) by omega), ucopy_ok d n { u with p := u.p + (codeT a M).length + MS + (codeT b F).length + FZ } he (by simp only; omega), hpt]
    simp only [List.length_append, numBits_length]
    congr 2
    omega
/-- tokens that stand there are read, up to the end -/
theorem utok_ok (a b : List Int) (hA : Good a) (hB : Good b) (row : List Bool) : ∀ (ts : List Tk) (f : Nat) (u : US) (R : List Bool), ts.length < f → u.e = 0 → u.p ≤ row.length → chkF ts u.out.length = 0 → (∀ t ∈ ts, t.1 < 256) → Has a b (itsOf ts) → row.drop u.p = putIs a b (itsOf ts) ++ R →
    utok row a b f u = { u with p := u.p + (putIs a b (itsOf ts)).length, out := expF ts u.out }
  | [], f + 1, u, R, hf, he, hu, hc, hb, hh, h => by
    have hp : putIs a b (itsOf []) = codeT a 256 := by simp [putIs, putI, itsOf, itsF]
    rw [hp] at h ⊢
    obtain ⟨k1, k2⟩ := hh.1 256 (by simp [itsOf])
    rw [utok, if_pos he]
    have c1 := uplace_at a hA row 256 u R he k1 k2 h
    have e : utok1 row a b u = (false, { u with p := u.p + (codeT a 256).length }) := by
      unfold utok1
      rw [c1]
      simp only
      rw [if_pos (by simp)]
    rw [e, if_neg (by simp), expF]
  | t :: ts, f + 1, u, R, hf, he, hu, hc, hb, hh, h => by
    have ei : itsOf (t :: ts) = itOf t ++ itsOf ts := by simp [itsOf, itsF]
    rw [ei] at hh h ⊢
    rw [putIs_app] at h ⊢
    rw [List.append_assoc] at h
    have ht : errOne t u.out.length = 0 := by
      rw [chkF] at hc
      by_cases e : errOne t u.out.length = 0
      · exact e
      · rw [if_neg e] at hc; exact absurd hc e
    have hc2 : chkF ts (u.out.length + wid t) = 0 := by rw [chkF, if_pos ht] at hc; exact hc
    have hlen := chkF_zero hc2
    obtain ⟨e1, e2⟩ := utok1_ok a b hA hB row t u _ he hu ht (hb t (by simp)) hlen hh.app.1 h
    rw [utok, if_pos he, e1]
    simp only [if_true]
    have d1 := drop_more h
    rw [utok_ok a b hA hB row ts f { u with p := u.p + (putIs a b (itOf t)).length, out := putT t u.out } R (by simp at hf; omega) he e2 (by simp only; rw [putT_length]; exact hc2) (fun t' h' => hb t' (by simp [h'])) hh.app.2 d1, expF]
    simp only [List.length_append]
    congr 1
    omega
  | _, 0, u, R, hf, _, _, _, _, _, _ => by omega
end Go.Proofs.Ytfoaaamcpknjnac
