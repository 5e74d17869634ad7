/-
  The document's own: what is wrong with files.
-/
import Derived.Test.YtmgmganbamjnmaaGreatDoorS5
import Derived.Test.YtmgmganbamjnmaaGreatDoorS17
namespace Go.Proofs.YtmgmganbamjnmaaGreatDoor
open Go.RowKit
set_option linter.unusedVariables false
set_option maxRecDepth 100000

theorem errV_ways {f : Fl} (h0 : errN f.name = 0) (n : Nat) (hn : f.bytes.length = n) (E : Nat) (hE : errV f = E) : (E = 2 ∧ 3000 < n) ∨ (E = 3 ∧ n ≤ 3000 ∧ (f.stamp < 0 ∨ (0 ≤ f.stamp ∧ 1000000 < f.stamp) ∨ (0 ≤ f.stamp ∧ f.stamp ≤ 1000000 ∧ f.node < 0) ∨ (0 ≤ f.stamp ∧ f.stamp ≤ 1000000 ∧ 0 ≤ f.node ∧ 3 < f.node))) ∨ (E = 4 ∧ n ≤ 3000 ∧ 0 ≤ f.stamp ∧ f.stamp ≤ 1000000 ∧ 0 ≤ f.node ∧ f.node ≤ 3 ∧ f.gone = true ∧ 0 < n) ∨ (E = 0 ∧ n ≤ 3000 ∧ 0 ≤ f.stamp ∧ f.stamp ≤ 1000000 ∧ 0 ≤ f.node ∧ f.node ≤ 3 ∧ f.gone = true ∧ n = 0) ∨ (E = 0 ∧ n ≤ 3000 ∧ 0 ≤ f.stamp ∧ f.stamp ≤ 1000000 ∧ 0 ≤ f.node ∧ f.node ≤ 3 ∧ f.gone = false) := by
  subst hn
  subst hE
  by_cases h1 : 3000 < f.bytes.length
  · exact .inl ⟨errV_many h0 h1, h1⟩
  · by_cases h3 : f.stamp < 0 ∨ 1000000 < f.stamp ∨ f.node < 0 ∨ 3 < f.node
    · exact .inr (.inl ⟨errV_range h0 h1 h3, by omega, by omega⟩)
    · have e4 := errV_rest h0 h1 h3
      cases hg : f.gone with
      | true =>
        by_cases hn : 0 < f.bytes.length
        · rw [if_pos ⟨hg, hn⟩] at e4
          exact .inr (.inr (.inl ⟨e4, by omega, by omega, by omega, by omega, by omega, rfl, hn⟩))
        · rw [if_neg (fun k => hn k.2)] at e4
          exact .inr (.inr (.inr (.inl ⟨e4, by omega, by omega, by omega, by omega, by omega, rfl, by omega⟩)))
      | false =>
        rw [if_neg (fun k => by rw [hg] at k; cases k.1)] at e4
        exact .inr (.inr (.inr (.inr ⟨e4, by omega, by omega, by omega, by omega, by omega, rfl⟩)))

/-- the name of the one ahead -/
def ahn (xs : List Fv) : Nat → List UInt8
  | 0 => []
  | k + 1 => (((fls xs)[k]?).map Fl.name).getD []

theorem cf_many (ad : Option Addr) (n c : Nat) (w : World) (h : 12 < n) : Calls Tryz.prog 22 #[.slice ad n c] w fun e w' => e = .returned (.int .i64 2) ∧ w' = w := by
  go_enter Tryz.func22, Tryz.ntmps22
  go_wp2
  go_ret
  exact ⟨rfl, rfl⟩

set_option maxHeartbeats 4000000 in
theorem checkFiles_any (ad : Option Addr) (c : Nat) (xs : List Fv) (w : World) (h : FsIn w ad c xs) (n : Nat) (hn : xs.length = n) :
    Calls Tryz.prog 22 #[.slice ad n c] w fun e w' => e = .returned (.int .i64 (errM (fls xs) : Nat)) ∧ Below w.heap.size w w' := by
  have hl : (fls xs).length = n := by simp [fls, hn]
  by_cases hm : 12 < n
  · have e : errM (fls xs) = 2 := by unfold errM; rw [if_pos (by omega)]
    rw [e]
    refine (cf_many ad n c w hm).mono ?_
    rintro e w' ⟨rfl, rfl⟩
    exact ⟨rfl, Below.refl _ _⟩
  · have e : errM (fls xs) = errR none (fls xs) := by unfold errM; rw [if_neg (by omega)]
    obtain ⟨E, hE⟩ : ∃ E, errR none (fls xs) = E := ⟨_, rfl⟩
    rw [e, hE]
    have HI := hide h
    have HN := hide hn
    have HE := hide hE
    have HL := hide hl
    clear h e hE hn hl
    go_enter Tryz.func22, Tryz.ntmps22
    go_wp2
    go_loopw [3, 4, 5, 6, 7, 13] (fun v3 _ _ _ _ i wr => ∃ k : Nat, k ≤ n ∧ i = .int .i64 (k : Int) ∧ v3 = .string (B (ahn xs k)) ∧ Hid (errR (ahd xs k) ((fls xs).drop k) = E) ∧ Hid (Below w.heap.size w wr)) (fun _ _ _ _ _ i _ => n - (intOf i).toNat)
    case atStart => exact ⟨0, Nat.zero_le _, rfl, rfl, unhide HE, Below.refl _ _⟩
    case round =>
      obtain ⟨k, hk, rfl, rfl, HR, HB⟩ := hrel
      by_cases hlt : k < n
      · obtain ⟨x, hx, hxm⟩ := get_of (xs := xs) (k := k) (by rw [unhide HN]; exact hlt)
        obtain ⟨b, o, rfl, hb, c0, c1, c2, c3, c4⟩ := (unhide HI).get (unhide HB) hx
        have hst := errR_step hx
        rw [unhide HR] at hst
        have hz := (unhide HB).size
        have HPT := hide (fun W => parted_any x.f.name W (by have := ((unhide HI).all x hxm).txt; unfold maxLen; omega))
        have HS := hide hst
        have hah : ahn xs (k + 1) = x.f.name := by show (((fls xs)[k]?).map Fl.name).getD [] = _; simp [fls, hx]
        have HAH := hide hah
        have hxs : x.sl = .slice x.a x.f.bytes.length x.c := rfl
        rw [hxs] at c1
        have HBL := hide (fun o' => (unhide HB).alloc hz o')
        obtain ⟨nb, hnb⟩ : ∃ nb, x.f.bytes.length = nb := ⟨_, rfl⟩
        obtain ⟨er, her⟩ : ∃ er, errV x.f = er := ⟨_, rfl⟩
        have HWY := hide (fun h0 => errV_ways (f := x.f) h0 nb hnb er her)
        have HEN := hide (@errV_name x.f)
        rw [her] at HS HEN
        -- how it stands behind the one ahead
        have hcmp : Hid ((k = 0 ∧ behind (ahd xs k) x.f = true) ∨ (0 < k ∧ behind (ahd xs k) x.f = decide (cmpB x.f.name (ahn xs k) = 1))) := by
          cases k with
          | zero => exact .inl ⟨rfl, rfl⟩
          | succ j =>
            refine .inr ⟨by omega, ?_⟩
            have hj : j < (fls xs).length := by rw [unhide HL]; omega
            show behind ((fls xs)[j]?) x.f = decide (cmpB x.f.name ((((fls xs)[j]?).map Fl.name).getD []) = 1)
            rw [List.getElem?_eq_getElem hj]
            show decide (cmpB (fls xs)[j].name x.f.name < 0) = decide (cmpB x.f.name (fls xs)[j].name = 1)
            rw [decide_eq_decide]
            have ha := cmpB_anti x.f.name (fls xs)[j].name
            have ht := cmpB_three x.f.name (fls xs)[j].name
            omega
        have hle := str_le x.f.name (ahn xs k)
        have heq := str_eq x.f.name (ahn xs k)
        have h3 := cmpB_three x.f.name (ahn xs k)
        obtain ⟨cm, hcm⟩ : ∃ cm, cmpB x.f.name (ahn xs k) = cm := ⟨_, rfl⟩
        rw [hcm] at hle heq h3
        have HCM : Hid ((k = 0 ∧ behind (ahd xs k) x.f = true) ∨ (0 < k ∧ behind (ahd xs k) x.f = decide (cm = 1))) := by have := unhide hcmp; rw [hcm] at this; exact this
        clear hst hxm hx hxs her hah hcmp hcm
        rw [hnb] at c1
        clear hnb
        obtain ⟨en, hen⟩ : ∃ en, errN x.f.name = en := ⟨_, rfl⟩
        rw [hen] at HPT HWY HEN
        clear hen
        obtain ⟨t, ht⟩ : ∃ t, B x.f.name = t := ⟨_, rfl⟩
        obtain ⟨t', ht'⟩ : ∃ t', B (ahn xs k) = t' := ⟨_, rfl⟩
        rw [ht] at HPT c0 hle heq
        rw [ht'] at hle heq
        rw [ht']
        have HT := hide ht
        clear ht ht'
        generalize x.f.stamp = st at *
        generalize x.f.node = nd at *
        generalize x.f.gone = gn at *
        by_cases he : en = 0
        · subst he
          have hways := unhide HWY rfl
          clear HWY HEN
          have hstep := unhide HS
          clear HS
          by_cases hE4 : er = 0
          · subst hE4
            have hw2 : (nb ≤ 3000 ∧ 0 ≤ st ∧ st ≤ 1000000 ∧ 0 ≤ nd ∧ nd ≤ 3) ∧ ((gn = true ∧ nb = 0) ∨ gn = false) := by
              rcases hways with ⟨h, _⟩ | ⟨h, _⟩ | ⟨h, _⟩ | ⟨_, a1, a2, a3, a4, a5, a6, a7⟩ | ⟨_, a1, a2, a3, a4, a5, a6⟩
              · omega
              · omega
              · omega
              · exact ⟨⟨a1, a2, a3, a4, a5⟩, .inl ⟨a6, a7⟩⟩
              · exact ⟨⟨a1, a2, a3, a4, a5⟩, .inr a6⟩
            obtain ⟨⟨a1, a2, a3, a4, a5⟩, hgn⟩ := hw2
            rw [if_neg (by simp)] at hstep
            clear hways
            have hfork : (Hid (behind (ahd xs k) x.f = true) ∧ (k = 0 ∨ (0 < k ∧ cm = 1))) ∨ (Hid (behind (ahd xs k) x.f = false) ∧ 0 < k ∧ (cm = -1 ∨ cm = 0)) := by
              rcases unhide HCM with ⟨q1, q2⟩ | ⟨q1, q2⟩
              · exact .inl ⟨q2, .inl q1⟩
              · by_cases e1 : cm = 1
                · exact .inl ⟨by rw [q2]; exact decide_eq_true e1, .inr ⟨q1, e1⟩⟩
                · exact .inr ⟨by rw [q2]; exact decide_eq_false e1, q1, by omega⟩
            clear HCM
            rcases hfork with ⟨HBH, hf⟩ | ⟨HBH, hk0, hf⟩
            · rw [if_neg (by rw [unhide HBH]; simp)] at hstep
              have HN2 := hide hstep
              clear hstep HBH
              rcases hgn with ⟨rfl, rfl⟩ | rfl
              all_goals (
                rcases hf with rfl | ⟨hk0, rfl⟩
                all_goals (
                  try simp only [Nat.zero_mul, Nat.add_zero] at c0 c1 c2 c3 c4
                  try simp only [Int.reduceLT, Int.reduceEq, decide_false] at hle heq
                  go_wp2_with fail
                  refine (unhide HPT _).mono ?_
                  rintro e w1 ⟨v1, rfl, _, hb1, _⟩
                  have HB1 := hide ((unhide HBL _).trans (hb1.mono (by simp; omega)))
                  have q0 : w1.cell? ⟨wr.heap.size, 0, none⟩ = some (.string t) := (hb1.cell (p := ⟨wr.heap.size, 0, none⟩) (by simp)).trans (by simp)
                  have q1 := (hb1.cell (p := ⟨wr.heap.size, 1, none⟩) (by simp)).trans (by simp; rfl)
                  have q2 : w1.cell? ⟨wr.heap.size, 2, none⟩ = some (.int .i64 st) := (hb1.cell (p := ⟨wr.heap.size, 2, none⟩) (by simp)).trans (by simp)
                  have q3 : w1.cell? ⟨wr.heap.size, 3, none⟩ = some (.int .i64 nd) := (hb1.cell (p := ⟨wr.heap.size, 3, none⟩) (by simp)).trans (by simp)
                  have q4 := (hb1.cell (p := ⟨wr.heap.size, 4, none⟩) (by simp)).trans (by simp; rfl)
                  clear hb1
                  go_wp2
                  go_roundw
                  case rel => exact ⟨_, by omega, by go_num, by rw [unhide HAH, unhide HT], (unhide HN2).symm, unhide HB1⟩
                  case measure => simp [intOf]; omega))
            · rw [if_pos (unhide HBH)] at hstep
              have HN2 := hide hstep
              clear hstep HBH
              have hki : (0 : Int) < (k : Int) := by omega
              rcases hgn with ⟨rfl, rfl⟩ | rfl
              all_goals (
                rcases hf with rfl | rfl
                all_goals (
                  try simp only [Int.reduceLT, Int.reduceEq, Int.reduceNeg, decide_true, decide_false] at hle heq
                  go_wp2_with fail
                  refine (unhide HPT _).mono ?_
                  rintro e w1 ⟨v1, rfl, _, hb1, _⟩
                  have HB1 := hide ((unhide HBL _).trans (hb1.mono (by simp; omega)))
                  have q0 : w1.cell? ⟨wr.heap.size, 0, none⟩ = some (.string t) := (hb1.cell (p := ⟨wr.heap.size, 0, none⟩) (by simp)).trans (by simp)
                  have q1 := (hb1.cell (p := ⟨wr.heap.size, 1, none⟩) (by simp)).trans (by simp; rfl)
                  have q2 : w1.cell? ⟨wr.heap.size, 2, none⟩ = some (.int .i64 st) := (hb1.cell (p := ⟨wr.heap.size, 2, none⟩) (by simp)).trans (by simp)
                  have q3 : w1.cell? ⟨wr.heap.size, 3, none⟩ = some (.int .i64 nd) := (hb1.cell (p := ⟨wr.heap.size, 3, none⟩) (by simp)).trans (by simp)
                  have q4 := (hb1.cell (p := ⟨wr.heap.size, 4, none⟩) (by simp)).trans (by simp; rfl)
                  clear hb1
                  go_wp2
                  go_ret
                  exact ⟨ret_int (by rw [unhide HN2]; rfl), unhide HB1⟩))
          · rw [if_pos (by simpa using hE4)] at hstep
            have HN2 := hide hstep
            clear hstep HCM
            rcases hways with ⟨rfl, a1⟩ | ⟨rfl, a1, a2 | ⟨a2, a3⟩ | ⟨a2, a3, a4⟩ | ⟨a2, a3, a4, a5⟩⟩ | ⟨rfl, a1, a2, a3, a4, a5, rfl, a6⟩ | ⟨rfl, _⟩ | ⟨rfl, _⟩
            · skip
              go_wp2_with fail
              refine (unhide HPT _).mono ?_
              rintro e w1 ⟨v1, rfl, _, hb1, _⟩
              have HB1 := hide ((unhide HBL _).trans (hb1.mono (by simp; omega)))
              have q0 : w1.cell? ⟨wr.heap.size, 0, none⟩ = some (.string t) := (hb1.cell (p := ⟨wr.heap.size, 0, none⟩) (by simp)).trans (by simp)
              have q1 := (hb1.cell (p := ⟨wr.heap.size, 1, none⟩) (by simp)).trans (by simp; rfl)
              have q2 : w1.cell? ⟨wr.heap.size, 2, none⟩ = some (.int .i64 st) := (hb1.cell (p := ⟨wr.heap.size, 2, none⟩) (by simp)).trans (by simp)
              have q3 : w1.cell? ⟨wr.heap.size, 3, none⟩ = some (.int .i64 nd) := (hb1.cell (p := ⟨wr.heap.size, 3, none⟩) (by simp)).trans (by simp)
              have q4 := (hb1.cell (p := ⟨wr.heap.size, 4, none⟩) (by simp)).trans (by simp; rfl)
              clear hb1
              go_wp2
              go_ret
              exact ⟨ret_int (by rw [unhide HN2]; rfl), unhide HB1⟩
            · skip
              go_wp2_with fail
              refine (unhide HPT _).mono ?_
              rintro e w1 ⟨v1, rfl, _, hb1, _⟩
              have HB1 := hide ((unhide HBL _).trans (hb1.mono (by simp; omega)))
              have q0 : w1.cell? ⟨wr.heap.size, 0, none⟩ = some (.string t) := (hb1.cell (p := ⟨wr.heap.size, 0, none⟩) (by simp)).trans (by simp)
              have q1 := (hb1.cell (p := ⟨wr.heap.size, 1, none⟩) (by simp)).trans (by simp; rfl)
              have q2 : w1.cell? ⟨wr.heap.size, 2, none⟩ = some (.int .i64 st) := (hb1.cell (p := ⟨wr.heap.size, 2, none⟩) (by simp)).trans (by simp)
              have q3 : w1.cell? ⟨wr.heap.size, 3, none⟩ = some (.int .i64 nd) := (hb1.cell (p := ⟨wr.heap.size, 3, none⟩) (by simp)).trans (by simp)
              have q4 := (hb1.cell (p := ⟨wr.heap.size, 4, none⟩) (by simp)).trans (by simp; rfl)
              clear hb1
              go_wp2
              go_ret
              exact ⟨ret_int (by rw [unhide HN2]; rfl), unhide HB1⟩
            · skip
              go_wp2_with fail
              refine (unhide HPT _).mono ?_
              rintro e w1 ⟨v1, rfl, _, hb1, _⟩
              have HB1 := hide ((unhide HBL _).trans (hb1.mono (by simp; omega)))
              have q0 : w1.cell? ⟨wr.heap.size, 0, none⟩ = some (.string t) := (hb1.cell (p := ⟨wr.heap.size, 0, none⟩) (by simp)).trans (by simp)
              have q1 := (hb1.cell (p := ⟨wr.heap.size, 1, none⟩) (by simp)).trans (by simp; rfl)
              have q2 : w1.cell? ⟨wr.heap.size, 2, none⟩ = some (.int .i64 st) := (hb1.cell (p := ⟨wr.heap.size, 2, none⟩) (by simp)).trans (by simp)
              have q3 : w1.cell? ⟨wr.heap.size, 3, none⟩ = some (.int .i64 nd) := (hb1.cell (p := ⟨wr.heap.size, 3, none⟩) (by simp)).trans (by simp)
              have q4 := (hb1.cell (p := ⟨wr.heap.size, 4, none⟩) (by simp)).trans (by simp; rfl)
              clear hb1
              go_wp2
              go_ret
              exact ⟨ret_int (by rw [unhide HN2]; rfl), unhide HB1⟩
            · skip
              go_wp2_with fail
              refine (unhide HPT _).mono ?_
              rintro e w1 ⟨v1, rfl, _, hb1, _⟩
              have HB1 := hide ((unhide HBL _).trans (hb1.mono (by simp; omega)))
              have q0 : w1.cell? ⟨wr.heap.size, 0, none⟩ = some (.string t) := (hb1.cell (p := ⟨wr.heap.size, 0, none⟩) (by simp)).trans (by simp)
              have q1 := (hb1.cell (p := ⟨wr.heap.size, 1, none⟩) (by simp)).trans (by simp; rfl)
              have q2 : w1.cell? ⟨wr.heap.size, 2, none⟩ = some (.int .i64 st) := (hb1.cell (p := ⟨wr.heap.size, 2, none⟩) (by simp)).trans (by simp)
              have q3 : w1.cell? ⟨wr.heap.size, 3, none⟩ = some (.int .i64 nd) := (hb1.cell (p := ⟨wr.heap.size, 3, none⟩) (by simp)).trans (by simp)
              have q4 := (hb1.cell (p := ⟨wr.heap.size, 4, none⟩) (by simp)).trans (by simp; rfl)
              clear hb1
              go_wp2
              go_ret
              exact ⟨ret_int (by rw [unhide HN2]; rfl), unhide HB1⟩
            · skip
              go_wp2_with fail
              refine (unhide HPT _).mono ?_
              rintro e w1 ⟨v1, rfl, _, hb1, _⟩
              have HB1 := hide ((unhide HBL _).trans (hb1.mono (by simp; omega)))
              have q0 : w1.cell? ⟨wr.heap.size, 0, none⟩ = some (.string t) := (hb1.cell (p := ⟨wr.heap.size, 0, none⟩) (by simp)).trans (by simp)
              have q1 := (hb1.cell (p := ⟨wr.heap.size, 1, none⟩) (by simp)).trans (by simp; rfl)
              have q2 : w1.cell? ⟨wr.heap.size, 2, none⟩ = some (.int .i64 st) := (hb1.cell (p := ⟨wr.heap.size, 2, none⟩) (by simp)).trans (by simp)
              have q3 : w1.cell? ⟨wr.heap.size, 3, none⟩ = some (.int .i64 nd) := (hb1.cell (p := ⟨wr.heap.size, 3, none⟩) (by simp)).trans (by simp)
              have q4 := (hb1.cell (p := ⟨wr.heap.size, 4, none⟩) (by simp)).trans (by simp; rfl)
              clear hb1
              go_wp2
              go_ret
              exact ⟨ret_int (by rw [unhide HN2]; rfl), unhide HB1⟩
            · skip
              go_wp2_with fail
              refine (unhide HPT _).mono ?_
              rintro e w1 ⟨v1, rfl, _, hb1, _⟩
              have HB1 := hide ((unhide HBL _).trans (hb1.mono (by simp; omega)))
              have q0 : w1.cell? ⟨wr.heap.size, 0, none⟩ = some (.string t) := (hb1.cell (p := ⟨wr.heap.size, 0, none⟩) (by simp)).trans (by simp)
              have q1 := (hb1.cell (p := ⟨wr.heap.size, 1, none⟩) (by simp)).trans (by simp; rfl)
              have q2 : w1.cell? ⟨wr.heap.size, 2, none⟩ = some (.int .i64 st) := (hb1.cell (p := ⟨wr.heap.size, 2, none⟩) (by simp)).trans (by simp)
              have q3 : w1.cell? ⟨wr.heap.size, 3, none⟩ = some (.int .i64 nd) := (hb1.cell (p := ⟨wr.heap.size, 3, none⟩) (by simp)).trans (by simp)
              have q4 := (hb1.cell (p := ⟨wr.heap.size, 4, none⟩) (by simp)).trans (by simp; rfl)
              clear hb1
              go_wp2
              go_ret
              exact ⟨ret_int (by rw [unhide HN2]; rfl), unhide HB1⟩
            · exact absurd rfl hE4
            · exact absurd rfl hE4
        · have hen := unhide HEN he
          have hstep := unhide HS
          rw [hen, if_pos (by simpa using he)] at hstep
          have HN2 := hide hstep
          clear hstep hen HS HWY HEN HCM
          go_wp2_with fail
          refine (unhide HPT _).mono ?_
          rintro e w1 ⟨v1, rfl, _, hb1, _⟩
          have HB1 := hide ((unhide HBL _).trans (hb1.mono (by simp; omega)))
          clear hb1
          go_wp2
          go_ret
          exact ⟨ret_int (by rw [unhide HN2]), unhide HB1⟩
      · obtain rfl : n = k := by omega
        go_wp2
        go_ret
        have := unhide HR
        rw [List.drop_of_length_le (by rw [unhide HL]; exact Nat.le_refl _)] at this
        exact ⟨ret_int (by rw [← this]; rfl), unhide HB⟩
end Go.Proofs.YtmgmganbamjnmaaGreatDoor
