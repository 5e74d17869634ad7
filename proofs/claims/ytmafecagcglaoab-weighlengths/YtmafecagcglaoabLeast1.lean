/-
  What the document's own Least answers.
-/
import Derived.Test.YtmafecagcglaoabLeast0
namespace Go.Proofs.Ytmafecagcglaoab
open Go.RowKit
set_option linter.unusedVariables false

theorem pos_take (l : List Int) {k : Nat} (hk : k < l.length) : pos (l.take (k + 1)) = pos (l.take k) ++ (if 0 < l.getD k 0 then [l.getD k 0] else []) := by
  have e : l.getD k 0 = l[k] := by simp [List.getD, hk]
  rw [pos, pos, List.take_succ_eq_append_getElem hk, List.filter_append, e]
  congr 1
  by_cases h : 0 < l[k]
  · simp [h]
  · simp [h]
theorem pos_len (l : List Int) (k : Nat) : (pos (l.take k)).length ≤ k := by
  have h1 := List.length_filter_le (fun x : Int => decide (0 < x)) (l.take k)
  have h2 : (l.take k).length ≤ k := by simp; omega
  exact Nat.le_trans h1 h2
theorem own_at {w : World} {B n g cap : Nat} {xs : List Int} (h : w.ownsRow B 3 1 (.slice (some ⟨g, 0, none⟩) n cap) n (iv xs)) (j : Nat) (hj : j < n) : w.cell? ⟨g, j, none⟩ = some (.int .i64 (xs.getD j 0)) := by
  have hn : xs.length = n := by have := h.1; simpa using this
  rw [h.cellAt j (by omega)]
  simp [List.getD, show j < xs.length by omega]
theorem own_cells {w : World} {B n g cap : Nat} {xs : List Int} (h : w.ownsRow B 3 1 (.slice (some ⟨g, 0, none⟩) n cap) n (iv xs)) : ∀ j u, (iv xs)[j]? = some u → w.cell? ((⟨g, 0, none⟩ : Addr).add j) = some u := h.cells rfl
theorem iv_one (xs : List Int) : ∀ u ∈ iv xs, u.oneCell' = true := by intro u hu; obtain ⟨x, _, rfl⟩ := List.mem_map.1 hu; rfl

theorem lsum_next (ys : List Int) {k : Nat} (hk : k < ys.length) : lsum (ys.take (k + 1)) = lsum (ys.take k) + ys.getD k 0 := by
  rw [List.take_succ_eq_append_getElem hk, lsum_append]
  simp [lsum, List.getD, hk]
theorem lsum_bound (ys : List Int) (h : ∀ j, 0 ≤ ys.getD j 0 ∧ ys.getD j 0 ≤ 1000000000000) : ∀ k, k ≤ ys.length → 0 ≤ lsum (ys.take k) ∧ lsum (ys.take k) ≤ 1000000000000 * k
  | 0, _ => by simp [lsum]
  | k + 1, hk => by
    have ih := lsum_bound ys h k (by omega)
    have := h k
    rw [lsum_next ys (by omega)]
    omega

set_option maxHeartbeats 4000000 in
set_option maxRecDepth 100000 in
theorem least_any (a : Option Addr) (len cap : Nat) (l : List Int) (m : Nat) (w : World) (hl : l.length = len) (hR : RowIn .i64 w a l) (hG : GoodW l m) (r : Int) (hr : Hid (r = least (srt (pos l)) m)) :
    Calls Try.prog 24 #[.slice a len cap, .int .i64 m] w fun e w' => e = .returned (.int .i64 r) ∧ Below w.heap.size w w' := by
  obtain ⟨i0, hi, hz0, hz1, hz2⟩ := info_parts info_int
  have hlen := hG.len
  have hm1 := hG.lo
  have hm15 := hG.hi
  have HG := hide hG
  have HL := hide hl
  have HR := hide hR
  clear hR hG
  go_enter Try.func24, Try.ntmps24
  go_wp2
  go_loopw [5, 7, 17] (fun vo _ i wr => ∃ k : Nat, k ≤ len ∧ i = .int .i64 k ∧ wr.ownsRow w.heap.size 3 1 vo (pos (l.take k)).length (iv (pos (l.take k))) ∧ (pos (l.take k) = [] → vo = .slice none 0 0) ∧ Below w.heap.size w wr) (fun _ _ i _ => len - (intOf i).toNat)
  case atStart => exact ⟨0, Nat.zero_le _, rfl, ⟨rfl, .inl ⟨rfl, rfl⟩⟩, fun _ => rfl, Below.refl _ _⟩
  case round =>
    obtain ⟨k, hk, rfl, hO, hV, hB⟩ := hrel
    have HO := hide hO
    have HV := hide hV
    have HB := hide hB
    have hzr := hB.size
    clear hV
    by_cases hlt : k < len
    · have hlk : k < l.length := by omega
      obtain ⟨b, o, rfl, hb, hRw⟩ : ∃ b o, a = some ⟨b, o, none⟩ ∧ b < w.heap.size ∧ Row .i64 w b o l := by
        rcases unhide HR with rfl | h
        · simp at hlk
        · exact h
      have c1 := (hB.cell (p := ⟨b, o + k, none⟩) hb).trans (hRw k hlk)
      have hpl := pos_len l k
      have HN := hide (pos_take l hlk)
      clear hO hB hRw
      generalize l.getD k 0 = x at *
      by_cases hx : 0 < x
      · rw [if_pos hx] at HN
        go_wp2_with (at_builtin; refine wpList_append_own _ rfl _ _ 22 rfl w.heap.size 3 i0 (.int .i64 0) 1 8 Try.underlying22 hi hz0 hz1 hz2 rfl (by decide) _ _ _ rfl ((unhide HO).alloc _) ⟨wr.heap.size, 0, none⟩ 1 1 [.int .i64 x] rfl rfl (by intro j u hj; match j, hj with | 0, hj => simp at hj; subst hj; simp [Addr.add]) (by intro u hu; simp at hu; subst hu; rfl) (by unfold maxLen; omega) (by omega) (by simp; omega) ?_)
        intro v' w1 hO1 hgrow _
        have HO1 := hide hO1
        have HB1 := hide (((unhide HB).alloc (by omega) _).grown hgrow (by simp; omega) (fun k hk => ((unhide HO).lt k hk).1))
        clear hO1 hgrow
        go_wp2
        go_roundw
        case rel =>
          refine ⟨k + 1, by omega, by go_num, ?_, fun h => by rw [unhide HN] at h; simp at h, unhide HB1⟩
          have e : iv (pos (l.take (k + 1))) = iv (pos (l.take k)) ++ [.int .i64 x] := by rw [unhide HN]; simp
          have e2 : (pos (l.take (k + 1))).length = (pos (l.take k)).length + 1 := by rw [unhide HN, List.length_append]; rfl
          rw [e, e2]
          exact unhide HO1
        case measure => simp [intOf]; omega
      · rw [if_neg hx, List.append_nil] at HN
        go_wp2
        go_roundw
        case rel => exact ⟨k + 1, by omega, by go_num, by rw [unhide HN]; exact unhide HO, by rw [unhide HN]; exact unhide HV, unhide HB⟩
        case measure => simp [intOf]; omega
    · obtain rfl : k = len := by omega
      rw [List.take_of_length_le (by omega)] at HO HV
      have hpl : (pos l).length ≤ l.length := List.length_filter_le _ _
      have hsl : (srt (pos l)).length = (pos l).length := (srt_perm _).length_eq
      obtain ⟨n, hn⟩ : ∃ n, (pos l).length = n := ⟨_, rfl⟩
      rw [hn] at HO hpl hsl
      clear hO hB
      rcases Nat.lt_trichotomy n 1 with h0 | h0 | h0
      · obtain rfl : n = 0 := by omega
        have h1 : pos l = [] := List.eq_nil_of_length_eq_zero hn
        have hv := unhide HV h1
        subst hv
        have HE : Hid (r = 0) := by rw [unhide hr, h1]; unfold Hid least; simp [srt, lsum]
        clear HV hn hsl
        go_wp2
        go_ret
        exact ⟨by rw [unhide HE]; rfl, unhide HB⟩
      · subst h0
        obtain ⟨x, hx⟩ : ∃ x, pos l = [x] := by
          match h : pos l, hn with
          | [x], _ => exact ⟨x, rfl⟩
        have HE : Hid (r = x) := by rw [unhide hr, hx]; unfold Hid least; simp [srt, lsum]
        rw [hx] at HO
        obtain ⟨g, c, hv⟩ : ∃ g c, u5 = .slice (some ⟨g, 0, none⟩) 1 c := by
          rcases (unhide HO).2 with ⟨_, h⟩ | ⟨g, c, _, h, _⟩
          · cases h
          · exact ⟨g, c, h⟩
        subst hv
        have c1 := own_at (unhide HO) 0 (by omega)
        rw [show ([x] : List Int).getD 0 0 = x from rfl] at c1
        clear HV hn hsl hx
        go_wp2
        go_ret
        exact ⟨by rw [unhide HE]; rfl, unhide HB⟩
      · have hnI1 : ((n : Int) == 0) = false := by rw [beq_eq_false_iff_ne]; omega
        have hnI2 : ((n : Int) == 1) = false := by rw [beq_eq_false_iff_ne]; omega
        obtain ⟨W, hW⟩ : ∃ W, srt (pos l) = W := ⟨_, rfl⟩
        have HSo := hide (sortInts_own w.heap.size u5 n (pos l) wr (by omega) (by omega) (unhide HO))
        rw [hW] at HSo hr hsl
        have HUp : Hid (Up W) := by rw [← hW]; exact srt_up _
        have HBd : Hid (∀ x ∈ W, 0 ≤ x ∧ x ≤ 1000000) := by
          intro x hx
          rw [← hW] at hx
          have h2 := (srt_perm _).mem_iff.1 hx
          exact (unhide HG).all x ((List.mem_filter.1 h2).1)
        have HWl := hide hsl
        have HRoom : Hid (n ≤ 2 ^ m) := by have h := (unhide HG).room; rw [wpl_count, hn] at h; exact h
        have HE : Hid (r = psum W (m - 1) (2 * (n - 1))) := by rw [unhide hr]; unfold Hid least; rw [hsl, if_neg (by omega)]
        have h5 := unhide HO
        obtain ⟨g5, c5, hv5⟩ : ∃ g c, u5 = .slice (some ⟨g, 0, none⟩) n c := by
          rcases h5.2 with ⟨_, h⟩ | ⟨g, c, _, h, _⟩
          · omega
          · exact ⟨g, c, h⟩
        subst hv5
        clear HV hn hsl hW h5 HO
        go_wp2_with fail
        refine (unhide HSo).mono ?_
        rintro e w1 ⟨rfl, hO1, hg1⟩
        have HO1 := hide hO1
        have HB1 : Hid (Below w.heap.size w w1) := (unhide HB).grown hg1 hzr (fun j e => ((hO1.lt j e).1))
        clear hO1 hg1 HB HSo hzr
        go_wp2
        go_loopw [8, 9, 10, 11, 40] (fun vr _ _ _ vk wr => ∃ k : Nat, k ≤ m ∧ vk = .int .i64 k ∧ wr.ownsRow w.heap.size 3 1 (.slice (some ⟨g5, 0, none⟩) n c5) n (iv W) ∧ Below w.heap.size w wr ∧
            ((k = 0 ∧ vr = .slice none 0 0) ∨ (0 < k ∧ vr.ownBlock ≠ some g5 ∧ wr.ownsRow w.heap.size 3 1 vr (rowF W (k - 1)).length (iv (rowF W (k - 1)))))) (fun _ _ _ _ vk _ => m - (intOf vk).toNat)
        case atStart => exact ⟨0, Nat.zero_le _, rfl, unhide HO1, unhide HB1, .inl ⟨rfl, rfl⟩⟩
        case round =>
          obtain ⟨k, hk, rfl, hO5, hBr, hvr⟩ := hrel
          have HO5 := hide hO5
          have HBr := hide hBr
          have hzr := hBr.size
          by_cases hkm : k < m
          · -- the row ahead, and its pairs
            obtain ⟨ys, N0, hyl, hN0, HRow, HSm, hvr2⟩ : ∃ (ys : List Int) (N0 : Nat), ys.length = N0 ∧ N0 ≤ 576 ∧ Hid (srt (W ++ prs ys) = rowF W k) ∧ Hid (∀ j, 0 ≤ ys.getD j 0 ∧ ys.getD j 0 ≤ 1000000000000) ∧ ((N0 = 0 ∧ u8 = .slice none 0 0) ∨ (0 < N0 ∧ u8.ownBlock ≠ some g5 ∧ wr.ownsRow w.heap.size 3 1 u8 N0 (iv ys))) := by
              rcases hvr with ⟨h1, h2⟩ | ⟨h1, h2, h3⟩
              · subst h1
                refine ⟨[], 0, rfl, by omega, ?_, fun j => by simp, .inl ⟨rfl, h2⟩⟩
                show srt (W ++ []) = _
                rw [List.append_nil]
                exact row_zero W (unhide HUp)
              · obtain ⟨q, rfl⟩ : ∃ q, k = q + 1 := ⟨k - 1, by omega⟩
                rw [Nat.add_sub_cancel] at h3
                have h4 := rowF_length W q
                rw [unhide HWl] at h4
                have h5 : n ≤ (rowF W q).length := by rw [rowF, List.length_map, rowAt_mrg, mrg_length, unhide HWl]; omega
                exact ⟨rowF W q, _, rfl, by omega, row_next W (unhide HUp) q, rowAt_small W (unhide HBd) q (by omega), .inr ⟨by omega, h2, h3⟩⟩
            clear hvr hO5 hBr
            have HYL := hide hyl
            have hpl : (prs ys).length = N0 / 2 := by rw [prs_length, hyl]
            have HPL := hide hpl
            obtain ⟨vr, hvre⟩ : ∃ v, u8 = v := ⟨_, rfl⟩
            have hshape : ∃ a8 c8, u8 = .slice a8 N0 c8 := by
              rcases hvr2 with ⟨h1, h2⟩ | ⟨_, _, h3⟩
              · exact ⟨none, 0, by rw [h2, h1]⟩
              · rcases h3.2 with ⟨_, h⟩ | ⟨g, c, _, h, _⟩
                · omega
                · exact ⟨_, c, h⟩
            obtain ⟨a8, c8, hsh⟩ := hshape
            subst hsh
            have HV2 := hide hvr2
            clear hvr2 hvre hpl
            go_wp2
            go_loopw [10, 11] (fun vp vi wq => ∃ q : Nat, q ≤ N0 / 2 ∧ vi = .int .i64 (2 * (q : Int)) ∧ wq.ownsRow w.heap.size 3 1 vp q (iv ((prs ys).take q)) ∧ (vp.ownBlock ≠ some g5 ∧ (∀ j, (Value.slice a8 N0 c8).ownBlock = some j → vp.ownBlock ≠ some j)) ∧ (q = 0 → vp = .slice none 0 0) ∧
                wq.ownsRow w.heap.size 3 1 (.slice (some ⟨g5, 0, none⟩) n c5) n (iv W) ∧ (0 < N0 → wq.ownsRow w.heap.size 3 1 (.slice a8 N0 c8) N0 (iv ys)) ∧ Below w.heap.size w wq) (fun _ vi _ => N0 - (intOf vi).toNat)
            case atStart => exact ⟨0, Nat.zero_le _, rfl, ⟨rfl, .inl ⟨rfl, rfl⟩⟩, ⟨by simp [Value.ownBlock], fun j _ => by simp [Value.ownBlock]⟩, fun _ => rfl, unhide HO5, fun h => by
              rcases unhide HV2 with ⟨h1, _⟩ | ⟨_, _, h3⟩
              · omega
              · exact h3, unhide HBr⟩
            case round =>
              obtain ⟨q, hq, rfl, hOp, hap, hnil, hO5, hO8, hBq⟩ := hrel
              have HOp := hide hOp
              have HAp := hide hap
              have HNil := hide hnil
              have HO5 := hide hO5
              have HO8 := hide hO8
              have HBq := hide hBq
              have hzq := hBq.size
              by_cases hql : q < N0 / 2
              · have h8 := hO8 (by omega)
                obtain ⟨g8, rfl⟩ : ∃ g8, a8 = some ⟨g8, 0, none⟩ := by
                  rcases h8.2 with ⟨_, h⟩ | ⟨g, c, _, h, _⟩
                  · omega
                  · cases h; exact ⟨g, rfl⟩
                obtain ⟨s, hs⟩ : ∃ s, s = 2 * q := ⟨_, rfl⟩
                obtain ⟨t, ht⟩ : ∃ t, t = 2 * q + 1 := ⟨_, rfl⟩
                have q0 := own_at h8 s (by omega)
                have q1 := own_at h8 t (by omega)
                have b0 := unhide HSm s
                have b1 := unhide HSm t
                have HNx : Hid ((prs ys).take (q + 1) = (prs ys).take q ++ [ys.getD s 0 + ys.getD t 0]) := by
                  have hlt : q < (prs ys).length := by rw [unhide HPL]; exact hql
                  have e := prs_getD ys q (by rw [unhide HYL]; exact hql)
                  rw [← ht] at e
                  rw [← hs] at e
                  unfold Hid
                  rw [List.take_succ_eq_append_getElem hlt, ← e]
                  simp [List.getD, hlt]
                generalize ys.getD s 0 = x at *
                generalize ys.getD t 0 = y at *
                have ea : (2 * (q : Int)).toNat = s := by omega
                have pa : (0 : Int) ≤ 2 * (q : Int) := by omega
                have ba : 2 * (q : Int) < (N0 : Int) := by omega
                have ec : (2 * (q : Int) + 1).toNat = t := by omega
                have pc : (0 : Int) ≤ 2 * (q : Int) + 1 := by omega
                have bc : 2 * (q : Int) + 1 < (N0 : Int) := by omega
                have rc : IntKind.i64.wrap (2 * (q : Int) + 1) = 2 * (q : Int) + 1 := by rw [IntKind.wrap_i64]; omega
                have rs : IntKind.i64.wrap (x + y) = x + y := by rw [IntKind.wrap_i64]; omega
                have NN : Hid (∀ j, u10.ownBlock = some j → j ≠ g8) := fun j e h => hap.2 g8 rfl (by rw [e, h])
                have NE : Hid ((Value.slice (some ⟨g5, 0, none⟩) n c5).ownBlock = none ∨ (Value.slice (some ⟨g5, 0, none⟩) n c5).ownBlock ≠ u10.ownBlock) := .inr (fun e => hap.1 e.symm)
                have NE8 : Hid ((Value.slice (some ⟨g8, 0, none⟩) N0 c8).ownBlock = none ∨ (Value.slice (some ⟨g8, 0, none⟩) N0 c8).ownBlock ≠ u10.ownBlock) := .inr (fun e => hap.2 g8 rfl e.symm)
                have RX : Hid (∀ W', wr.grownBy W' none → W'.cell? ⟨g8, s, none⟩ = some (.int .i64 x) ∧ W'.cell? ⟨g8, t, none⟩ = some (.int .i64 y)) := fun W' hW => ⟨hW.cell q0 (by simp), hW.cell q1 (by simp)⟩
                have H8 := hide h8
                clear hOp hap hnil hO5 hO8 hBq hs ht h8 hi hz0 hz1 hz2
                go_wp2_with fail
                go_region_held3 (fun w' => w'.cell? ⟨g8, s, none⟩ = some (.int .i64 x) ∧ w'.cell? ⟨g8, t, none⟩ = some (.int .i64 y)) (go_keep) (first | (refine step_app rfl (.tmp 50) (.tmp 61) rfl wr w.heap.size _ q _ rfl (unhide HOp) (by omega) (by omega) _ rfl (x + y) (by repeat (first | with_reducible exact grown_refl _ _ | with_reducible refine grown_drew ?_ | with_reducible refine ga ?_ _)) (by repeat (first | with_reducible refine cell_drew ?_ | with_reducible exact cell_last (by simp) | with_reducible exact cell_prev (by simp))) ?_; intro g1 cap1 w5 A5; have k0 := A5.cell (unhide NN) (unhide RX _ A5.base).1; have k1 := A5.cell (unhide NN) (unhide RX _ A5.base).2))
                all_goals
                  have HOn : Hid (w5.ownsRow w.heap.size 3 1 (.slice (some ⟨g1, 0, none⟩) (q + 1) cap1) (q + 1) (iv ((prs ys).take (q + 1)))) := by
                    have h := A5.own
                    unfold Hid
                    rw [unhide HNx]
                    simpa using h
                  have P5 := A5.apart (unhide HO5) (unhide NE)
                  have P8 := A5.apart (unhide H8) (unhide NE8)
                  have HO5n := hide (A5.other (unhide HO5) (unhide NE))
                  have HO8n := hide (A5.other (unhide H8) (unhide NE8))
                  have HBn := hide (A5.below (unhide HBq) hzq)
                  clear A5 k0 k1 q0 q1
                  go_wp2
                  go_roundw
                  case rel => exact ⟨q + 1, by omega, by go_num, unhide HOn, ⟨P5, fun j hj e => P8 (e.trans hj.symm)⟩, fun h => by omega, unhide HO5n, fun _ => unhide HO8n, unhide HBn⟩
                  case measure => simp [intOf]; omega
              · obtain rfl : q = N0 / 2 := by omega
                have hend : ¬ 2 * ((N0 / 2 : Nat) : Int) + 1 < (N0 : Int) := by omega
                have HPa : Hid ((prs ys).take (N0 / 2) = prs ys) := List.take_of_length_le (by rw [unhide HPL]; exact Nat.le_refl _)
                rw [unhide HPa] at HOp
                have hN2 : N0 / 2 ≤ 288 := by omega
                generalize hqq : N0 / 2 = qn at *
                clear hOp hap hnil hO5 hO8 hBq HPa
                go_wp2_with (at_builtin; refine wpList_append_own_at _ rfl _ _ 22 rfl w.heap.size 3 i0 (.int .i64 0) 1 8 Try.underlying22 hi hz0 hz1 hz2 rfl (by decide) _ _ _ rfl (World.ownsRow_made wr #[] 0 hzq (Nat.zero_le _) (by simp)) ⟨g5, 0, none⟩ n c5 (iv W) rfl (by simp [unhide HWl]) (fun j u hj => own_cells ((unhide HO5).alloc (.cells #[] 3)) j u hj) (iv_one W) (by unfold maxLen; omega) (by omega) (by simp; omega) ?_)
                intro v1 w6 hOv hgv hnv hat
                have hg5lt := ((unhide HO5).lt g5 rfl).2
                have hne1 : v1.ownBlock ≠ some g5 := by
                  rcases hat with h | h
                  · rw [h]; simp [Value.ownBlock]; omega
                  · rw [h]; simp; omega
                have hgr6 : wr.grownBy w6 none := ⟨hgv.os, hgv.tape, hgv.output, Nat.le_trans (by simp) hgv.size, fun i hi' _ => (hgv.block i (by simp; omega) (by simp [Value.ownBlock]; omega)).trans (Below.heap_alloc wr _ i hi')⟩
                have HO56 := hide (own_kept (unhide HO5) hgr6)
                have HOp6 := hide (own_kept (unhide HOp) hgr6)
                have HB6 := hide (below_none (unhide HBq) hgr6 hzq)
                have hz6 := hgr6.size
                have HOv := hide hOv
                have hv1lt := hOv.lt
                obtain ⟨gv, cv, rfl, hcv⟩ : ∃ gv cv, v1 = .slice (some ⟨gv, 0, none⟩) n cv ∧ n ≤ cv := by
                  rcases hOv.2 with ⟨_, h⟩ | ⟨g, c, _, h, _, _, h2, _⟩
                  · omega
                  · exact ⟨g, c, h, h2⟩
                clear hOv hgv hnv hat hgr6 HO5 HOp HBq HO8
                by_cases hq0 : qn = 0
                case' pos =>
                  have hvp := unhide HNil hq0
                  subst hvp
                  have HNl : Hid (W ++ prs ys = W) := by
                    have : prs ys = [] := List.eq_nil_of_length_eq_zero (by rw [unhide HPL]; exact hq0)
                    unfold Hid; rw [this, List.append_nil]
                  go_wp2_with (at_builtin; refine wpList_append_nothing rfl _ _ rfl (some ⟨gv, 0, none⟩) n cv rfl hcv rfl ?_)
                  obtain ⟨v2, hv2⟩ : ∃ v2, v2 = Value.slice (some ⟨gv, 0, none⟩) n cv := ⟨_, rfl⟩
                  obtain ⟨w7, hw7⟩ : ∃ w7, w7 = w6 := ⟨_, rfl⟩
                  obtain ⟨NN, hNN⟩ : ∃ NN, NN = n := ⟨_, rfl⟩
                  have HO7 : Hid (w7.ownsRow w.heap.size 3 1 v2 NN (iv (W ++ prs ys))) := by rw [unhide HNl, hw7, hv2, hNN]; exact HOv
                  have HO57 : Hid (w7.ownsRow w.heap.size 3 1 (.slice (some ⟨g5, 0, none⟩) n c5) n (iv W)) := by rw [hw7]; exact HO56
                  have HB7 : Hid (Below w.heap.size w w7) := by rw [hw7]; exact HB6
                  have hne7 : v2.ownBlock ≠ some g5 := by rw [hv2]; exact hne1
                  have hNn : n ≤ NN ∧ NN ≤ 600 := by omega
                  rw [← hv2, ← hw7]
                  clear hv2 hw7 hNN HNl HOp6 HO56 HB6 HOv hne1 hv1lt
                case' neg =>
                  obtain ⟨gp, cp, hvp⟩ : ∃ gp cp, u10 = .slice (some ⟨gp, 0, none⟩) qn cp := by
                    rcases (unhide HOp6).2 with ⟨_, h⟩ | ⟨g, c, _, h, _⟩
                    · omega
                    · exact ⟨g, c, h⟩
                  subst hvp
                  go_wp2_with (at_builtin; refine wpList_append_own_at _ rfl _ _ 22 rfl w.heap.size 3 i0 (.int .i64 0) 1 8 Try.underlying22 hi hz0 hz1 hz2 rfl (by decide) _ _ _ rfl (unhide HOv) ⟨gp, 0, none⟩ qn cp (iv (prs ys)) rfl (by simp [unhide HPL]) (own_cells (unhide HOp6)) (iv_one _) (by unfold maxLen; omega) (by omega) (by omega) ?_)
                  intro v2 w7 hO7 hg7 hn7 hat7
                  obtain ⟨NN, hNN⟩ : ∃ NN, NN = n + qn := ⟨_, rfl⟩
                  have HO7 : Hid (w7.ownsRow w.heap.size 3 1 v2 NN (iv (W ++ prs ys))) := by unfold Hid; rw [hNN]; simpa using hO7
                  have HO57 : Hid (w7.ownsRow w.heap.size 3 1 (.slice (some ⟨g5, 0, none⟩) n c5) n (iv W)) := (unhide HO56).kept hg7 (.inr (fun e => hne1 e.symm))
                  have HB7 : Hid (Below w.heap.size w w7) := (unhide HB6).grown hg7 (by omega) (fun j e => (hv1lt j e).1)
                  have hne7 : v2.ownBlock ≠ some g5 := by
                    rcases hat7 with h | h
                    · rw [h]; exact hne1
                    · rw [h]; simp; omega
                  have hNn : n ≤ NN ∧ NN ≤ 600 := by omega
                  clear hO7 hg7 hn7 hat7 hNN HOp6 HO56 HB6 HOv hne1 hv1lt
                all_goals
                  have HSo2 := hide (sortInts_own w.heap.size v2 NN (W ++ prs ys) w7 (by omega) (by omega) (unhide HO7))
                  rw [unhide HRow] at HSo2
                  go_wp2_with fail
                  refine (unhide HSo2).mono ?_
                  rintro e w8 ⟨rfl, hO8', hg8⟩
                  have HO8 : Hid (w8.ownsRow w.heap.size 3 1 v2 (rowF W k).length (iv (rowF W k))) := by
                    have h1 : (rowF W k).length = NN := by have := hO8'.1; simpa using this
                    unfold Hid
                    rw [h1]; exact hO8'
                  have HO58 : Hid (w8.ownsRow w.heap.size 3 1 (.slice (some ⟨g5, 0, none⟩) n c5) n (iv W)) := (unhide HO57).kept hg8 (.inr (fun e => hne7 e.symm))
                  have HB8 : Hid (Below w.heap.size w w8) := (unhide HB7).grown hg8 (unhide HB7).size (fun j e => ((unhide HO7).lt j e).1)
                  clear hO8' hg8 HSo2 HO57 HB7 HO7
                  go_wp2
                  go_roundw
                  case rel => exact ⟨k + 1, by omega, by go_num, unhide HO58, unhide HB8, .inr ⟨by omega, hne7, unhide HO8⟩⟩
                  case measure => simp [intOf]; omega
          · obtain rfl : k = m := by omega
            obtain ⟨h0, hne, hO8⟩ : 0 < k ∧ u8.ownBlock ≠ some g5 ∧ wr.ownsRow w.heap.size 3 1 u8 (rowF W (k - 1)).length (iv (rowF W (k - 1))) := by
              rcases hvr with ⟨h1, _⟩ | h
              · omega
              · exact h
            obtain ⟨ys, hys⟩ : ∃ ys, rowF W (k - 1) = ys := ⟨_, rfl⟩
            have HSm : Hid (∀ j, 0 ≤ ys.getD j 0 ∧ ys.getD j 0 ≤ 1000000000000) := by rw [← hys]; exact rowAt_small W (unhide HBd) (k - 1) (by omega)
            have hTL : 2 * (n - 1) ≤ ys.length := by
              have h := rowAt_room W k (by rw [unhide HWl]; omega) (by omega) (by rw [unhide HWl]; exact unhide HRoom)
              rw [unhide HWl] at h
              rw [← hys, rowF, List.length_map]; exact h
            have HE2 : Hid (r = lsum (ys.take (2 * (n - 1)))) := by rw [unhide HE, ← hys]; unfold psum rowF; rw [List.map_take]; exact rfl
            rw [hys] at hO8
            obtain ⟨L, hL⟩ : ∃ L, ys.length = L := ⟨_, rfl⟩
            rw [hL] at hO8 hTL
            obtain ⟨gr, cr, hu8, hcr, hcm⟩ : ∃ gr cr, u8 = .slice (some ⟨gr, 0, none⟩) L cr ∧ L ≤ cr ∧ cr ≤ maxLen := by
              rcases hO8.2 with ⟨_, h⟩ | ⟨g, c, _, h, _, _, h2, h3, _⟩
              · omega
              · exact ⟨g, c, h, h2, h3⟩
            subst hu8
            unfold maxLen at hcm
            have HO8 := hide hO8
            have HLl := hide hL
            obtain ⟨T, hT⟩ : ∃ T, T = 2 * (n - 1) := ⟨_, rfl⟩
            rw [← hT] at HE2 hTL
            have ea : (2 * (n : Int) - 2).toNat = T := by omega
            have pa : (0 : Int) ≤ 2 * (n : Int) - 2 := by omega
            have ba : 2 * (n : Int) - 2 ≤ (cr : Int) := by omega
            have HTn := hide hT
            have hL6 : L ≤ 600 := by
              have h := rowF_length W (k - 1)
              rw [hys, unhide HWl, hL] at h; omega
            clear hvr hO5 hBr hO8 hL hT hys hne HRoom
            go_wp2
            go_loop [12, 14, 79] (fun vs _ vi => ∃ j : Nat, j ≤ T ∧ vi = .int .i64 j ∧ vs = .int .i64 (lsum (ys.take j))) (fun _ _ vi => T - (intOf vi).toNat)
            case atStart => exact ⟨0, Nat.zero_le _, rfl, rfl⟩
            case round =>
              obtain ⟨j, hj, rfl, rfl⟩ := hrel
              have hb := lsum_bound ys (unhide HSm) j (by rw [unhide HLl]; omega)
              by_cases hjT : j < T
              · have c1 := own_at (unhide HO8) j (by omega)
                have hx := unhide HSm j
                have HNx := hide (lsum_next ys (k := j) (by rw [unhide HLl]; omega))
                generalize ys.getD j 0 = x at *
                generalize lsum (ys.take j) = sm at *
                go_wp2
                go_round
                case rel => exact ⟨j + 1, by omega, by go_num, by first | (rw [unhide HNx]; go_num) | rw [unhide HNx]⟩
                case measure => simp [intOf]; omega
              · obtain rfl : j = T := by omega
                generalize lsum (ys.take j) = sm at *
                go_wp2
                go_ret
                exact ⟨by rw [unhide HE2]; rfl, unhide HBr⟩
end Go.Proofs.Ytmafecagcglaoab
