/-
  The library's slices.Grow of nothing, of bytes; slices.Concat of rows of bytes, whatever their lengths.
-/
import Derived.Test.YtfoaaamcpknjnadGreatQ0
import Derived.Deep.DeepAppendRoom
import Derived.OwnWalk
import Derived.Test.YtfoaaamcpknjnadGreatQ36
import Derived.Test.YtfoaaamcpknjnadGreatQ25
namespace Go.Proofs.YtfoaaamcpknjnadGreat
open Go.RowKit
set_option linter.unusedVariables false
set_option maxRecDepth 100000

theorem zeros_u8 (n : Nat) : (Builtin.zeroCells (Value.int .u8 0).cells n).toList = u8s (List.replicate n 0) := by
  show (Builtin.zeroCells #[Value.int .u8 0] n).toList = _
  unfold Builtin.zeroCells
  apply List.ext_getElem?
  intro i
  by_cases h : i < n
  · simp [h, Nat.mod_one]
  · simp [h]

/-- 'append(nil, make([]int, n)...)' -/
theorem run_append_makeB (w : World) (ty : TypeId) (n : Nat) (h0 : 0 < n) (hn : n ≤ 281474976710656) :
    ∃ c w', (Builtin.append_ #[22, 3] ty #[.slice none 0 0, .int .i64 (n : Int)]).run Tryz.prog w = .ok (.slice (some ⟨w.heap.size, 0, none⟩) n c) w' ∧ n ≤ c ∧ c ≤ maxLen ∧ w'.heap[w.heap.size]? = some (.cells (u8s (List.replicate c 0)).toArray 5 (0, 0)) ∧ w.grownBy w' none := by
  obtain ⟨i0, hi, hz0, hz1, hz2⟩ := info_parts info_u8
  have hge := grownCap_ge w n 0 5
  have hle := grownCap_le_maxLen w n 0 5 (by unfold maxLen; omega)
  have hnz : n ≠ 0 := by omega
  have h63' : ¬ (9223372036854775807 < (n : Int)) := by omega
  have hneg : ¬ ((n : Int) < 0) := by omega
  have h48 : ¬ (281474976710656 < (n : Int)) := by omega
  have h48' : ¬ (281474976710656 < Builtin.nextslicecap n 0) := by rw [nextslicecap_zero h0]; omega
  have hw : IntKind.i64.wrap (n : Int) = (n : Int) := by simp [IntKind.wrap, IntKind.signed, IntKind.bits]; omega
  refine ⟨grownCap w n 0 5, w.drew.alloc (.cells (Builtin.zeroCells (Value.int .u8 0).cells n ++ Builtin.zeroCells (Value.int .u8 0).cells (grownCap w n 0 5 - n)) 5), ?_, hge, hle, ?_, ?_⟩
  · simp [Builtin.append_, run_underlying Tryz.underlying22, run_underlying Tryz.underlying3, sizeOf, typeInfo, zeroValue, hi, hz0, hz1, hz2, asInt, asIntOf, hw, hneg, h48, hnz, h63', h48', Question.forced, run_firstCells_none, newRow, grownCap]
  · have := heap_alloc_new w.drew (.cells (Builtin.zeroCells (Value.int .u8 0).cells n ++ Builtin.zeroCells (Value.int .u8 0).cells (grownCap w n 0 5 - n)) 5)
    rw [show w.drew.heap.size = w.heap.size from rfl] at this
    rw [this]
    congr 2
    apply Array.ext'
    rw [Array.toList_append, zeros_u8, zeros_u8]
    show _ = u8s (List.replicate (grownCap w n 0 5) 0)
    unfold u8s
    rw [← List.map_append, List.replicate_append_replicate]
    congr 2
    omega
  · exact ⟨rfl, rfl, rfl, by simp, fun k hk _ => Below.heap_alloc w.drew _ k hk⟩
theorem wpList_append_makeB (w : World) {ops : Array Oper} {rest : List Oper} {o : Oper} {a : Act} {Q : Exit → Act → World → Prop} (hgd : o.guard = none) (s x : Operand)
    (ho : o.op = .call { callee := .builtin .append, args := #[s, x], argTypes := #[22, 3] }) (n : Nat) (hs : a.eval s = .slice none 0 0) (hx : a.eval x = .int .i64 (n : Int)) (h0 : 0 < n) (hn : n ≤ 281474976710656)
    (h : ∀ c w', n ≤ c → c ≤ maxLen → w'.heap[w.heap.size]? = some (.cells (u8s (List.replicate c 0)).toArray 5 (0, 0)) → w.grownBy w' none → wpList Tryz.prog ops Q rest (a.put o.dst (.slice (some ⟨w.heap.size, 0, none⟩) n c)) w') :
    wpList Tryz.prog ops Q (o :: rest) a w := by
  refine wpList_plain hgd fun K hK => ?_
  obtain ⟨c, w', hr, h2, h3, h4, h5⟩ := run_append_makeB w o.type n h0 hn
  unfold Oper.wp execOp
  simp only [ho, resolve, invoke, builtin, Sem.run_bind, Sem.run_pure, Result.andThen_ok, List.map_toArray, List.map_cons, List.map_nil, hs, hx, hr]
  exact hK _ _ (h c w' h2 h3 h4 h5)

theorem grow_nilB (n : Nat) (w : World) (h0 : 0 < n) (hn : n ≤ 281474976710656) : Calls Tryz.prog 19 #[.slice none 0 0, .int .i64 (n : Int)] w fun e w' => ∃ c, n ≤ c ∧ e = .returned (.slice (some ⟨w.heap.size, 0, none⟩) 0 c) ∧ w'.ownsRow w.heap.size 5 1 (.slice (some ⟨w.heap.size, 0, none⟩) 0 c) 0 (u8s []) ∧ Below w.heap.size w w' := by
  go_enter Tryz.func19, Tryz.ntmps19
  go_wp2_with (refine wpList_append_makeB w rfl (.tmp 20) (.tmp 21) rfl n rfl rfl h0 hn ?_)
  intro c w2 hc1 hc2 hg hgr
  have HB := hide (below_none (Below.refl w.heap.size w) hgr (Nat.le_refl _))
  have HO : Hid (w2.ownsRow w.heap.size 5 1 (.slice (some ⟨w.heap.size, 0, none⟩) 0 c) 0 (u8s [])) := ⟨rfl, .inr ⟨w.heap.size, c, _, rfl, Nat.le_refl _, hg, Nat.zero_le _, hc2, by simp, rfl⟩⟩
  clear hg hgr
  go_wp2
  go_ret
  exact ⟨c, hc1, rfl, unhide HO, unhide HB⟩

/-- nothing is appended -/
theorem run_append_no (w : World) (ty : TypeId) (base x : Option Addr) (n cap c : Nat) (h : n ≤ cap) :
    (Builtin.append_ #[22, 22] ty #[.slice base n cap, .slice x 0 c]).run Tryz.prog w = .ok (.slice base n cap) w := by
  obtain ⟨i0, hi, hz0, hz1, hz2⟩ := info_parts info_u8
  have hf : (Builtin.firstCells i0.size 0 (.slice x 0 c)).run Tryz.prog w = .ok #[] w := by
    cases x with
    | none => exact run_firstCells_none w i0.size 0 0 c
    | some b => exact run_firstCells_some w i0.size 0 b 0 c [] (by simp) (by simp)
  rw [hz1] at hf
  cases base <;> simp [Builtin.append_, run_underlying Tryz.underlying22, sizeOf, typeInfo, hi, hz1, Builtin.lenOf, hf, h, storeCells]
theorem wpList_append_no (w : World) {ops : Array Oper} {rest : List Oper} {o : Oper} {a : Act} {Q : Exit → Act → World → Prop} (hgd : o.guard = none) (s x : Operand)
    (ho : o.op = .call { callee := .builtin .append, args := #[s, x], argTypes := #[22, 22] }) (base y : Option Addr) (n cap c : Nat) (hs : a.eval s = .slice base n cap) (hx : a.eval x = .slice y 0 c) (hn : n ≤ cap)
    (h : wpList Tryz.prog ops Q rest (a.put o.dst (.slice base n cap)) w) : wpList Tryz.prog ops Q (o :: rest) a w := by
  refine wpList_plain hgd fun K hK => ?_
  unfold Oper.wp execOp
  simp only [ho, resolve, invoke, builtin, Sem.run_bind, Sem.run_pure, Result.andThen_ok, List.map_toArray, List.map_cons, List.map_nil, hs, hx, run_append_no w o.type base y n cap c hn]
  exact hK _ _ h
theorem grow_none (w : World) : Calls Tryz.prog 19 #[.slice none 0 0, .int .i64 0] w fun e w' => e = .returned (.slice none 0 0) ∧ w' = w := by
  go_enter Tryz.func19, Tryz.ntmps19
  go_wp2
  go_ret
  trivial

/-- the bytes of the first k rows; a row: where it lies, its capacity, its bytes -/
def catB (ps : List (Option Addr × Nat × List Nat)) : Nat → List Nat
  | 0 => []
  | k + 1 => catB ps k ++ (ps.getD k (none, 0, [])).2.2
theorem catB_le (ps : List (Option Addr × Nat × List Nat)) {j k : Nat} (h : j ≤ k) : (catB ps j).length ≤ (catB ps k).length := by
  induction k with
  | zero => rw [show j = 0 by omega]; exact Nat.le_refl _
  | succ k ih =>
    by_cases e : j = k + 1
    · rw [e]; exact Nat.le_refl _
    · have := ih (by omega)
      rw [catB, List.length_append]
      omega
theorem bytes_cells {w : World} {b o : Nat} {xs : List Nat} (h : Bytes w b o xs) : ∀ j u, (u8s xs)[j]? = some u → w.cell? ((⟨b, o, none⟩ : Addr).add j) = some u := by
  intro j u hj
  have e : (⟨b, o, none⟩ : Addr).add j = ⟨b, o + j, none⟩ := by unfold Addr.add; split <;> simp_all
  have hj2 : j < xs.length := by
    by_cases c : j < xs.length
    · exact c
    · rw [List.getElem?_eq_none (by simp [u8s]; omega)] at hj; cases hj
  have := h j hj2
  rw [e, this]
  simp [u8s, hj2] at hj
  subst hj
  simp [List.getD, hj2]
theorem u8s_one (xs : List Nat) : ∀ u ∈ u8s xs, u.oneCell' = true := by intro u hu; obtain ⟨x, _, rfl⟩ := List.mem_map.1 hu; rfl

set_option maxHeartbeats 2000000 in
theorem concatB_any (b o len cap : Nat) (ps : List (Option Addr × Nat × List Nat)) (w : World) (hb : b < w.heap.size) (hc : ∀ j, j < len → w.cell? ⟨b, o + j, none⟩ = some (.slice (ps.getD j (none, 0, [])).1 (ps.getD j (none, 0, [])).2.2.length (ps.getD j (none, 0, [])).2.1))
    (hr : ∀ j, j < len → BytesIn w (ps.getD j (none, 0, [])).1 (ps.getD j (none, 0, [])).2.2) (hsum : (catB ps len).length ≤ 281474976710656) (hlen : len ≤ 100) :
    Calls Tryz.prog 11 #[.slice (some ⟨b, o, none⟩) len cap] w fun e w' => ∃ a c, (catB ps len).length ≤ c ∧ e = .returned (.slice a (catB ps len).length c) ∧ BytesIn w' a (catB ps len) ∧ Below w.heap.size w w' := by
  obtain ⟨i0, hi, hz0, hz1, hz2⟩ := info_parts info_u8
  have HC := hide hc
  have HR := hide hr
  obtain ⟨T, hT⟩ : ∃ T, (catB ps len).length = T := ⟨_, rfl⟩
  rw [hT] at hsum
  have HTT := hide hT
  have HS : Hid (∀ k, k ≤ len → (catB ps k).length ≤ T) := hide (fun k hk => by rw [← hT]; exact catB_le ps hk)
  clear hc hr hT
  go_enter Tryz.func11, Tryz.ntmps11
  go_wp2
  go_loop [3, 11] (fun v3 v11 => ∃ k : Nat, k ≤ len ∧ v11 = .int .i64 (k : Int) ∧ v3 = .int .i64 ((catB ps k).length : Int)) (fun _ v11 => len - (intOf v11).toNat)
  case atStart => exact ⟨0, Nat.zero_le _, rfl, rfl⟩
  case round =>
    obtain ⟨k, hk, rfl, rfl⟩ := hrel
    by_cases hlt : k < len
    · have c1 := unhide HC k hlt
      have hs := unhide HS (k + 1) (by omega)
      have HN : Hid ((catB ps (k + 1)).length = (catB ps k).length + (ps.getD k (none, 0, [])).2.2.length) := hide (by rw [catB, List.length_append])
      rw [unhide HN] at hs
      generalize (ps.getD k (none, 0, [])).2.2.length = m at *
      generalize (ps.getD k (none, 0, [])).2.1 = mc at *
      generalize (ps.getD k (none, 0, [])).1 = g at *
      generalize (catB ps k).length = L at *
      go_wp2
      go_round
      case rel => exact ⟨k + 1, by omega, by go_num, by rw [unhide HN]; go_num⟩
      case measure => simp [intOf]; omega
    · obtain rfl : len = k := by omega
      rw [unhide HTT]
      by_cases hT0 : T = 0
      · subst hT0
        go_wp2_with fail
        refine (grow_none w).mono ?_
        rintro e w2 ⟨rfl, rfl⟩
        go_wp2
        go_loop [6, 27] (fun v6 v27 => ∃ k : Nat, k ≤ len ∧ v27 = .int .i64 (k : Int) ∧ v6 = .slice none 0 0) (fun _ v27 => len - (intOf v27).toNat)
        case atStart => exact ⟨0, Nat.zero_le _, rfl, rfl⟩
        case round =>
          obtain ⟨k, hk2, rfl, rfl⟩ := hrel
          by_cases hlt2 : k < len
          · have c1 := unhide HC k hlt2
            have hs := unhide HS (k + 1) (by omega)
            rw [catB, List.length_append] at hs
            have h0 : (ps.getD k (none, 0, [])).2.2.length = 0 := by omega
            rw [h0] at c1
            generalize (ps.getD k (none, 0, [])).2.1 = mc at *
            generalize (ps.getD k (none, 0, [])).1 = g at *
            clear hs h0
            go_wp2_with (at_builtin; refine wpList_append_no _ rfl (.tmp 31) (.tmp 32) rfl none g 0 0 mc rfl rfl (Nat.le_refl _) ?_)
            go_round
            case rel => exact ⟨k + 1, by omega, by go_num, rfl⟩
            case measure => simp [intOf]; omega
          · obtain rfl : len = k := by omega
            go_wp2
            go_ret
            exact ⟨none, 0, by rw [unhide HTT]; exact Nat.le_refl _, by rw [unhide HTT]; rfl, .inl (List.length_eq_zero_iff.1 (unhide HTT)), Below.refl _ _⟩
      · go_wp2_with fail
        refine (grow_nilB T w (by omega) hsum).mono ?_
        rintro e w2 ⟨c, hTc, rfl, hO2, hB2⟩
        have HO2 := hide hO2
        have HB2 := hide hB2
        clear hO2 hB2
        go_wp2
        go_loopw [6, 27] (fun v6 v27 wr => ∃ k : Nat, k ≤ len ∧ v27 = .int .i64 (k : Int) ∧ v6 = .slice (some ⟨w.heap.size, 0, none⟩) (catB ps k).length c ∧ Hid (wr.ownsRow w.heap.size 5 1 (.slice (some ⟨w.heap.size, 0, none⟩) (catB ps k).length c) (catB ps k).length (u8s (catB ps k))) ∧ Hid (Below w.heap.size w wr)) (fun _ v27 _ => len - (intOf v27).toNat)
        case atStart => exact ⟨0, Nat.zero_le _, rfl, rfl, HO2, HB2⟩
        case round =>
          obtain ⟨k, hk2, rfl, rfl, HO, HBr⟩ := hrel
          by_cases hlt2 : k < len
          · have c1 := ((unhide HBr).cell (p := ⟨b, o + k, none⟩) hb).trans (unhide HC k hlt2)
            have hrow := (unhide HR k hlt2).below (unhide HBr) (Nat.le_refl _)
            have hs := unhide HS (k + 1) (by omega)
            have HN : Hid (catB ps (k + 1) = catB ps k ++ (ps.getD k (none, 0, [])).2.2) := hide rfl
            rw [unhide HN, List.length_append] at hs
            generalize (ps.getD k (none, 0, [])).2.2 = xs at *
            generalize (ps.getD k (none, 0, [])).1 = g at *
            generalize (ps.getD k (none, 0, [])).2.1 = mc at *
            rcases hrow with rfl | ⟨gb, go, rfl, hgb, hrow⟩
            · have HN2 : Hid (catB ps (k + 1) = catB ps k) := hide (by rw [unhide HN, List.append_nil])
              simp only [List.length_nil] at c1 hs
              generalize hL : (catB ps k).length = L at *
              clear HN
              go_wp2_with (at_builtin; refine wpList_append_no _ rfl (.tmp 31) (.tmp 32) rfl _ g L c mc rfl rfl (by omega) ?_)
              go_roundw
              case rel => exact ⟨k + 1, by omega, by go_num, by rw [unhide HN2, hL], hide (by rw [unhide HN2, hL]; exact unhide HO), HBr⟩
              case measure => simp [intOf]; omega
            · have HRC := hide (bytes_cells hrow)
              obtain ⟨m, hm⟩ : ∃ m, xs.length = m := ⟨_, rfl⟩
              obtain ⟨L, hL⟩ : ∃ L, (catB ps k).length = L := ⟨_, rfl⟩
              rw [hm] at c1 hs
              rw [hL] at hs HO ⊢
              have HM := hide hm
              have HLL := hide hL
              clear hrow hm hL
              go_wp2_with (at_builtin; refine wpList_append_own_spare _ rfl (.tmp 31) (.tmp 32) 22 rfl w.heap.size 5 i0 1 Tryz.underlying22 hi hz1 w.heap.size L c (u8s (catB ps k)) rfl (unhide HO) ⟨gb, go, none⟩ m mc (u8s xs) rfl (by simp [u8s, unhide HM]) (unhide HRC) (u8s_one xs) (by omega) ?_)
              intro w4 hO4 hgrow
              have HO4 : Hid (w4.ownsRow w.heap.size 5 1 (.slice (some ⟨w.heap.size, 0, none⟩) (catB ps (k + 1)).length c) (catB ps (k + 1)).length (u8s (catB ps (k + 1)))) := by
                rw [unhide HN, List.length_append, unhide HLL, unhide HM]
                show w4.ownsRow w.heap.size 5 1 _ (L + m) (List.map _ (catB ps k ++ xs))
                rw [List.map_append]
                exact hO4
              have HB4 := hide ((unhide HBr).grown hgrow (unhide HBr).size (fun g e => by cases e; exact Nat.le_refl _))
              have HLN : Hid ((catB ps (k + 1)).length = L + m) := hide (by rw [unhide HN, List.length_append, unhide HLL, unhide HM])
              clear hO4 hgrow c1 HRC
              go_wp2
              go_roundw
              case rel => exact ⟨k + 1, by omega, by go_num, by rw [unhide HLN], HO4, HB4⟩
              case measure => simp [intOf]; omega
          · obtain rfl : len = k := by omega
            rw [unhide HTT] at HO ⊢
            go_wp2
            go_ret
            exact ⟨_, c, by rw [unhide HTT]; exact hTc, by rw [unhide HTT]; rfl, BytesIn.own (unhide HO), unhide HBr⟩
end Go.Proofs.YtfoaaamcpknjnadGreat

/-
  The library's slices.Concat of two rows of bytes.
-/
namespace Go.Proofs.YtfoaaamcpknjnadGreat
open Go.RowKit
set_option linter.unusedVariables false
set_option maxRecDepth 100000

theorem two_cells (w : World) (v0 v1 : Value) (t : TypeId) : (w.alloc (.cells #[v0, v1] t)).cell? ⟨w.heap.size, 0 + 0, none⟩ = some v0 ∧ (w.alloc (.cells #[v0, v1] t)).cell? ⟨w.heap.size, 0 + 1, none⟩ = some v1 := by
  constructor <;> rw [cell_of_row _ _ _ _ _ _ (heap_alloc_new w _)] <;> rfl
theorem both_rows (w : World) (a b : Option Addr) (la lb ca cb cap : Nat) (xs ys : List Nat) (t : TypeId) (hla : xs.length = la) (hlb : ys.length = lb) (hba : BytesIn w a xs) (hbb : BytesIn w b ys) (hs : la + lb ≤ 281474976710656) :
    Calls Tryz.prog 11 #[.slice (some ⟨w.heap.size, 0, none⟩) 2 cap] (w.alloc (.cells #[.slice a la ca, .slice b lb cb] t)) fun e w' => ∃ x c, la + lb ≤ c ∧ e = .returned (.slice x (la + lb) c) ∧ BytesIn w' x (xs ++ ys) ∧ Below w.heap.size w w' := by
  subst hla hlb
  have e : catB [(a, ca, xs), (b, cb, ys)] 2 = xs ++ ys := by simp [catB]
  have hl : (catB [(a, ca, xs), (b, cb, ys)] 2).length = xs.length + ys.length := by rw [e, List.length_append]
  refine (concatB_any w.heap.size 0 2 cap [(a, ca, xs), (b, cb, ys)] _ (by simp) ?_ ?_ (by rw [hl]; exact hs) (by decide)).mono ?_
  · intro j hj
    have h := two_cells w (.slice a xs.length ca) (.slice b ys.length cb) t
    have : j = 0 ∨ j = 1 := by omega
    rcases this with rfl | rfl
    · exact h.1
    · exact h.2
  · intro j hj
    have : j = 0 ∨ j = 1 := by omega
    rcases this with rfl | rfl
    · exact hba.alloc _
    · exact hbb.alloc _
  · rintro e' w' ⟨x, c, h1, rfl, h2, h3⟩
    rw [hl] at h1
    rw [e] at h2
    exact ⟨x, c, h1, by rw [hl], h2, ((Below.refl w.heap.size w).alloc (Nat.le_refl _) _).trans (h3.mono (by simp))⟩
theorem app_lt {xs ys : List Nat} (h1 : ∀ j, xs.getD j 0 < 256) (h2 : ∀ j, ys.getD j 0 < 256) : ∀ j, (xs ++ ys).getD j 0 < 256 := by
  intro j
  by_cases hj : j < xs.length
  · have := h1 j
    rw [List.getD, List.getElem?_append_left hj]
    exact this
  · have := h2 (j - xs.length)
    rw [List.getD, List.getElem?_append_right (by omega)]
    exact this
end Go.Proofs.YtfoaaamcpknjnadGreat

/-
  What was packed is read by the document's own reader: tokens. Of bits alone.
-/
namespace Go.Proofs.YtfoaaamcpknjnadGreat
set_option linter.unusedVariables false
set_option maxRecDepth 100000

theorem uplace_at (l : List Int) (hG : Good l) (row : List Bool) (q : Nat) (u : US) (R : List Bool) (he : u.e = 0) (hq : q < l.length) (hpos : 0 < l.getD q 0) (h : row.drop u.p = codeT l q ++ R) : uplace l row u = (q, { u with p := u.p + (codeT l q).length }) := by
  have hl := code_len l hG q
  have hne : codeT l q ≠ [] := fun e => by rw [e, List.length_nil] at hl; omega
  refine uplace_ok l hG row q u he hq hne (drop_len h (List.length_pos_iff.2 hne)) ?_
  rw [h, List.take_append_of_le_length (Nat.le_refl _), List.take_length]

/-! how many, how far -/
theorem ucopy_ok (d : Nat) : ∀ (n : Nat) (u : US), u.e = 0 → u.out.length + n ≤ 3000 → ucopy d n u = { u with out := copyN u.out d n }
  | 0, u, he, h => by rw [ucopy, copyN]
  | n + 1, u, he, h => by
    rw [ucopy, if_pos he, copyN]
    have e : usay (u.out.getD (u.out.length - d) 0) u = { u with out := u.out ++ [u.out.getD (u.out.length - d) 0] } := by
      unfold usay; rw [if_pos he, if_neg (by omega)]
    rw [e, ucopy_ok d n { u with out := u.out ++ [u.out.getD (u.out.length - d) 0] } he (by simp; omega)]
theorem wid_pos {t : Tk} {n : Nat} (h : errOne t n = 0) : 1 ≤ wid t := (wid_le h).1
/-- a token that stands there is read -/
theorem utok1_ok (a b : List Int) (hA : Good a) (hB : Good b) (row : List Bool) (t : Tk) (u : US) (R : List Bool) (he : u.e = 0) (hu : u.p ≤ row.length) (ht : errOne t u.out.length = 0) (h256 : t.1 < 256) (hlen : u.out.length + wid t ≤ 3000) (hh : Has a b (itOf t)) (h : row.drop u.p = putIs a b (itOf t) ++ R) :
    utok1 row a b u = (true, { u with p := u.p + (putIs a b (itOf t)).length, out := putT t u.out }) ∧ u.p + (putIs a b (itOf t)).length ≤ row.length := by
  have hR := congrArg List.length h
  rw [List.length_drop, List.length_append] at hR
  refine ⟨?_, by omega⟩
  obtain ⟨b0, n, d⟩ := t
  rcases errOne_right ht with ⟨h1, h2⟩ | ⟨h1, h2, h3, h4, h5⟩
  · simp only at h1 h2 h256 hlen
    have ei : itOf (b0, n, d) = [.sym b0] := by unfold itOf; rw [if_pos h1]
    rw [ei] at hh h ⊢
    have hp : putIs a b [.sym b0] = codeT a b0 := by simp [putIs, putI]
    rw [hp] at h ⊢
    obtain ⟨k1, k2⟩ := hh.1 b0 (by simp)
    have hw : wid (b0, n, d) = 1 := by unfold wid; rw [if_pos h1]
    rw [hw] at hlen
    have hpt : putT (b0, n, d) u.out = u.out ++ [b0] := by unfold putT; rw [if_pos h1]
    unfold utok1
    rw [uplace_at a hA row b0 u R he k1 k2 h]
    simp only
    rw [if_neg (by simp [he]; omega), if_pos h256, hpt]
    unfold usay
    simp only
    rw [if_pos he, if_neg (by omega)]
  · simp only at h1 h2 h3 h4 h5 hlen
    obtain ⟨n, rfl⟩ := Int.eq_ofNat_of_zero_le (show 0 ≤ n by omega)
    obtain ⟨d, rfl⟩ := Int.eq_ofNat_of_zero_le (show 0 ≤ d by omega)
    have hn0 : ¬ ((n : Nat) : Int) = 0 := by omega
    have ei : itOf (b0, (n : Int), (d : Int)) = [.sym (manyI n).1, .rest (manyI n).2.1 (manyI n).2.2, .far (farI d).1, .rest (farI d).2.1 (farI d).2.2] := by unfold itOf; rw [if_neg hn0]; rfl
    have hw : wid (b0, (n : Int), (d : Int)) = n := by unfold wid; rw [if_neg hn0]; rfl
    rw [hw] at hlen
    have hpt : putT (b0, (n : Int), (d : Int)) u.out = copyN u.out d n := by unfold putT; rw [if_neg hn0]; rfl
    obtain ⟨m1, m2, m3, m4, m5, m6, _⟩ := many_is (n := n) (by omega) (by omega)
    obtain ⟨f1, f2, f3, f4, f5⟩ := far_is (d := d) (by omega) (by omega)
    rw [ei] at hh h hR ⊢
    obtain ⟨k1, k2⟩ := hh.1 (manyI n).1 (by simp)
    obtain ⟨k3, k4⟩ := hh.2 (farI d).1 (by simp)
    generalize hm1 : (manyI n).1 = M at *
    generalize hm2 : (manyI n).2.1 = MR at *
    generalize hm3 : (manyI n).2.2 = MS at *
    generalize hf1 : (farI d).1 = F at *
    generalize hf2 : (farI d).2.1 = FR at *
    generalize hf3 : (farI d).2.2 = FZ at *
    have hp : putIs a b [.sym M, .rest MR MS, .far F, .rest FR FZ] = codeT a M ++ (numBits MR MS ++ (codeT b F ++ numBits FR FZ)) := by simp [putIs, putI]
    rw [hp] at h hR ⊢
    simp only [List.append_assoc] at h
    simp only [List.length_append, numBits_length] at hR
    have c1 := uplace_at a hA row M u _ he k1 k2 h
    have d1 := drop_more h
    have c2 := uget_at row MS MR { u with p := u.p + (codeT a M).length } _ he (by simp only; omega) m5 d1
    have d2 := drop_more d1
    rw [numBits_length] at d2
    have c3 := uplace_at b hB row F { u with p := u.p + (codeT a M).length + MS } _ he k3 k4 d2
    have d3 := drop_more d2
    have c4 := uget_at row FZ FR { u with p := u.p + (codeT a M).length + MS + (codeT b F).length } _ he (by simp only; omega) f4 d3
    unfold utok1
    rw [c1]
    simp only
    rw [if_neg (by rintro (h9 | h9); exact h9 he; omega), if_neg (by omega), if_neg (by omega)]
    unfold usame
    simp only [m3, c2, c3]
    rw [if_neg (show ¬ (u.e = 0 ∧ 29 < F) by omega)]
    rw [if_neg (show ¬ (u.e ≠ 0) from fun h9 => h9 he)]
    unfold ufar
    simp only [f2, c4, f3, m4]
    rw [if_neg (show ¬ (u.e = 0 ∧ u.out.length < d) by omega), ucopy_ok d n { u with p := u.p + (codeT a M).length + MS + (codeT b F).length + FZ } he (by simp only; omega), hpt]
    simp only [List.length_append, numBits_length]
    congr 2
    omega
/-- tokens that stand there are read, up to the end -/
theorem utok_ok (a b : List Int) (hA : Good a) (hB : Good b) (row : List Bool) : ∀ (ts : List Tk) (f : Nat) (u : US) (R : List Bool), ts.length < f → u.e = 0 → u.p ≤ row.length → chkF ts u.out.length = 0 → (∀ t ∈ ts, t.1 < 256) → Has a b (itsOf ts) → row.drop u.p = putIs a b (itsOf ts) ++ R →
    utok row a b f u = { u with p := u.p + (putIs a b (itsOf ts)).length, out := expF ts u.out }
  | [], f + 1, u, R, hf, he, hu, hc, hb, hh, h => by
    have hp : putIs a b (itsOf []) = codeT a 256 := by simp [putIs, putI, itsOf, itsF]
    rw [hp] at h ⊢
    obtain ⟨k1, k2⟩ := hh.1 256 (by simp [itsOf])
    rw [utok, if_pos he]
    have c1 := uplace_at a hA row 256 u R he k1 k2 h
    have e : utok1 row a b u = (false, { u with p := u.p + (codeT a 256).length }) := by
      unfold utok1
      rw [c1]
      simp only
      rw [if_pos (by simp)]
    rw [e, if_neg (by simp), expF]
  | t :: ts, f + 1, u, R, hf, he, hu, hc, hb, hh, h => by
    have ei : itsOf (t :: ts) = itOf t ++ itsOf ts := by simp [itsOf, itsF]
    rw [ei] at hh h ⊢
    rw [putIs_app] at h ⊢
    rw [List.append_assoc] at h
    have ht : errOne t u.out.length = 0 := by
      rw [chkF] at hc
      by_cases e : errOne t u.out.length = 0
      · exact e
      · rw [if_neg e] at hc; exact absurd hc e
    have hc2 : chkF ts (u.out.length + wid t) = 0 := by rw [chkF, if_pos ht] at hc; exact hc
    have hlen := chkF_zero hc2
    obtain ⟨e1, e2⟩ := utok1_ok a b hA hB row t u _ he hu ht (hb t (by simp)) hlen hh.app.1 h
    rw [utok, if_pos he, e1]
    simp only [if_true]
    have d1 := drop_more h
    rw [utok_ok a b hA hB row ts f { u with p := u.p + (putIs a b (itOf t)).length, out := putT t u.out } R (by simp at hf; omega) he e2 (by simp only; rw [putT_length]; exact hc2) (fun t' h' => hb t' (by simp [h'])) hh.app.2 d1, expF]
    simp only [List.length_append]
    congr 1
    omega
  | _, 0, u, R, hf, _, _, _, _, _, _ => by omega
end Go.Proofs.YtfoaaamcpknjnadGreat
