/-
  Package inflate, of bits alone: where the document's reader finds nothing wrong, the program reads as it does.
-/
import Derived.Test.YtfoaaamcpknjnacQ42
import Derived.Test.YtfoaaamcpknjnacQ50
import Derived.Test.YtfoaaamcpknjnacQ4
import Derived.Deep.DeepAppendRoom
import Derived.OwnWalk
namespace Go.Proofs.Ytfoaaamcpknjnac
set_option linter.unusedVariables false
set_option maxRecDepth 100000

theorem ucopy_fit {d : Nat} : ∀ {n : Nat} {u : US}, (ucopy d n u).e = 0 → u.out.length ≤ 3000 → u.out.length + n ≤ 3000
  | 0, u, h, ho => by omega
  | n + 1, u, h, ho => by
    have he := ucopy_e h
    rw [ucopy, if_pos he] at h
    obtain ⟨_, h2, h3⟩ := usay_e (ucopy_e h)
    rw [h3] at h
    have ih := ucopy_fit h (by simp only [List.length_append, List.length_cons, List.length_nil]; omega)
    simp only [List.length_append, List.length_cons, List.length_nil] at ih
    omega
theorem itoks_utok (row : List Bool) (a b : List Int) : ∀ (F F' : Nat) (u : US), (utok row a b F u).e = 0 → row.length + 1 ≤ u.p + F → row.length + 1 ≤ u.p + F' → u.p ≤ row.length → u.out.length ≤ 3000 → itoks row a b F' u = utok row a b F u
  | 0, F', u, h, h1, h2, hp, ho => by omega
  | F + 1, 0, u, h, h1, h2, hp, ho => by omega
  | F + 1, F' + 1, u, h, h1, h2, hp, ho => by
    obtain ⟨t, x, hT, e⟩ := utok_round h
    obtain ⟨a1, a2, a3, a4, a5⟩ := hT.ahead
    rw [e] at h ⊢
    rw [itoks_succ]
    cases hT with
    | stop v g1 g2 =>
      simp [g1, g2]
    | byte c x g1 g2 g3 g4 =>
      have hx : x.out.length ≤ 3000 := by
        have := uplace_p2 g1 g2
        rw [this.2.2.1]; exact ho
      have hs : istep row b c x = { x with out := x.out ++ [c] } := by
        unfold istep
        rw [if_pos g3, if_neg (by omega)]
      rw [g1]
      simp only
      rw [if_neg (fun h => h g2), if_neg (by omega), hs, if_neg (fun h => h g2), if_pos trivial]
      rw [if_pos rfl] at h
      exact itoks_utok row a b F F' _ h (by omega) (by omega) a2 (a5 ho)
    | same k n0 f d0 x1 x2 x3 x4 _ g1 g2 g3 g4 g5 g6 g7 g8 g9 g10 g11 g12 g13 g14 =>
      have p1 := uplace_p2 g1 g2
      have p2 := uget_p2 g5 g6
      have p3 := uplace_p2 g7 g8
      have p4 := uget_p2 g10 g11
      have hx4 : x4.out.length ≤ 3000 := by rw [p4.2.2.1, p3.2.2.1, p2.2.2.1, p1.2.2.1]; exact ho
      have hfit := ucopy_fit (by rw [g13]; exact g14 : (ucopy ((farsL.getD f (0, 0)).1 + d0) ((samesL.getD (k - 257) (0, 0)).1 + n0) x4).e = 0) hx4
      have hs : istep row b k x1 = x := by
        unfold istep
        rw [if_neg (by omega), if_neg (by omega), leastS_is k g3 g4, g5]
        simp only
        have hh : ihow row b x2 = ((farsL.getD f (0, 0)).1 + d0, x4) := by
          unfold ihow
          rw [g7]
          simp only
          rw [if_neg (fun h => h g8), if_neg (by omega), leastF_is f g9, g10]
        rw [if_neg (fun h => h g6), hh]
        simp only
        rw [if_neg (fun h => h g11)]
        unfold iback
        rw [if_neg (by omega), if_neg (by omega), g13]
      rw [g1]
      simp only
      rw [if_neg (fun h => h g2), if_neg (by omega), hs, if_neg (fun h => h g14), if_pos trivial]
      rw [if_pos rfl] at h
      exact itoks_utok row a b F F' _ h (by omega) (by omega) a2 (a5 ho)
theorem uget_bit (row : List Bool) (u : US) : (uget row 1 u).1 < 2 := by
  have := ulow row 1 u
  simpa using this
theorem iblock_is {row : List Bool} {u x : US} {t : Bool} (h : Blk1R row u t x) (hp : u.p ≤ row.length) (ho : u.out.length ≤ 3000) : ∃ l, l < 2 ∧ t = decide (l = 1) ∧ iblock row u = (l, x) := by
  cases h with
  | stored l x1 x2 h1 h2 h3 h4 =>
    obtain ⟨q2, q2l, q2o, q2k, q2e⟩ := uget_p2 h2 h3
    obtain ⟨q1, q1l, q1o, q1k, _⟩ := uget_p2 h1 q2e
    have hl := uget_bit row u
    rw [h1] at hl
    refine ⟨l, hl, rfl, ?_⟩
    unfold iblock
    rw [h1]
    simp only
    rw [if_neg (fun h => h q2e), h2]
    simp only
    rw [if_neg (fun h => h h3)]
    unfold ikind ikeep
    rw [if_pos rfl, istored_ok row x2 (by rw [q2o, q1o]; exact ho) h4, if_pos h4]
  | coded l k x1 x2 x3 a b h1 h2 h3 h4 h5 h6 h7 =>
    obtain ⟨q2, q2l, q2o, q2k, q2e⟩ := uget_p2 h2 h3
    obtain ⟨q1, q1l, q1o, q1k, _⟩ := uget_p2 h1 q2e
    have hl := uget_bit row u
    rw [h1] at hl
    have hx2 : x2.out.length ≤ 3000 := by rw [q2o, q1o]; exact ho
    refine ⟨l, hl, rfl, ?_⟩
    unfold iblock
    rw [h1]
    simp only
    rw [if_neg (fun h => h q2e), h2]
    simp only
    rw [if_neg (fun h => h h3)]
    rcases h4 with h4 | h4
    · subst h4
      unfold uopen at h5
      rw [if_pos rfl] at h5
      have e1 := (Prod.mk.inj h5).2
      have e2 := Prod.mk.inj (Prod.mk.inj h5).1
      subst e1
      rw [← e2.1, ← e2.2] at h7 ⊢
      unfold ikind ikeep
      rw [if_neg (by decide), if_pos rfl, itoks_utok row fixA fixB row.length (row.length + 1) x2 h7 (by omega) (by omega) q2l hx2, if_pos h7]
    · subst h4
      unfold uopen at h5
      rw [if_neg (by decide), if_pos rfl] at h5
      obtain ⟨m0, n0, c0, v1, v2, v3, us, S0, L0, hTD⟩ := utold_good h5 h6
      obtain ⟨t1, t2, t3, t4⟩ := utold_p hTD q2l
      unfold ikind ikeep
      rw [if_neg (by decide), if_neg (by decide), if_pos rfl, h5]
      simp only
      rw [if_neg (fun h => h h6), itoks_utok row a b row.length (row.length + 1) x3 h7 (by omega) (by omega) t2 (by rw [t3]; exact hx2), if_pos h7]
theorem iblocks_is (row : List Bool) : ∀ (F : Nat) (u : US), (ublocks row F u).e = 0 → u.p ≤ row.length → u.out.length ≤ 3000 → iblocks row F u = ublocks row F u
  | 0, u, h, hp, ho => rfl
  | F + 1, u, h, hp, ho => by
    obtain ⟨t, x, hB, e⟩ := ublocks_round h
    obtain ⟨a1, a2, a3, a4, a5⟩ := hB.ahead
    obtain ⟨l, hl, ht, hi⟩ := iblock_is hB hp ho
    rw [e] at h ⊢
    rw [iblocks, hi]
    simp only
    by_cases hl0 : l = 0
    · have htf : t = false := by rw [ht, hl0]; rfl
      rw [if_pos ⟨hl0, a3⟩, if_pos htf]
      rw [if_pos htf] at h
      exact iblocks_is row F x h a2 (a5 ho)
    · have htt : ¬ t = false := by rw [ht, show l = 1 by omega]; decide
      rw [if_neg (fun h => hl0 h.1), if_neg htt]
theorem iunpk_unpk (row : List Bool) (h : (unpk row).e = 0) : iunpk row = unpk row := iblocks_is row _ _ h (Nat.zero_le _) (by simp [US0])
end Go.Proofs.Ytfoaaamcpknjnac

/-
  The library's slices.Grow of nothing, of bytes; slices.Concat of rows of bytes, whatever their lengths.
-/
namespace Go.Proofs.Ytfoaaamcpknjnac
open Go.RowKit
set_option linter.unusedVariables false
set_option maxRecDepth 100000

theorem zeros_u8 (n : Nat) : (Builtin.zeroCells (Value.int .u8 0).cells n).toList = u8s (List.replicate n 0) := by
  show (Builtin.zeroCells #[Value.int .u8 0] n).toList = _
  unfold Builtin.zeroCells
  apply List.ext_getElem?
  intro i
  by_cases h : i < n
  · simp [h, Nat.mod_one]
  · simp [h]

/-- 'append(nil, make([]int, n)...)' -/
theorem run_append_makeB (w : World) (ty : TypeId) (n : Nat) (h0 : 0 < n) (hn : n ≤ 281474976710656) :
    ∃ c w', (Builtin.append_ #[22, 3] ty #[.slice none 0 0, .int .i64 (n : Int)]).run Try.prog w = .ok (.slice (some ⟨w.heap.size, 0, none⟩) n c) w' ∧ n ≤ c ∧ c ≤ maxLen ∧ w'.heap[w.heap.size]? = some (.cells (u8s (List.replicate c 0)).toArray 5 (0, 0)) ∧ w.grownBy w' none := by
  obtain ⟨i0, hi, hz0, hz1, hz2⟩ := info_parts info_u8
  have hge := grownCap_ge w n 0 5
  have hle := grownCap_le_maxLen w n 0 5 (by unfold maxLen; omega)
  have hnz : n ≠ 0 := by omega
  have h63' : ¬ (9223372036854775807 < (n : Int)) := by omega
  have hneg : ¬ ((n : Int) < 0) := by omega
  have h48 : ¬ (281474976710656 < (n : Int)) := by omega
  have h48' : ¬ (281474976710656 < Builtin.nextslicecap n 0) := by rw [nextslicecap_zero h0]; omega
  have hw : IntKind.i64.wrap (n : Int) = (n : Int) := by simp [IntKind.wrap, IntKind.signed, IntKind.bits]; omega
  refine ⟨grownCap w n 0 5, w.drew.alloc (.cells (Builtin.zeroCells (Value.int .u8 0).cells n ++ Builtin.zeroCells (Value.int .u8 0).cells (grownCap w n 0 5 - n)) 5), ?_, hge, hle, ?_, ?_⟩
  · simp [Builtin.append_, run_underlying Try.underlying22, run_underlying Try.underlying3, sizeOf, typeInfo, zeroValue, hi, hz0, hz1, hz2, asInt, asIntOf, hw, hneg, h48, hnz, h63', h48', Question.forced, run_firstCells_none, newRow, grownCap]
  · have := heap_alloc_new w.drew (.cells (Builtin.zeroCells (Value.int .u8 0).cells n ++ Builtin.zeroCells (Value.int .u8 0).cells (grownCap w n 0 5 - n)) 5)
    rw [show w.drew.heap.size = w.heap.size from rfl] at this
    rw [this]
    congr 2
    apply Array.ext'
    rw [Array.toList_append, zeros_u8, zeros_u8]
    show _ = u8s (List.replicate (grownCap w n 0 5) 0)
    unfold u8s
    rw [← List.map_append, List.replicate_append_replicate]
    congr 2
    omega
  · exact ⟨rfl, rfl, rfl, by simp, fun k hk _ => Below.heap_alloc w.drew _ k hk⟩
theorem wpList_append_makeB (w : World) {ops : Array Oper} {rest : List Oper} {o : Oper} {a : Act} {Q : Exit → Act → World → Prop} (hgd : o.guard = none) (s x : Operand)
    (ho : o.op = .call { callee := .builtin .append, args := #[s, x], argTypes := #[22, 3] }) (n : Nat) (hs : a.eval s = .slice none 0 0) (hx : a.eval x = .int .i64 (n : Int)) (h0 : 0 < n) (hn : n ≤ 281474976710656)
    (h : ∀ c w', n ≤ c → c ≤ maxLen → w'.heap[w.heap.size]? = some (.cells (u8s (List.replicate c 0)).toArray 5 (0, 0)) → w.grownBy w' none → wpList Try.prog ops Q rest (a.put o.dst (.slice (some ⟨w.heap.size, 0, none⟩) n c)) w') :
    wpList Try.prog ops Q (o :: rest) a w := by
  refine wpList_plain hgd fun K hK => ?_
  obtain ⟨c, w', hr, h2, h3, h4, h5⟩ := run_append_makeB w o.type n h0 hn
  unfold Oper.wp execOp
  simp only [ho, resolve, invoke, builtin, Sem.run_bind, Sem.run_pure, Result.andThen_ok, List.map_toArray, List.map_cons, List.map_nil, hs, hx, hr]
  exact hK _ _ (h c w' h2 h3 h4 h5)

theorem grow_nilB (n : Nat) (w : World) (h0 : 0 < n) (hn : n ≤ 281474976710656) : Calls Try.prog 31 #[.slice none 0 0, .int .i64 (n : Int)] w fun e w' => ∃ c, n ≤ c ∧ e = .returned (.slice (some ⟨w.heap.size, 0, none⟩) 0 c) ∧ w'.ownsRow w.heap.size 5 1 (.slice (some ⟨w.heap.size, 0, none⟩) 0 c) 0 (u8s []) ∧ Below w.heap.size w w' := by
  go_enter Try.func31, Try.ntmps31
  go_wp2_with (refine wpList_append_makeB w rfl (.tmp 20) (.tmp 21) rfl n rfl rfl h0 hn ?_)
  intro c w2 hc1 hc2 hg hgr
  have HB := hide (below_none (Below.refl w.heap.size w) hgr (Nat.le_refl _))
  have HO : Hid (w2.ownsRow w.heap.size 5 1 (.slice (some ⟨w.heap.size, 0, none⟩) 0 c) 0 (u8s [])) := ⟨rfl, .inr ⟨w.heap.size, c, _, rfl, Nat.le_refl _, hg, Nat.zero_le _, hc2, by simp, rfl⟩⟩
  clear hg hgr
  go_wp2
  go_ret
  exact ⟨c, hc1, rfl, unhide HO, unhide HB⟩

/-- nothing is appended -/
theorem run_append_no (w : World) (ty : TypeId) (base x : Option Addr) (n cap c : Nat) (h : n ≤ cap) :
    (Builtin.append_ #[22, 22] ty #[.slice base n cap, .slice x 0 c]).run Try.prog w = .ok (.slice base n cap) w := by
  obtain ⟨i0, hi, hz0, hz1, hz2⟩ := info_parts info_u8
  have hf : (Builtin.firstCells i0.size 0 (.slice x 0 c)).run Try.prog w = .ok #[] w := by
    cases x with
    | none => exact run_firstCells_none w i0.size 0 0 c
    | some b => exact run_firstCells_some w i0.size 0 b 0 c [] (by simp) (by simp)
  rw [hz1] at hf
  cases base <;> simp [Builtin.append_, run_underlying Try.underlying22, sizeOf, typeInfo, hi, hz1, Builtin.lenOf, hf, h, storeCells]
theorem wpList_append_no (w : World) {ops : Array Oper} {rest : List Oper} {o : Oper} {a : Act} {Q : Exit → Act → World → Prop} (hgd : o.guard = none) (s x : Operand)
    (ho : o.op = .call { callee := .builtin .append, args := #[s, x], argTypes := #[22, 22] }) (base y : Option Addr) (n cap c : Nat) (hs : a.eval s = .slice base n cap) (hx : a.eval x = .slice y 0 c) (hn : n ≤ cap)
    (h : wpList Try.prog ops Q rest (a.put o.dst (.slice base n cap)) w) : wpList Try.prog ops Q (o :: rest) a w := by
  refine wpList_plain hgd fun K hK => ?_
  unfold Oper.wp execOp
  simp only [ho, resolve, invoke, builtin, Sem.run_bind, Sem.run_pure, Result.andThen_ok, List.map_toArray, List.map_cons, List.map_nil, hs, hx, run_append_no w o.type base y n cap c hn]
  exact hK _ _ h
theorem grow_none (w : World) : Calls Try.prog 31 #[.slice none 0 0, .int .i64 0] w fun e w' => e = .returned (.slice none 0 0) ∧ w' = w := by
  go_enter Try.func31, Try.ntmps31
  go_wp2
  go_ret
  trivial

/-- the bytes of the first k rows; a row: where it lies, its capacity, its bytes -/
def catB (ps : List (Option Addr × Nat × List Nat)) : Nat → List Nat
  | 0 => []
  | k + 1 => catB ps k ++ (ps.getD k (none, 0, [])).2.2
theorem catB_le (ps : List (Option Addr × Nat × List Nat)) {j k : Nat} (h : j ≤ k) : (catB ps j).length ≤ (catB ps k).length := by
  induction k with
  | zero => rw [show j = 0 by omega]; exact Nat.le_refl _
  | succ k ih =>
    by_cases e : j = k + 1
    · rw [e]; exact Nat.le_refl _
    · have := ih (by omega)
      rw [catB, List.length_append]
      omega
theorem bytes_cells {w : World} {b o : Nat} {xs : List Nat} (h : Bytes w b o xs) : ∀ j u, (u8s xs)[j]? = some u → w.cell? ((⟨b, o, none⟩ : Addr).add j) = some u := by
  intro j u hj
  have e : (⟨b, o, none⟩ : Addr).add j = ⟨b, o + j, none⟩ := by unfold Addr.add; split <;> simp_all
  have hj2 : j < xs.length := by
    by_cases c : j < xs.length
    · exact c
    · rw [List.getElem?_eq_none (by simp [u8s]; omega)] at hj; cases hj
  have := h j hj2
  rw [e, this]
  simp [u8s, hj2] at hj
  subst hj
  simp [List.getD, hj2]
theorem u8s_one (xs : List Nat) : ∀ u ∈ u8s xs, u.oneCell' = true := by intro u hu; obtain ⟨x, _, rfl⟩ := List.mem_map.1 hu; rfl

set_option maxHeartbeats 2000000 in
theorem concatB_any (b o len cap : Nat) (ps : List (Option Addr × Nat × List Nat)) (w : World) (hb : b < w.heap.size) (hc : ∀ j, j < len → w.cell? ⟨b, o + j, none⟩ = some (.slice (ps.getD j (none, 0, [])).1 (ps.getD j (none, 0, [])).2.2.length (ps.getD j (none, 0, [])).2.1))
    (hr : ∀ j, j < len → BytesIn w (ps.getD j (none, 0, [])).1 (ps.getD j (none, 0, [])).2.2) (hsum : (catB ps len).length ≤ 281474976710656) (hlen : len ≤ 100) :
    Calls Try.prog 19 #[.slice (some ⟨b, o, none⟩) len cap] w fun e w' => ∃ a c, (catB ps len).length ≤ c ∧ e = .returned (.slice a (catB ps len).length c) ∧ BytesIn w' a (catB ps len) ∧ Below w.heap.size w w' := by
  obtain ⟨i0, hi, hz0, hz1, hz2⟩ := info_parts info_u8
  have HC := hide hc
  have HR := hide hr
  obtain ⟨T, hT⟩ : ∃ T, (catB ps len).length = T := ⟨_, rfl⟩
  rw [hT] at hsum
  have HTT := hide hT
  have HS : Hid (∀ k, k ≤ len → (catB ps k).length ≤ T) := hide (fun k hk => by rw [← hT]; exact catB_le ps hk)
  clear hc hr hT
  go_enter Try.func19, Try.ntmps19
  go_wp2
  go_loop [3, 11] (fun v3 v11 => ∃ k : Nat, k ≤ len ∧ v11 = .int .i64 (k : Int) ∧ v3 = .int .i64 ((catB ps k).length : Int)) (fun _ v11 => len - (intOf v11).toNat)
  case atStart => exact ⟨0, Nat.zero_le _, rfl, rfl⟩
  case round =>
    obtain ⟨k, hk, rfl, rfl⟩ := hrel
    by_cases hlt : k < len
    · have c1 := unhide HC k hlt
      have hs := unhide HS (k + 1) (by omega)
      have HN : Hid ((catB ps (k + 1)).length = (catB ps k).length + (ps.getD k (none, 0, [])).2.2.length) := hide (by rw [catB, List.length_append])
      rw [unhide HN] at hs
      generalize (ps.getD k (none, 0, [])).2.2.length = m at *
      generalize (ps.getD k (none, 0, [])).2.1 = mc at *
      generalize (ps.getD k (none, 0, [])).1 = g at *
      generalize (catB ps k).length = L at *
      go_wp2
      go_round
      case rel => exact ⟨k + 1, by omega, by go_num, by rw [unhide HN]; go_num⟩
      case measure => simp [intOf]; omega
    · obtain rfl : len = k := by omega
      rw [unhide HTT]
      by_cases hT0 : T = 0
      · subst hT0
        go_wp2_with fail
        refine (grow_none w).mono ?_
        rintro e w2 ⟨rfl, rfl⟩
        go_wp2
        go_loop [6, 27] (fun v6 v27 => ∃ k : Nat, k ≤ len ∧ v27 = .int .i64 (k : Int) ∧ v6 = .slice none 0 0) (fun _ v27 => len - (intOf v27).toNat)
        case atStart => exact ⟨0, Nat.zero_le _, rfl, rfl⟩
        case round =>
          obtain ⟨k, hk2, rfl, rfl⟩ := hrel
          by_cases hlt2 : k < len
          · have c1 := unhide HC k hlt2
            have hs := unhide HS (k + 1) (by omega)
            rw [catB, List.length_append] at hs
            have h0 : (ps.getD k (none, 0, [])).2.2.length = 0 := by omega
            rw [h0] at c1
            generalize (ps.getD k (none, 0, [])).2.1 = mc at *
            generalize (ps.getD k (none, 0, [])).1 = g at *
            clear hs h0
            go_wp2_with (at_builtin; refine wpList_append_no _ rfl (.tmp 31) (.tmp 32) rfl none g 0 0 mc rfl rfl (Nat.le_refl _) ?_)
            go_round
            case rel => exact ⟨k + 1, by omega, by go_num, rfl⟩
            case measure => simp [intOf]; omega
          · obtain rfl : len = k := by omega
            go_wp2
            go_ret
            exact ⟨none, 0, by rw [unhide HTT]; exact Nat.le_refl _, by rw [unhide HTT]; rfl, .inl (List.length_eq_zero_iff.1 (unhide HTT)), Below.refl _ _⟩
      · go_wp2_with fail
        refine (grow_nilB T w (by omega) hsum).mono ?_
        rintro e w2 ⟨c, hTc, rfl, hO2, hB2⟩
        have HO2 := hide hO2
        have HB2 := hide hB2
        clear hO2 hB2
        go_wp2
        go_loopw [6, 27] (fun v6 v27 wr => ∃ k : Nat, k ≤ len ∧ v27 = .int .i64 (k : Int) ∧ v6 = .slice (some ⟨w.heap.size, 0, none⟩) (catB ps k).length c ∧ Hid (wr.ownsRow w.heap.size 5 1 (.slice (some ⟨w.heap.size, 0, none⟩) (catB ps k).length c) (catB ps k).length (u8s (catB ps k))) ∧ Hid (Below w.heap.size w wr)) (fun _ v27 _ => len - (intOf v27).toNat)
        case atStart => exact ⟨0, Nat.zero_le _, rfl, rfl, HO2, HB2⟩
        case round =>
          obtain ⟨k, hk2, rfl, rfl, HO, HBr⟩ := hrel
          by_cases hlt2 : k < len
          · have c1 := ((unhide HBr).cell (p := ⟨b, o + k, none⟩) hb).trans (unhide HC k hlt2)
            have hrow := (unhide HR k hlt2).below (unhide HBr) (Nat.le_refl _)
            have hs := unhide HS (k + 1) (by omega)
            have HN : Hid (catB ps (k + 1) = catB ps k ++ (ps.getD k (none, 0, [])).2.2) := hide rfl
            rw [unhide HN, List.length_append] at hs
            generalize (ps.getD k (none, 0, [])).2.2 = xs at *
            generalize (ps.getD k (none, 0, [])).1 = g at *
            generalize (ps.getD k (none, 0, [])).2.1 = mc at *
            rcases hrow with rfl | ⟨gb, go, rfl, hgb, hrow⟩
            · have HN2 : Hid (catB ps (k + 1) = catB ps k) := hide (by rw [unhide HN, List.append_nil])
              simp only [List.length_nil] at c1 hs
              generalize hL : (catB ps k).length = L at *
              clear HN
              go_wp2_with (at_builtin; refine wpList_append_no _ rfl (.tmp 31) (.tmp 32) rfl _ g L c mc rfl rfl (by omega) ?_)
              go_roundw
              case rel => exact ⟨k + 1, by omega, by go_num, by rw [unhide HN2, hL], hide (by rw [unhide HN2, hL]; exact unhide HO), HBr⟩
              case measure => simp [intOf]; omega
            · have HRC := hide (bytes_cells hrow)
              obtain ⟨m, hm⟩ : ∃ m, xs.length = m := ⟨_, rfl⟩
              obtain ⟨L, hL⟩ : ∃ L, (catB ps k).length = L := ⟨_, rfl⟩
              rw [hm] at c1 hs
              rw [hL] at hs HO ⊢
              have HM := hide hm
              have HLL := hide hL
              clear hrow hm hL
              go_wp2_with (at_builtin; refine wpList_append_own_spare _ rfl (.tmp 31) (.tmp 32) 22 rfl w.heap.size 5 i0 1 Try.underlying22 hi hz1 w.heap.size L c (u8s (catB ps k)) rfl (unhide HO) ⟨gb, go, none⟩ m mc (u8s xs) rfl (by simp [u8s, unhide HM]) (unhide HRC) (u8s_one xs) (by omega) ?_)
              intro w4 hO4 hgrow
              have HO4 : Hid (w4.ownsRow w.heap.size 5 1 (.slice (some ⟨w.heap.size, 0, none⟩) (catB ps (k + 1)).length c) (catB ps (k + 1)).length (u8s (catB ps (k + 1)))) := by
                rw [unhide HN, List.length_append, unhide HLL, unhide HM]
                show w4.ownsRow w.heap.size 5 1 _ (L + m) (List.map _ (catB ps k ++ xs))
                rw [List.map_append]
                exact hO4
              have HB4 := hide ((unhide HBr).grown hgrow (unhide HBr).size (fun g e => by cases e; exact Nat.le_refl _))
              have HLN : Hid ((catB ps (k + 1)).length = L + m) := hide (by rw [unhide HN, List.length_append, unhide HLL, unhide HM])
              clear hO4 hgrow c1 HRC
              go_wp2
              go_roundw
              case rel => exact ⟨k + 1, by omega, by go_num, by rw [unhide HLN], HO4, HB4⟩
              case measure => simp [intOf]; omega
          · obtain rfl : len = k := by omega
            rw [unhide HTT] at HO ⊢
            go_wp2
            go_ret
            exact ⟨_, c, by rw [unhide HTT]; exact hTc, by rw [unhide HTT]; rfl, BytesIn.own (unhide HO), unhide HBr⟩
end Go.Proofs.Ytfoaaamcpknjnac

/-
  The library's slices.Concat of two rows of bytes.
-/
namespace Go.Proofs.Ytfoaaamcpknjnac
open Go.RowKit
set_option linter.unusedVariables false
set_option maxRecDepth 100000

theorem two_cells (w : World) (v0 v1 : Value) (t : TypeId) : (w.alloc (.cells #[v0, v1] t)).cell? ⟨w.heap.size, 0 + 0, none⟩ = some v0 ∧ (w.alloc (.cells #[v0, v1] t)).cell? ⟨w.heap.size, 0 + 1, none⟩ = some v1 := by
  constructor <;> rw [cell_of_row _ _ _ _ _ _ (heap_alloc_new w _)] <;> rfl
theorem both_rows (w : World) (a b : Option Addr) (la lb ca cb cap : Nat) (xs ys : List Nat) (t : TypeId) (hla : xs.length = la) (hlb : ys.length = lb) (hba : BytesIn w a xs) (hbb : BytesIn w b ys) (hs : la + lb ≤ 281474976710656) :
    Calls Try.prog 19 #[.slice (some ⟨w.heap.size, 0, none⟩) 2 cap] (w.alloc (.cells #[.slice a la ca, .slice b lb cb] t)) fun e w' => ∃ x c, la + lb ≤ c ∧ e = .returned (.slice x (la + lb) c) ∧ BytesIn w' x (xs ++ ys) ∧ Below w.heap.size w w' := by
  subst hla hlb
  have e : catB [(a, ca, xs), (b, cb, ys)] 2 = xs ++ ys := by simp [catB]
  have hl : (catB [(a, ca, xs), (b, cb, ys)] 2).length = xs.length + ys.length := by rw [e, List.length_append]
  refine (concatB_any w.heap.size 0 2 cap [(a, ca, xs), (b, cb, ys)] _ (by simp) ?_ ?_ (by rw [hl]; exact hs) (by decide)).mono ?_
  · intro j hj
    have h := two_cells w (.slice a xs.length ca) (.slice b ys.length cb) t
    have : j = 0 ∨ j = 1 := by omega
    rcases this with rfl | rfl
    · exact h.1
    · exact h.2
  · intro j hj
    have : j = 0 ∨ j = 1 := by omega
    rcases this with rfl | rfl
    · exact hba.alloc _
    · exact hbb.alloc _
  · rintro e' w' ⟨x, c, h1, rfl, h2, h3⟩
    rw [hl] at h1
    rw [e] at h2
    exact ⟨x, c, h1, by rw [hl], h2, ((Below.refl w.heap.size w).alloc (Nat.le_refl _) _).trans (h3.mono (by simp))⟩
theorem app_lt {xs ys : List Nat} (h1 : ∀ j, xs.getD j 0 < 256) (h2 : ∀ j, ys.getD j 0 < 256) : ∀ j, (xs ++ ys).getD j 0 < 256 := by
  intro j
  by_cases hj : j < xs.length
  · have := h1 j
    rw [List.getD, List.getElem?_append_left hj]
    exact this
  · have := h2 (j - xs.length)
    rw [List.getD, List.getElem?_append_right (by omega)]
    exact this
end Go.Proofs.Ytfoaaamcpknjnac
