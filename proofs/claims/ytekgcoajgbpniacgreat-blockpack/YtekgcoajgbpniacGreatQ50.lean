/-
  The closed fact that the statements on package block ask for first: it is true.
-/
import Derived.Test.YtekgcoajgbpniacGreatQ49
import Derived.Lib.SlBytesConst
import Derived.Test.YtekgcoajgbpniacGreatQ0
import Derived.Test.YtekgcoajgbpniacGreatQ4
import Derived.Test.YtekgcoajgbpniacGreatQ31
import Derived.Test.YtekgcoajgbpniacGreatQ33
import Derived.Maps.AppendAt
namespace Go.Proofs.YtekgcoajgbpniacGreat
open Go.RowKit
set_option linter.unusedVariables false
set_option maxRecDepth 100000

theorem one_stor (bs : List Nat) : oneB bs 0 = padB (storB ([true] ++ numBits 0 2) bs) := by unfold oneB blkB; rw [if_pos rfl]; rfl
theorem one_fix (bs : List Nat) : oneB bs 1 = padB ([true] ++ numBits 1 2 ++ fixBits (toks bs)) := by unfold oneB blkB; rw [if_neg (by decide), if_pos rfl]; rfl
theorem one_dyn (bs : List Nat) : oneB bs 2 = padB ([true] ++ numBits 2 2 ++ dynB bs) := by unfold oneB blkB; rw [if_neg (by decide), if_neg (by decide)]; rfl
def pk7 : List Nat := [1, 2, 0, 253, 255, 97, 97]
theorem lt_of_all {l : List Nat} (h : l.all (fun x => decide (x < 256)) = true) (j : Nat) : l.getD j 0 < 256 := by
  by_cases hj : j < l.length
  · have := List.all_eq_true.1 h l[j] (List.getElem_mem hj)
    have := of_decide_eq_true this
    simpa [List.getD, hj] using this
  · simp only [List.getD]
    rw [List.getElem?_eq_none (by omega)]
    decide
theorem one7 : IsOne [97, 97] 0 pk7 := ⟨by rw [one_stor]; decide +kernel, lt_of_all (by decide)⟩
theorem one5 : IsOne [] 0 [1, 0, 0, 255, 255] := ⟨by rw [one_stor]; decide +kernel, lt_of_all (by decide)⟩
theorem one2 : IsOne [] 1 [3, 0] := ⟨by rw [one_fix]; decide +kernel, lt_of_all (by decide)⟩
theorem headB_ge (a b own : List Int) : 26 ≤ (headB a b own).length := by
  have h1 := ownN_ge own 19 (by decide)
  have h2 := ownN_le own 19
  unfold headB
  rw [List.length_append, List.length_append, List.length_append, List.length_append, numBits_length, numBits_length, numBits_length, own3_len, List.length_take]
  have : ord19.length = 19 := rfl
  omega
theorem dynB_ge (bs : List Nat) : 26 ≤ (dynB bs).length := by
  have h : ∀ a b ts, 26 ≤ (planB a b ts).length := fun a b ts => by
    have := headB_ge a b (ownD (a ++ b))
    unfold planB
    rw [List.length_append]
    omega
  unfold dynB
  split
  · exact h _ _ _
  · exact h _ _ _
theorem len2 : lenP [] 1 = 2 := one2.len.symm
theorem len5 : lenP [] 0 = 5 := one5.len.symm
theorem len3 : 3 ≤ lenP [] 2 := by
  have := dynB_ge []
  unfold lenP
  rw [one_dyn, padB_length]
  simp only [List.length_append, numBits_length, List.length_cons, List.length_nil]
  omega
theorem best0 : bestP [] 3 = 1 := by
  have e2 : bestP [] 2 = 1 := by
    rw [bestP_next [] 1 (by decide)]
    have : bestP [] 1 = 0 := rfl
    rw [this, len2, len5, if_pos (by decide)]
  rw [bestP_next [] 2 (by decide), e2, len2, if_neg (by have := len3; omega)]

theorem Bytes.new (w : World) (xs : List Nat) (t : TypeId) (A : Array Value) (b : Nat) (hb : b = w.heap.size) (hA : A = (u8s xs).toArray) : Bytes (w.alloc (.cells A t)) b 0 xs := by
  intro j hj
  rw [World.cell?_alloc_at _ _ _ _ (by rw [hb]), hA]
  simp [List.getD, hj]

set_option maxHeartbeats 1000000 in
theorem packed_any (w : World) : Calls Tryz.prog 5 #[] w fun e w' => e = .returned (.bool true) ∧ Below w.heap.size w w' := by
  have hcc := Lib.run_convert_bytes_const (P := Tryz.prog) w 24 5 #[.int .u8 97, .int .u8 97] 2 2 Tryz.underlying24 Tryz.underlying5
  have hbm : Bytes (w.alloc (.cells #[.int .u8 97, .int .u8 97] 5 (2, 3))) w.heap.size 0 [97, 97] := by
    intro j hj
    rw [Nat.zero_add, cell_of_row _ _ _ _ _ _ (heap_alloc_new w _)]
    match j, hj with
    | 0, _ => rfl
    | 1, _ => rfl
  have hO1 := fun T U => one_ok (some ⟨w.heap.size, 0, none⟩) 2 2 0 [97, 97] (w.alloc (.cells #[.int .u8 97, .int .u8 97] 5 (2, 3))) T U rfl (by decide) (fun e => by cases e) (.inr ⟨_, 0, rfl, by simp, hbm⟩) (lt_of_all (by decide)) (by decide) (by decide)
  simp only [World.size_alloc] at hO1
  have hl7 : lenP [97, 97] 0 = 7 := one7.len.symm
  rw [hl7] at hO1
  have HO1 := hide hO1
  have HBE := hide (fun W => by
    have := best_ok none 0 0 [] W rfl (by decide) (fun _ => rfl) (.inl rfl) (fun j => by simp) (by decide)
    rw [best0, len2] at this
    exact this)
  clear hO1 hbm
  go_enter Tryz.func5, Tryz.ntmps5
  go_wp2_with fail
  refine (unhide HO1 _ _).mono ?_
  rintro e w1 ⟨g1, c1, out1, rfl, hg1, hb1, hI1, hB1⟩
  obtain rfl := hI1.one one7
  have HBW : Hid (Below w.heap.size w w1) := hide (((Below.refl w.heap.size w).alloc (Nat.le_refl _) _).trans (hB1.mono (by omega)))
  have HY1 := hide hb1
  have hzw := (unhide HBW).size
  clear hI1 hB1 hb1 HO1
  go_wp2_with fail
  refine (unhide HBE _).mono ?_
  rintro e w2 ⟨g2, c2, out2, rfl, hg2, hb2, hI2, hB2⟩
  obtain rfl := hI2.one one2
  have hz2 := hB2.size
  have HY2 := hide hb2
  have HY1' := hide ((unhide HY1).below hB2 hg1)
  have HBW2 := hide ((unhide HBW).trans (hB2.mono hzw))
  clear hI2 hB2 hb2 HBE HY1 HBW
  have HQ1 : Hid (∀ (X : Obj), X = .cells #[.int .u8 1, .int .u8 2, .int .u8 0, .int .u8 253, .int .u8 255, .int .u8 97, .int .u8 97] 5 → Calls Tryz.prog 7 #[.slice (some ⟨g1, 0, none⟩) 7 c1, .slice (some ⟨w2.heap.size, 0, none⟩) 7 7] (w2.alloc X) fun e w' => e = .returned (.bool true) ∧ w' = w2.alloc X) := fun X hX => by
    subst hX
    have hb : (pk7 == pk7) = true := by simp
    have := bequal_in (some ⟨g1, 0, none⟩) (some ⟨w2.heap.size, 0, none⟩) 7 c1 7 7 pk7 pk7 (w2.alloc (.cells #[.int .u8 1, .int .u8 2, .int .u8 0, .int .u8 253, .int .u8 255, .int .u8 97, .int .u8 97] 5)) rfl rfl one7.val one7.val (.inr ⟨g1, 0, rfl, by simp; omega, (unhide HY1').below ((Below.refl w2.heap.size w2).alloc (Nat.le_refl _) _) (by omega)⟩) (.inr ⟨w2.heap.size, 0, rfl, by simp, Bytes.new w2 pk7 _ _ _ rfl rfl⟩)
    rw [hb] at this
    exact this
  have HQ2 : Hid (∀ (W : World) (X : Obj), Below w2.heap.size w2 W → X = .cells #[.int .u8 3, .int .u8 0] 5 → Calls Tryz.prog 7 #[.slice (some ⟨g2, 0, none⟩) 2 c2, .slice (some ⟨W.heap.size, 0, none⟩) 2 2] (W.alloc X) fun e w' => e = .returned (.bool true) ∧ w' = W.alloc X) := fun W X hW hX => by
    subst hX
    have hb : (([3, 0] : List Nat) == [3, 0]) = true := by decide
    have hz := hW.size
    have := bequal_in (some ⟨g2, 0, none⟩) (some ⟨W.heap.size, 0, none⟩) 2 c2 2 2 [3, 0] [3, 0] (W.alloc (.cells #[.int .u8 3, .int .u8 0] 5)) rfl rfl one2.val one2.val (.inr ⟨g2, 0, rfl, by simp; omega, ((unhide HY2).below hW hg2).below ((Below.refl W.heap.size W).alloc (Nat.le_refl _) _) (by omega)⟩) (.inr ⟨W.heap.size, 0, rfl, by simp, Bytes.new W [3, 0] _ _ _ rfl rfl⟩)
    rw [hb] at this
    exact this
  have HFB : Hid (∀ X Y : Obj, Below w.heap.size w ((w2.alloc X).alloc Y)) := fun X Y => ((unhide HBW2).alloc (by omega) X).alloc (by simp; omega) Y
  have HQ3 := hide (fun X Y hY => unhide HQ2 (w2.alloc X) Y ((Below.refl w2.heap.size w2).alloc (Nat.le_refl _) X) hY)
  simp only [World.size_alloc] at HQ3
  clear HQ2 HY1' HY2 HBW2
  go_wp2_with fail
  refine (unhide HQ1 _ rfl).mono ?_
  rintro e w3 ⟨rfl, rfl⟩
  go_wp2_with fail
  refine (unhide HQ3 _ _ rfl).mono ?_
  rintro e w4 ⟨rfl, rfl⟩
  go_wp2
  go_ret
  exact ⟨rfl, unhide HFB _ _⟩
end Go.Proofs.YtekgcoajgbpniacGreat

/-
  The library's slices.Equal on rows of int: it answers whether the two rows hold the same numbers, and changes nothing.
-/
namespace Go.Proofs.YtekgcoajgbpniacGreat
open Go.RowKit
set_option linter.unusedVariables false

theorem eq_step {xs ys : List Int} {k : Nat} (h : ∀ j, j < k → xs.getD j 0 = ys.getD j 0) (hk : xs.getD k 0 = ys.getD k 0) : ∀ j, j < k + 1 → xs.getD j 0 = ys.getD j 0 := by
  intro j hj
  by_cases e : j = k
  · rw [e]; exact hk
  · exact h j (by omega)

theorem list_eq_of {xs ys : List Int} {n : Nat} (h1 : xs.length = n) (h2 : ys.length = n) (h : ∀ j, j < n → xs.getD j 0 = ys.getD j 0) : xs = ys := by
  apply List.ext_getElem (by omega)
  intro j hj1 hj2
  have := h j (by omega)
  simpa [List.getD, hj1, hj2] using this

theorem equal_ints (b1 o1 n1 c1 b2 o2 n2 c2 : Nat) (xs ys : List Int) (w : World) (h1l : xs.length = n1) (h2l : ys.length = n2) (hm1 : n1 ≤ 9223372036854775807) (hm2 : n2 ≤ 9223372036854775807)
    (h1 : Row .i64 w b1 o1 xs) (h2 : Row .i64 w b2 o2 ys) :
    Calls Tryz.prog 8 #[.slice (some ⟨b1, o1, none⟩) n1 c1, .slice (some ⟨b2, o2, none⟩) n2 c2] w fun e w' => e = .returned (.bool (xs == ys)) ∧ ∃ q, w' = w.drewN q := by
  by_cases hn : n1 = n2
  · subst hn
    go_enter Tryz.func8, Tryz.ntmps8
    go_wp2
    go_loopw [13] (fun i wr => ∃ k q : Nat, k ≤ n1 ∧ i = .int .i64 k ∧ wr = w.drewN q ∧ ∀ j, j < k → xs.getD j 0 = ys.getD j 0) (fun i _ => n1 - (intOf i).toNat)
    case atStart => exact ⟨0, 0, Nat.zero_le _, rfl, rfl, by omega⟩
    case round =>
      obtain ⟨k, q, hk, rfl, rfl, hall⟩ := hrel
      by_cases hlt : k < n1
      · have c1 := h1 k (by omega)
        have c2 := h2 k (by omega)
        obtain ⟨x, hx⟩ : ∃ x, xs.getD k 0 = x := ⟨_, rfl⟩
        obtain ⟨y, hy⟩ : ∃ y, ys.getD k 0 = y := ⟨_, rfl⟩
        rw [hx] at c1
        rw [hy] at c2
        have HX : Hid (xs.getD k 0 = x) := hx
        have HY : Hid (ys.getD k 0 = y) := hy
        have HA : Hid (∀ j, j < k → xs.getD j 0 = ys.getD j 0) := hall
        clear hall hx hy h1 h2
        by_cases hxy : x = y
        · have hb : (x != y) = false := by simp [hxy]
          have HXY : Hid (x = y) := hxy
          clear hxy
          go_wp2_with fail
          go_quiet (fail)
          go_wp2
          go_roundw
          case rel => exact ⟨k + 1, _, by omega, by go_num, rfl, eq_step HA.out (by rw [HX.out, HY.out]; exact HXY.out)⟩
          case measure => simp [intOf]; omega
        · have hb : (x != y) = true := by simp [hxy]
          have HXY : Hid (¬ x = y) := hxy
          clear hxy
          go_wp2_with fail
          go_quiet (fail)
          go_wp2
          go_ret
          have hne : (xs == ys) = false := by
            rw [beq_eq_false_iff_ne]
            intro e
            exact HXY.out (by rw [← HX.out, ← HY.out, e])
          rw [hne]
          exact ⟨rfl, _, World.drewN_drewN _ _ _⟩
      · have hkn : k = n1 := by omega
        have he : (xs == ys) = true := by
          rw [beq_iff_eq]
          exact list_eq_of h1l h2l (by rw [← hkn]; exact hall)
        clear hall h1 h2
        go_wp2
        go_ret
        rw [he]
        exact ⟨rfl, _, rfl⟩
  · have hne : (xs == ys) = false := by
      rw [beq_eq_false_iff_ne]
      intro e
      exact hn (by rw [← h1l, ← h2l, e])
    have hb : ((n1 : Int) != (n2 : Int)) = true := by
      rw [bne_iff_ne]
      omega
    clear h1 h2
    go_enter Tryz.func8, Tryz.ntmps8
    go_wp2
    go_ret
    rw [hne]
    exact ⟨rfl, 0, rfl⟩
end Go.Proofs.YtekgcoajgbpniacGreat

/-
  slices.Equal on rows of numbers that may be nil.
-/
namespace Go.Proofs.YtekgcoajgbpniacGreat
open Go.RowKit
set_option linter.unusedVariables false

theorem equal_in (a1 a2 : Option Addr) (n1 c1 n2 c2 : Nat) (xs ys : List Int) (w : World) (h1l : xs.length = n1) (h2l : ys.length = n2) (hm1 : n1 ≤ 9223372036854775807) (hm2 : n2 ≤ 9223372036854775807) (h1 : RowIn .i64 w a1 xs) (h2 : RowIn .i64 w a2 ys) :
    Calls Tryz.prog 8 #[.slice a1 n1 c1, .slice a2 n2 c2] w fun e w' => e = .returned (.bool (xs == ys)) ∧ ∃ q, w' = w.drewN q := by
  by_cases hn : n1 = n2
  · subst hn
    rcases h1 with rfl | ⟨b1, o1, rfl, _, h1⟩
    · obtain rfl : n1 = 0 := by simp at h1l; omega
      obtain rfl : ys = [] := List.eq_nil_of_length_eq_zero h2l
      clear h2
      go_enter Tryz.func8, Tryz.ntmps8
      go_wp2
      go_loop [13] (fun i => i = .int .i64 0) (fun i => 0)
      case atStart => exact rfl
      case round =>
        obtain rfl := hrel
        go_wp2
        go_ret
        exact ⟨rfl, 0, rfl⟩
    · rcases h2 with rfl | ⟨b2, o2, rfl, _, h2⟩
      · obtain rfl : n1 = 0 := by simp at h2l; omega
        obtain rfl : xs = [] := List.eq_nil_of_length_eq_zero h1l
        clear h1
        go_enter Tryz.func8, Tryz.ntmps8
        go_wp2
        go_loop [13] (fun i => i = .int .i64 0) (fun i => 0)
        case atStart => exact rfl
        case round =>
          obtain rfl := hrel
          go_wp2
          go_ret
          exact ⟨rfl, 0, rfl⟩
      · exact equal_ints b1 o1 n1 c1 b2 o2 n1 c2 xs ys w h1l h2l hm1 hm2 h1 h2
  · have hne : (xs == ys) = false := by
      rw [beq_eq_false_iff_ne]
      intro e
      exact hn (by rw [← h1l, ← h2l, e])
    have hb : ((n1 : Int) != (n2 : Int)) = true := by
      rw [bne_iff_ne]
      omega
    clear h1 h2
    go_enter Tryz.func8, Tryz.ntmps8
    go_wp2
    go_ret
    rw [hne]
    exact ⟨rfl, 0, rfl⟩

end Go.Proofs.YtekgcoajgbpniacGreat

/-
  The law BlockPack: what it counts, of lists alone; appending any row of bytes.
-/
namespace Go.Proofs.YtekgcoajgbpniacGreat
open Go.RowKit
set_option linter.unusedVariables false
set_option maxRecDepth 100000

/-- a row of bytes behind a row of the call's own -/
theorem wpList_append_in (w : World) {ops : Array Oper} {rest : List Oper} {o : Oper} {a : Act} {Q : Exit → Act → World → Prop} (hgd : o.guard = none) (s x : Operand)
    (ho : o.op = .call { callee := .builtin .append, args := #[s, x], argTypes := #[24, 24] }) (base : Nat) (v : Value) (n : Nat) (xs : List Nat) (hs : a.eval s = v) (hown : w.ownsRow base 5 1 v n (u8s xs))
    (ad : Option Addr) (m c : Nat) (ys : List Nat) (hx : a.eval x = .slice ad m c) (hm : ys.length = m) (hB : BytesIn w ad ys) (hc : ad = none → c = 0) (hsz : n + m ≤ 140737488355328) (hbase : base ≤ w.heap.size)
    (h : ∀ v' w', Hid (w'.ownsRow base 5 1 v' (n + m) (u8s (xs ++ ys))) → Hid (w.grownBy w' v.ownBlock) → wpList Tryz.prog ops Q rest (a.put o.dst v') w') : wpList Tryz.prog ops Q (o :: rest) a w := by
  obtain ⟨i0, hi, hz0, hz1, hz2⟩ := info_parts info_u8
  have e : u8s (xs ++ ys) = u8s xs ++ u8s ys := by rw [u8s, u8s, u8s, List.map_append]
  cases ad with
  | none =>
    have hy : ys = [] := by
      rcases hB with h0 | ⟨b, o, h1, _⟩
      · exact h0
      · cases h1
    subst hy
    have h0 : m = 0 := by simpa using hm.symm
    subst h0
    have hc0 := hc rfl
    subst hc0
    refine wpList_append_own_none hgd s x 24 ho base 5 i0 1 Tryz.underlying24 hi v n (u8s xs) hs hown hx ?_
    exact h v w (hide (by simpa using hown)) (hide ⟨rfl, rfl, rfl, Nat.le_refl _, fun _ _ _ => rfl⟩)
  | some ad =>
    refine wpList_append_own_at w hgd s x 24 ho base 5 i0 (.int .u8 0) 1 1 Tryz.underlying24 hi hz0 hz1 hz2 rfl (by decide) v n (u8s xs) hs hown ad m c (u8s ys) hx (by simp [u8s, hm]) ?_ (by intro u hu; obtain ⟨x, _, rfl⟩ := List.mem_map.1 hu; rfl) (by unfold maxLen; omega) (by omega) hbase ?_
    · intro j u hj
      have hj2 : j < ys.length := by
        by_cases c : j < ys.length
        · exact c
        · rw [List.getElem?_eq_none (by simp [u8s]; omega)] at hj; cases hj
      rcases hB with h0 | ⟨b, o, h1, _, h3⟩
      · subst h0; simp at hj2
      · cases h1
        have e2 : (⟨b, o, none⟩ : Addr).add j = ⟨b, o + j, none⟩ := by unfold Addr.add; split <;> simp_all
        rw [e2, h3 j hj2]
        simp [u8s, hj2] at hj
        subst hj
        simp [List.getD, hj2]
    · intro v' w' h1 h2 _ _
      exact h v' w' (hide (by rw [e]; exact h1)) (hide h2)

/-- the bits that are allowed -/
def mostK (bss : List (List Nat)) (ks : List Int) (k : Nat) : Nat := sumB ((itemsP bss ks).take k)
theorem sumB_snoc : ∀ (l : List (List Nat × Nat)) (i : List Nat × Nat), sumB (l ++ [i]) = sumB l + bndK i.2 i.1.length
  | [], i => by simp [sumB]
  | j :: l, i => by rw [List.cons_append, sumB, sumB_snoc l, sumB]; omega
theorem itemsP_at (bss : List (List Nat)) (ks : List Int) (h : ks.length = bss.length) {k : Nat} (hk : k < bss.length) : (itemsP bss ks).take (k + 1) = (itemsP bss ks).take k ++ [(bss.getD k [], (ks.getD k 0).toNat)] := by
  have hl := itemsP_len bss ks h
  have hd := itemsP_drop bss ks h hk
  rw [List.take_add_one]
  have : (itemsP bss ks)[k]? = some (bss.getD k [], (ks.getD k 0).toNat) := by
    have h0 : ((itemsP bss ks).drop k)[0]? = some (bss.getD k [], (ks.getD k 0).toNat) := by rw [hd]; rfl
    rw [List.getElem?_drop] at h0
    simpa using h0
  rw [this]
  rfl
theorem mostK_next (bss : List (List Nat)) (ks : List Int) (h : ks.length = bss.length) {k : Nat} (hk : k < bss.length) : mostK bss ks (k + 1) = mostK bss ks k + bndK (ks.getD k 0).toNat (bss.getD k []).length := by
  unfold mostK
  rw [itemsP_at bss ks h hk, sumB_snoc]
/-- the bytes of the first k parts -/
def allK (bss : List (List Nat)) (k : Nat) : List Nat := (bss.take k).flatten
theorem allK_next (bss : List (List Nat)) {k : Nat} (hk : k < bss.length) : allK bss (k + 1) = allK bss k ++ bss.getD k [] := by
  unfold allK
  rw [List.take_add_one, List.flatten_append]
  simp [List.getD, hk]
theorem mostK_le (bss : List (List Nat)) (ks : List Int) (h : ks.length = bss.length) : ∀ k, k ≤ bss.length → mostK bss ks k ≤ 3210 * k + 9 * (allK bss k).length
  | 0, _ => by simp [mostK, sumB]
  | k + 1, hk => by
    have ih := mostK_le bss ks h k (by omega)
    rw [mostK_next bss ks h (by omega), allK_next bss (by omega), List.length_append]
    unfold bndK
    split
    · omega
    · split <;> omega
theorem items_flat (bss : List (List Nat)) (ks : List Int) (h : ks.length = bss.length) : (itemsP bss ks).flatMap Prod.fst = bss.flatten := by
  unfold itemsP
  rw [List.flatMap_map]
  have : ∀ (bss : List (List Nat)) (ks : List Int), ks.length = bss.length → (bss.zip ks).flatMap (fun p => p.1) = bss.flatten := by
    intro bss
    induction bss with
    | nil => intro ks _; simp
    | cons b r ih =>
      intro ks h
      cases ks with
      | nil => simp at h
      | cons k ks => simp [ih ks (by simpa using h)]
  exact this bss ks h
theorem items_kinds (bss : List (List Nat)) (ks : List Int) (h : ks.length = bss.length) : (itemsP bss ks).map Prod.snd = ks.map Int.toNat := by
  unfold itemsP
  rw [List.map_map]
  have : ∀ (bss : List (List Nat)) (ks : List Int), ks.length = bss.length → (bss.zip ks).map (fun p => p.2.toNat) = ks.map Int.toNat := by
    intro bss
    induction bss with
    | nil => intro ks h; have : ks = [] := List.length_eq_zero_iff.1 (by simpa using h); subst this; rfl
    | cons b r ih =>
      intro ks h
      cases ks with
      | nil => simp at h
      | cons k ks => simp [ih ks (by simpa using h)]
  exact this bss ks h
/-- what comes behind a place without an error -/
theorem chkP_all : ∀ (ns : List Nat) (ks : List Int) (i t : Nat), ks.length = ns.length → chkP ns ks i t = 0 → ∀ x ∈ ks, x = 0 ∨ x = 1 ∨ x = 2
  | [], ks, _, _, h, _ => by
    have : ks = [] := List.length_eq_zero_iff.1 (by simpa using h)
    subst this
    intro x hx
    cases hx
  | n :: r, ks, i, t, h, hc => by
    cases ks with
    | nil => simp at h
    | cons k ks =>
      rw [chkP] at hc
      split at hc
      · cases hc
      · split at hc
        · rename_i h1
          intro x hx
          rcases List.mem_cons.1 hx with e | e
          · subst e; exact h1
          · exact chkP_all r ks (i + 1) (t + n) (by simpa using h) hc x e
        · cases hc
theorem mem_flat_len : ∀ {l : List (List Nat)} {x : List Nat}, x ∈ l → x.length ≤ l.flatten.length
  | [], _, h => by cases h
  | y :: l, x, h => by
    rw [List.flatten_cons, List.length_append]
    rcases List.mem_cons.1 h with e | e
    · subst e; omega
    · have := mem_flat_len e; omega
theorem allK_all (bss : List (List Nat)) : allK bss bss.length = bss.flatten := by unfold allK; rw [List.take_length]
theorem allK_val {bss : List (List Nat)} (h : ∀ j i, (bss.getD j []).getD i 0 < 256) (k : Nat) : ∀ j, (allK bss k).getD j 0 < 256 := by
  intro j
  by_cases hj : j < (allK bss k).length
  · have hm : (allK bss k)[j] ∈ allK bss k := List.getElem_mem hj
    rw [List.getD, List.getElem?_eq_getElem hj]
    show (allK bss k)[j] < 256
    generalize (allK bss k)[j] = x at hm
    unfold allK at hm
    obtain ⟨l, hl, hx⟩ := List.mem_flatten.1 hm
    obtain ⟨q, hq, rfl⟩ := List.getElem_of_mem (List.mem_of_mem_take hl)
    obtain ⟨i, hi, rfl⟩ := List.getElem_of_mem hx
    have := h q i
    rw [List.getD, List.getD, List.getElem?_eq_getElem hq] at this
    simp only [Option.getD_some] at this
    rw [List.getElem?_eq_getElem hi] at this
    exact this
  · rw [List.getD, List.getElem?_eq_none (by omega)]
    exact (by decide : (0 : Nat) < 256)
end Go.Proofs.YtekgcoajgbpniacGreat
