/-
  Package inflate, of bits alone: where the document's reader finds nothing wrong, a Stored block is read as the document reads it.
-/
import Derived.Test.YtfoaaamcpknjnadGreatQ12
import Derived.Test.YtfoaaamcpknjnadGreatQ15
import Derived.Test.YtfoaaamcpknjnadGreatQ0
import Derived.Laws.BytesArg
import Derived.Lib.Strings
import Derived.Test.YtfoaaamcpknjnadGreatQ23
import Derived.Test.YtfoaaamcpknjnadGreatQ50
import Derived.Lib.SlBytesConst
import Derived.Test.YtfoaaamcpknjnadGreatQ1
namespace Go.Proofs.YtfoaaamcpknjnadGreat
set_option linter.unusedVariables false

theorem istore_full (row : List Bool) : ∀ (k : Nat) (x : US), x.out.length ≤ 3000 → 3000 < x.out.length + k → (ustore row k x).e ≠ 0
  | 0, x, h1, h2 => by omega
  | k + 1, x, h1, h2 => by
    by_cases e : x.e = 0
    · unfold ustore
      rw [if_pos e]
      obtain ⟨c, y, hg⟩ : ∃ c y, uget row 8 x = (c, y) := ⟨_, _, rfl⟩
      have ho : y.out = x.out := by have := iget_out row 8 x; rw [hg] at this; exact this
      rw [hg]
      show (ustore row k (usay c y)).e ≠ 0
      by_cases e2 : y.e = 0
      · by_cases e3 : y.out.length = 3000
        · have : usay c y = { y with e := 2 } := by unfold usay; rw [if_pos e2, if_pos e3]
          rw [this, ustore_bad _ _ _ (show (2 : Int) ≠ 0 by decide)]
          exact (by decide : (2 : Int) ≠ 0)
        · have : usay c y = { y with out := y.out ++ [c] } := by unfold usay; rw [if_pos e2, if_neg e3]
          rw [this]
          refine istore_full row k _ ?_ ?_
          · show (y.out ++ [c]).length ≤ 3000
            rw [List.length_append, ho]
            rw [ho] at e3
            simp only [List.length_cons, List.length_nil]
            omega
          · show 3000 < (y.out ++ [c]).length + k
            rw [List.length_append, ho]
            simp only [List.length_cons, List.length_nil]
            omega
      · have : usay c y = y := by unfold usay; rw [if_neg e2]
        rw [this, ustore_bad _ _ _ e2]
        exact e2
    · rw [ustore_bad _ _ _ e]
      exact e

theorem istored_ok (row : List Bool) (u : US) (ho : u.out.length ≤ 3000) (h : (ustored row u).e = 0) : istored row u = ustored row u := by
  have hx : ustored row u = ustore row (istored1 row u).1 (istored1 row u).2 := rfl
  have h1 : (istored1 row u).2.out = u.out := by
    unfold istored1
    dsimp only
    split
    · unfold uwrong
      split
      · show (uget row 16 _).2.out = _
        rw [iget_out, iget_out]
      · rw [iget_out, iget_out]
    · rw [iget_out, iget_out]
  unfold istored
  dsimp only
  rw [if_neg, hx]
  rintro ⟨_, h3⟩
  rw [hx] at h
  exact istore_full row _ _ (by rw [h1]; exact ho) h3 h
end Go.Proofs.YtfoaaamcpknjnadGreat

/-
  Package inflate, of bits alone: where the document's reader finds nothing wrong, the program reads as it does.
-/
namespace Go.Proofs.YtfoaaamcpknjnadGreat
set_option linter.unusedVariables false
set_option maxRecDepth 100000

theorem ucopy_fit {d : Nat} : ∀ {n : Nat} {u : US}, (ucopy d n u).e = 0 → u.out.length ≤ 3000 → u.out.length + n ≤ 3000
  | 0, u, h, ho => by omega
  | n + 1, u, h, ho => by
    have he := ucopy_e h
    rw [ucopy, if_pos he] at h
    obtain ⟨_, h2, h3⟩ := usay_e (ucopy_e h)
    rw [h3] at h
    have ih := ucopy_fit h (by simp only [List.length_append, List.length_cons, List.length_nil]; omega)
    simp only [List.length_append, List.length_cons, List.length_nil] at ih
    omega
theorem itoks_utok (row : List Bool) (a b : List Int) : ∀ (F F' : Nat) (u : US), (utok row a b F u).e = 0 → row.length + 1 ≤ u.p + F → row.length + 1 ≤ u.p + F' → u.p ≤ row.length → u.out.length ≤ 3000 → itoks row a b F' u = utok row a b F u
  | 0, F', u, h, h1, h2, hp, ho => by omega
  | F + 1, 0, u, h, h1, h2, hp, ho => by omega
  | F + 1, F' + 1, u, h, h1, h2, hp, ho => by
    obtain ⟨t, x, hT, e⟩ := utok_round h
    obtain ⟨a1, a2, a3, a4, a5⟩ := hT.ahead
    rw [e] at h ⊢
    rw [itoks_succ]
    cases hT with
    | stop v g1 g2 =>
      simp [g1, g2]
    | byte c x g1 g2 g3 g4 =>
      have hx : x.out.length ≤ 3000 := by
        have := uplace_p2 g1 g2
        rw [this.2.2.1]; exact ho
      have hs : istep row b c x = { x with out := x.out ++ [c] } := by
        unfold istep
        rw [if_pos g3, if_neg (by omega)]
      rw [g1]
      simp only
      rw [if_neg (fun h => h g2), if_neg (by omega), hs, if_neg (fun h => h g2), if_pos trivial]
      rw [if_pos rfl] at h
      exact itoks_utok row a b F F' _ h (by omega) (by omega) a2 (a5 ho)
    | same k n0 f d0 x1 x2 x3 x4 _ g1 g2 g3 g4 g5 g6 g7 g8 g9 g10 g11 g12 g13 g14 =>
      have p1 := uplace_p2 g1 g2
      have p2 := uget_p2 g5 g6
      have p3 := uplace_p2 g7 g8
      have p4 := uget_p2 g10 g11
      have hx4 : x4.out.length ≤ 3000 := by rw [p4.2.2.1, p3.2.2.1, p2.2.2.1, p1.2.2.1]; exact ho
      have hfit := ucopy_fit (by rw [g13]; exact g14 : (ucopy ((farsL.getD f (0, 0)).1 + d0) ((samesL.getD (k - 257) (0, 0)).1 + n0) x4).e = 0) hx4
      have hs : istep row b k x1 = x := by
        unfold istep
        rw [if_neg (by omega), if_neg (by omega), leastS_is k g3 g4, g5]
        simp only
        have hh : ihow row b x2 = ((farsL.getD f (0, 0)).1 + d0, x4) := by
          unfold ihow
          rw [g7]
          simp only
          rw [if_neg (fun h => h g8), if_neg (by omega), leastF_is f g9, g10]
        rw [if_neg (fun h => h g6), hh]
        simp only
        rw [if_neg (fun h => h g11)]
        unfold iback
        rw [if_neg (by omega), if_neg (by omega), g13]
      rw [g1]
      simp only
      rw [if_neg (fun h => h g2), if_neg (by omega), hs, if_neg (fun h => h g14), if_pos trivial]
      rw [if_pos rfl] at h
      exact itoks_utok row a b F F' _ h (by omega) (by omega) a2 (a5 ho)
theorem uget_bit (row : List Bool) (u : US) : (uget row 1 u).1 < 2 := by
  have := ulow row 1 u
  simpa using this
theorem iblock_is {row : List Bool} {u x : US} {t : Bool} (h : Blk1R row u t x) (hp : u.p ≤ row.length) (ho : u.out.length ≤ 3000) : ∃ l, l < 2 ∧ t = decide (l = 1) ∧ iblock row u = (l, x) := by
  cases h with
  | stored l x1 x2 h1 h2 h3 h4 =>
    obtain ⟨q2, q2l, q2o, q2k, q2e⟩ := uget_p2 h2 h3
    obtain ⟨q1, q1l, q1o, q1k, _⟩ := uget_p2 h1 q2e
    have hl := uget_bit row u
    rw [h1] at hl
    refine ⟨l, hl, rfl, ?_⟩
    unfold iblock
    rw [h1]
    simp only
    rw [if_neg (fun h => h q2e), h2]
    simp only
    rw [if_neg (fun h => h h3)]
    unfold ikind ikeep
    rw [if_pos rfl, istored_ok row x2 (by rw [q2o, q1o]; exact ho) h4, if_pos h4]
  | coded l k x1 x2 x3 a b h1 h2 h3 h4 h5 h6 h7 =>
    obtain ⟨q2, q2l, q2o, q2k, q2e⟩ := uget_p2 h2 h3
    obtain ⟨q1, q1l, q1o, q1k, _⟩ := uget_p2 h1 q2e
    have hl := uget_bit row u
    rw [h1] at hl
    have hx2 : x2.out.length ≤ 3000 := by rw [q2o, q1o]; exact ho
    refine ⟨l, hl, rfl, ?_⟩
    unfold iblock
    rw [h1]
    simp only
    rw [if_neg (fun h => h q2e), h2]
    simp only
    rw [if_neg (fun h => h h3)]
    rcases h4 with h4 | h4
    · subst h4
      unfold uopen at h5
      rw [if_pos rfl] at h5
      have e1 := (Prod.mk.inj h5).2
      have e2 := Prod.mk.inj (Prod.mk.inj h5).1
      subst e1
      rw [← e2.1, ← e2.2] at h7 ⊢
      unfold ikind ikeep
      rw [if_neg (by decide), if_pos rfl, itoks_utok row fixA fixB row.length (row.length + 1) x2 h7 (by omega) (by omega) q2l hx2, if_pos h7]
    · subst h4
      unfold uopen at h5
      rw [if_neg (by decide), if_pos rfl] at h5
      obtain ⟨m0, n0, c0, v1, v2, v3, us, S0, L0, hTD⟩ := utold_good h5 h6
      obtain ⟨t1, t2, t3, t4⟩ := utold_p hTD q2l
      unfold ikind ikeep
      rw [if_neg (by decide), if_neg (by decide), if_pos rfl, h5]
      simp only
      rw [if_neg (fun h => h h6), itoks_utok row a b row.length (row.length + 1) x3 h7 (by omega) (by omega) t2 (by rw [t3]; exact hx2), if_pos h7]
theorem iblocks_is (row : List Bool) : ∀ (F : Nat) (u : US), (ublocks row F u).e = 0 → u.p ≤ row.length → u.out.length ≤ 3000 → iblocks row F u = ublocks row F u
  | 0, u, h, hp, ho => rfl
  | F + 1, u, h, hp, ho => by
    obtain ⟨t, x, hB, e⟩ := ublocks_round h
    obtain ⟨a1, a2, a3, a4, a5⟩ := hB.ahead
    obtain ⟨l, hl, ht, hi⟩ := iblock_is hB hp ho
    rw [e] at h ⊢
    rw [iblocks, hi]
    simp only
    by_cases hl0 : l = 0
    · have htf : t = false := by rw [ht, hl0]; rfl
      rw [if_pos ⟨hl0, a3⟩, if_pos htf]
      rw [if_pos htf] at h
      exact iblocks_is row F x h a2 (a5 ho)
    · have htt : ¬ t = false := by rw [ht, show l = 1 by omega]; decide
      rw [if_neg (fun h => hl0 h.1), if_neg htt]
theorem iunpk_unpk (row : List Bool) (h : (unpk row).e = 0) : iunpk row = unpk row := iblocks_is row _ _ h (Nat.zero_le _) (by simp [US0])
end Go.Proofs.YtfoaaamcpknjnadGreat

/-
  The library's bytes.Equal: it answers whether the two rows hold the same bytes.
-/
namespace Go.Proofs.YtfoaaamcpknjnadGreat
open Go.RowKit
set_option linter.unusedVariables false
set_option maxRecDepth 100000

theorem bequal_runs (v1 v2 : Value) (s1 s2 : ByteArray) (w : World) (h1 : (convert 22 9 v1).run Tryz.prog w = .ok (.string s1) w) (h2 : (convert 22 9 v2).run Tryz.prog w = .ok (.string s2) w) :
    Calls Tryz.prog 10 #[v1, v2] w fun e w' => e = .returned (.bool (s1.toList == s2.toList)) ∧ w' = w := by
  go_enter Tryz.func10, Tryz.ntmps10
  go_wp2
  go_ret
  exact ⟨rfl, rfl⟩

/-- the text of these bytes -/
def strN (xs : List Nat) : ByteArray := ⟨(xs.map UInt8.ofNat).toArray⟩
theorem strN_toList (xs : List Nat) : (strN xs).toList = xs.map UInt8.ofNat := by
  rw [Lib.toList_data]; rfl
theorem strN_size (xs : List Nat) : (strN xs).size = xs.length := by simp [strN, ByteArray.size]

theorem conv_in (a : Option Addr) (len cap : Nat) (xs : List Nat) (w : World) (hl : xs.length = len) (hB : BytesIn w a xs) :
    (convert 22 9 (.slice a len cap)).run Tryz.prog w = .ok (.string (strN xs)) w := by
  rcases hB with rfl | ⟨b, o, rfl, _, hB⟩
  · obtain rfl : len = 0 := by simp at hl; omega
    rw [run_convert_bytes_string w 22 9 5 _ 0 cap Tryz.underlying22 Tryz.underlying5 Tryz.underlying9]
    cases a <;> simp [Conv.bytesToString, loadCells, strN]
    all_goals rfl
  · have h := run_convert_bytes_arg (P := Tryz.prog) w 22 5 Tryz.underlying22 Tryz.underlying5 b o len cap (xs.map fun x : Nat => (x : Int)) (by simpa using hl) (by
      intro i hi
      rw [hB i (by omega)]
      have : i < xs.length := by omega
      simp [List.getD, this]) 9 Tryz.underlying9
    rw [h]
    simp [strOfNums, strN, Function.comp_def]

theorem ofNat_inj {xs ys : List Nat} (hx : ∀ j, xs.getD j 0 < 256) (hy : ∀ j, ys.getD j 0 < 256) (h : xs.map UInt8.ofNat = ys.map UInt8.ofNat) : xs = ys := by
  have hl : xs.length = ys.length := by have := congrArg List.length h; simpa using this
  apply List.ext_getElem hl
  intro j h1 h2
  have e := congrArg (fun l : List UInt8 => l[j]?) h
  simp [h1, h2] at e
  have a1 := hx j
  have a2 := hy j
  simp [List.getD, h1] at a1
  simp [List.getD, h2] at a2
  have e2 := congrArg UInt8.toNat e
  simp only [UInt8.toNat_ofNat'] at e2
  omega

theorem bequal_in (a1 a2 : Option Addr) (l1 c1 l2 c2 : Nat) (xs ys : List Nat) (w : World) (h1 : xs.length = l1) (h2 : ys.length = l2) (hx : ∀ j, xs.getD j 0 < 256) (hy : ∀ j, ys.getD j 0 < 256) (hB1 : BytesIn w a1 xs) (hB2 : BytesIn w a2 ys) :
    Calls Tryz.prog 10 #[.slice a1 l1 c1, .slice a2 l2 c2] w fun e w' => e = .returned (.bool (xs == ys)) ∧ w' = w := by
  refine (bequal_runs _ _ (strN xs) (strN ys) w (conv_in a1 l1 c1 xs w h1 hB1) (conv_in a2 l2 c2 ys w h2 hB2)).mono ?_
  rintro e w' ⟨rfl, rfl⟩
  refine ⟨ret_bool ?_, rfl⟩
  rw [strN_toList, strN_toList, Bool.eq_iff_iff, beq_iff_eq, beq_iff_eq]
  exact ⟨ofNat_inj hx hy, fun h => by rw [h]⟩

end Go.Proofs.YtfoaaamcpknjnadGreat

/-
  Package gz: what was packed is unpacked; the closed fact.
-/
namespace Go.Proofs.YtfoaaamcpknjnadGreat
open Go.RowKit
set_option linter.unusedVariables false
set_option linter.unusedSimpArgs false
set_option maxRecDepth 100000

theorem best_le (bs : List Nat) : bestP bs 3 ≤ 2 := by
  rw [bestP_next bs 2 (by decide)]
  split
  · decide
  · rw [bestP_next bs 1 (by decide)]
    split
    · decide
    · exact (by decide : 0 ≤ 2)
/-- what Pack makes -/
def gzRow (bs out : List Nat) : List Nat := headL ++ out ++ tailL (crcN 0 bs) bs.length
theorem gzRow_len (bs out : List Nat) : (gzRow bs out).length = 10 + out.length + 8 := by
  unfold gzRow
  rw [List.length_append, List.length_append]
  rfl
theorem gzRow_val (bs out : List Nat) (hx : ∀ j, out.getD j 0 < 256) : ∀ j, (gzRow bs out).getD j 0 < 256 := app_lt (app_lt head_val hx) (tail_val _ _)
theorem one_unpk {bs out : List Nat} {k : Nat} (h : IsOne bs k out) (hk : k ≤ 2) (hx : ∀ j, bs.getD j 0 < 256) (hn : bs.length ≤ 3000) (T : List Nat) (q : Nat) : (iunpk (rowB (out ++ T) (out.length + q))).out = bs ∧ (iunpk (rowB (out ++ T) (out.length + q))).e = 0 ∧ ((iunpk (rowB (out ++ T) (out.length + q))).p + 7) / 8 = out.length := by
  have hit : itemsP [bs] [(k : Int)] = [(bs, k)] := by simp [itemsP]
  have hpk := packF_one bs k
  rw [hit] at hpk
  have hun := unpk_pack [(bs, k)] (List.replicate (freeN (blkB [] bs k true).length) false ++ rowB T q) (by simp) (fun i hi => by
    simp at hi
    subst hi
    exact ⟨hk, hx⟩) (by simpa using hn)
  rw [hpk] at hun
  have hrow : rowB (out ++ T) (out.length + q) = blkB [] bs k true ++ (List.replicate (freeN (blkB [] bs k true).length) false ++ rowB T q) := by
    rw [rowB_app, h.row]
    unfold oneB padB
    rw [List.append_assoc]
  rw [← hrow] at hun
  have hiu := iunpk_unpk (rowB (out ++ T) (out.length + q)) (by rw [hun])
  rw [hiu, hun]
  refine ⟨by simp, rfl, ?_⟩
  have h2 := congrArg List.length h.row
  unfold oneB at h2
  rw [rowB_length, padB_length] at h2
  have h3 := freeN_lt (blkB [] bs k true).length
  have h4 := freeN_sum (blkB [] bs k true).length
  show ((blkB [] bs k true).length + 7) / 8 = out.length
  omega
theorem chkT_same (T : List Nat) (h : T.length = 8) : chkT T T = 0 := by unfold chkT; rw [if_neg (by omega), if_neg (by omega), if_pos rfl]
/-- what was packed, whatever its tail -/
theorem gzE_row {bs out : List Nat} (h : IsOne bs (bestP bs 3) out) (hx : ∀ j, bs.getD j 0 < 256) (hn : bs.length ≤ 3000) (T : List Nat) (hf : 10 + out.length + T.length ≤ 6000) : gzE (headL ++ out ++ T) = chkT T (tailL (crcN 0 bs) bs.length) ∧ (gzI (headL ++ out ++ T)).out = bs := by
  have hh : headL.length = 10 := rfl
  have hlen : (headL ++ out ++ T).length = 10 + out.length + T.length := by rw [List.length_append, List.length_append, hh]
  have hd : (headL ++ out ++ T).drop 10 = out ++ T := by rw [List.append_assoc, ← hh, List.drop_left]
  have ht : (headL ++ out ++ T).take 10 = headL := by rw [List.append_assoc, ← hh, List.take_left]
  have hI : gzI (headL ++ out ++ T) = iunpk (rowB (out ++ T) (out.length + T.length)) := by
    unfold gzI
    rw [hd, hlen]
    congr 2
    omega
  obtain ⟨u1, u2, u3⟩ := one_unpk h (best_le bs) hx hn T T.length
  refine ⟨?_, by rw [hI]; exact u1⟩
  unfold gzE
  rw [if_neg (by omega), if_neg (by rw [ht]; rintro (c | c); omega; exact c rfl), hI, if_neg (fun c => c u2), u1, u3]
  have hd2 : (headL ++ out ++ T).drop (10 + out.length) = T := by
    have : 10 + out.length = (headL ++ out).length := by rw [List.length_append, hh]
    rw [this, List.drop_left]
  rw [hd2]
theorem gzRow_back {bs out : List Nat} (h : IsOne bs (bestP bs 3) out) (hx : ∀ j, bs.getD j 0 < 256) (hn : bs.length ≤ 3000) (hf : (gzRow bs out).length ≤ 6000) : gzE (gzRow bs out) = 0 ∧ (gzI (gzRow bs out)).out = bs := by
  rw [gzRow_len] at hf
  obtain ⟨h1, h2⟩ := gzE_row h hx hn (tailL (crcN 0 bs) bs.length) (by show 10 + out.length + 8 ≤ 6000; omega)
  exact ⟨by unfold gzRow; rw [h1]; exact chkT_same _ rfl, h2⟩
/-- Unpack of what was packed -/
theorem gzBack_any (a : Option Addr) (cap : Nat) (bs out : List Nat) (w : World) (h : IsOne bs (bestP bs 3) out) (hx : ∀ j, bs.getD j 0 < 256) (hn : bs.length ≤ 3000) (hf : 10 + out.length + 8 ≤ 6000) (hcap : 10 + out.length + 8 ≤ cap) (hby : BytesIn w a (gzRow bs out)) :
    Calls Tryz.prog 12 #[.slice a (10 + out.length + 8) cap] w fun e w' => Below w.heap.size w w' ∧ ∃ x c, e = .returned (.tuple #[.slice x bs.length c, .int .i64 0]) ∧ BytesIn w' x bs := by
  obtain ⟨h1, h2⟩ := gzRow_back h hx hn (by rw [gzRow_len]; exact hf)
  refine (gzUnpack_any a (10 + out.length + 8) cap (gzRow bs out) w (gzRow_len _ _) (by omega) hcap hby (gzRow_val bs out h.val)).mono ?_
  rintro e w' ⟨hB, hd⟩
  refine ⟨hB, ?_⟩
  rcases hd with ⟨_, x, c, rfl, hb⟩ | ⟨h0, _⟩
  · rw [h2] at hb ⊢
    exact ⟨x, c, rfl, hb⟩
  · exact absurd h1 h0
def hello : List Nat := [104, 101, 108, 108, 111, 32, 104, 101, 108, 108, 111, 32, 104, 101, 108, 108, 111]
end Go.Proofs.YtfoaaamcpknjnadGreat

/-
  The closed fact that the statements on package gz ask for first: it is true.
-/
namespace Go.Proofs.YtfoaaamcpknjnadGreat
open Go.RowKit
set_option linter.unusedVariables false
set_option linter.unusedSimpArgs false
set_option maxRecDepth 100000

theorem hello_val (j : Nat) : hello.getD j 0 < 256 := by
  by_cases hj : j < 17
  · have : (List.range 17).all (fun j => decide (hello.getD j 0 < 256)) = true := by decide
    exact of_decide_eq_true (List.all_eq_true.1 this j (by simpa using hj))
  · rw [List.getD, List.getElem?_eq_none (by show hello.length ≤ j; exact (by omega : 17 ≤ j))]
    exact (by decide : (0 : Nat) < 256)
def helloV : Array Value := #[.int .u8 104, .int .u8 101, .int .u8 108, .int .u8 108, .int .u8 111, .int .u8 32, .int .u8 104, .int .u8 101, .int .u8 108, .int .u8 108, .int .u8 111, .int .u8 32, .int .u8 104, .int .u8 101, .int .u8 108, .int .u8 108, .int .u8 111]

set_option maxHeartbeats 2000000 in
theorem zipped_any (w : World) : Calls Tryz.prog 8 #[] w fun e w' => e = .returned (.bool true) ∧ Below w.heap.size w w' := by
  have hcc := Lib.run_convert_bytes_const (P := Tryz.prog) w 22 5 #[.int .u8 104, .int .u8 101, .int .u8 108, .int .u8 108, .int .u8 111, .int .u8 32, .int .u8 104, .int .u8 101, .int .u8 108, .int .u8 108, .int .u8 111, .int .u8 32, .int .u8 104, .int .u8 101, .int .u8 108, .int .u8 108, .int .u8 111] 17 17 Tryz.underlying22 Tryz.underlying5
  have HPK : Hid (∀ X : Obj, X = .cells #[.int .u8 104, .int .u8 101, .int .u8 108, .int .u8 108, .int .u8 111, .int .u8 32, .int .u8 104, .int .u8 101, .int .u8 108, .int .u8 108, .int .u8 111, .int .u8 32, .int .u8 104, .int .u8 101, .int .u8 108, .int .u8 108, .int .u8 111] 5 (17, 18) → Calls Tryz.prog 6 #[.slice (some ⟨w.heap.size, 0, none⟩) 17 17] (w.alloc X) fun e w' => Below w.heap.size w w' ∧ ∃ b o c L out, out.length = L ∧ 0 < L ∧ L ≤ 500 ∧ 10 + L + 8 ≤ c ∧ e = .returned (.tuple #[.slice (some ⟨b, o, none⟩) (10 + L + 8) c, .int .i64 0]) ∧ w'.cell? ⟨b, o, none⟩ = some (.int .u8 31) ∧ Hid (IsOne hello (bestP hello 3) out ∧ b < w'.heap.size ∧ BytesIn w' (some ⟨b, o, none⟩) (gzRow hello out))) := hide (fun X hX => by
    subst hX
    have hbm : Bytes (w.alloc (.cells #[.int .u8 104, .int .u8 101, .int .u8 108, .int .u8 108, .int .u8 111, .int .u8 32, .int .u8 104, .int .u8 101, .int .u8 108, .int .u8 108, .int .u8 111, .int .u8 32, .int .u8 104, .int .u8 101, .int .u8 108, .int .u8 108, .int .u8 111] 5 (17, 18))) w.heap.size 0 hello := by
      intro j hj
      rw [Nat.zero_add, cell_of_row _ _ _ _ _ _ (heap_alloc_new w _)]
      have hj2 : j < 17 := hj
      have e : (#[.int .u8 104, .int .u8 101, .int .u8 108, .int .u8 108, .int .u8 111, .int .u8 32, .int .u8 104, .int .u8 101, .int .u8 108, .int .u8 108, .int .u8 111, .int .u8 32, .int .u8 104, .int .u8 101, .int .u8 108, .int .u8 108, .int .u8 111] : Array Value) = (u8s hello).toArray := rfl
      rw [e]
      simp [u8s, List.getD, hj]
    refine (gzPack_ok (some ⟨w.heap.size, 0, none⟩) 17 17 hello _ rfl (Nat.le_refl _) (fun e => by cases e) (.inr ⟨_, 0, rfl, by simp, hbm⟩) hello_val (by decide)).mono ?_
    rintro e w' ⟨hB, x, c, out, hc, rfl, hI, hby⟩
    have hp := hI.pos
    have hs := one_small hI hello_val (by decide)
    have hl : hello.length = 17 := rfl
    rw [hl] at hs
    obtain ⟨b, o, rfl, hb, hby2⟩ := bytesIn_some hby (by simp [headL])
    have c0 := hby2 0 (by simp [headL])
    refine ⟨((Below.refl w.heap.size w).alloc (Nat.le_refl _) _).trans (hB.mono (by simp)), b, o, c, out.length, out, rfl, hp, by omega, hc, rfl, c0, hide ⟨hI, hb, hby⟩⟩)
  have HUN : Hid (∀ (W : World) (a : Option Addr) (c : Nat) (out : List Nat), IsOne hello (bestP hello 3) out → 10 + out.length + 8 ≤ 6000 → 10 + out.length + 8 ≤ c → BytesIn W a (gzRow hello out) → Calls Tryz.prog 12 #[.slice a (10 + out.length + 8) c] W fun e w' => Below W.heap.size W w' ∧ ∃ x c, e = .returned (.tuple #[.slice x 17 c, .int .i64 0]) ∧ BytesIn w' x hello) := hide (fun W a c out h1 h2 h3 h4 => gzBack_any a c hello out W h1 hello_val (by decide) h2 h3 h4)
  go_enter Tryz.func8, Tryz.ntmps8
  go_wp2_with fail
  refine (unhide HPK _ rfl).mono ?_
  rintro e w1 ⟨hB1, b, o, c, L, out, hL, hp, hs, hc, rfl, c0, hHid⟩
  have HUC := hide (unhide HUN w1 (some ⟨b, o, none⟩) c out (unhide hHid).1 (by omega) (by omega) (unhide hHid).2.2)
  rw [hL] at HUC
  have hb1 := (unhide hHid).2.1
  have HB1 := hide hB1
  clear hB1 hHid hL HPK HUN
  go_wp2_with fail
  refine (unhide HUC).mono ?_
  rintro e w2 ⟨hB2, x, c2, rfl, hb2⟩
  have c02 := (hB2.cell (p := ⟨b, o, none⟩) hb1).trans c0
  have hcv := conv_in x 17 c2 hello w2 rfl hb2
  have hst : strN hello = ⟨#[104, 101, 108, 108, 111, 32, 104, 101, 108, 108, 111, 32, 104, 101, 108, 108, 111]⟩ := rfl
  rw [hst] at hcv
  have HB2 := hide ((unhide HB1).trans (hB2.mono (unhide HB1).size))
  have h18 : (18 : Int) < 10 + (L : Int) + 8 := by omega
  have h18b : (18 : Int) < ((10 + L + 8 : Nat) : Int) := by omega
  clear hB2 hb2 hst c0 HUC hcc
  go_wp2
  go_ret
  exact ⟨rfl, unhide HB2⟩
end Go.Proofs.YtfoaaamcpknjnadGreat

/-
  The document's own sums: CRCOf, AdlerOf.
-/
namespace Go.Proofs.YtfoaaamcpknjnadGreat
open Go.RowKit
set_option linter.unusedVariables false
set_option maxRecDepth 100000

/-- behind k bits of the byte x -/
def crcB (c x k : Nat) : Nat := lfts k (c ^^^ x % 2 ^ k)
theorem crcB_zero (c x : Nat) : crcB c x 0 = c := by simp [crcB, lfts, Nat.mod_one]
theorem crcB_next (c x k : Nat) : crcB c x (k + 1) = lft (crcB c x k ^^^ x / 2 ^ k % 2) := lfts_bits c x k
theorem crcB_all {c x : Nat} (hx : x < 256) : crcB c x 8 = crcS c x := by
  unfold crcB crcS
  rw [Nat.mod_eq_of_lt (by simpa using hx)]
theorem crcB_lt {c x : Nat} (k : Nat) (hc : c < 4294967296) (hx : x < 256) : crcB c x k < 4294967296 := by
  unfold crcB
  refine lfts_lt k (Nat.xor_lt_two_pow (n := 32) hc ?_)
  have := Nat.mod_le x (2 ^ k)
  omega

theorem bitU {m x j : Nat} (hm : m < 4294967296) (hx : x < 256) (hj : j < 8) : bits .xor .u32 (bits .and .u32 (m : Int) 1) (bits .and .u8 ((x : Int) / 2 ^ j) 1 % 4294967296) = (((m % 2 ^^^ x / 2 ^ j % 2) : Nat) : Int) := by
  have h1 : bits .and .u8 ((x / 2 ^ j : Nat) : Int) ((1 : Nat) : Int) = ((x / 2 ^ j &&& 1 : Nat) : Int) := u8_and_nat _ _ (Nat.lt_of_le_of_lt (Nat.div_le_self _ _) hx) (by decide)
  rw [Nat.and_one_is_mod] at h1
  have e : ((x / 2 ^ j : Nat) : Int) = (x : Int) / 2 ^ j := by push_cast; rfl
  rw [e] at h1
  rw [and1 hm, show (1 : Int) = ((1 : Nat) : Int) from rfl, h1, show (((x / 2 ^ j % 2 : Nat) : Int)) % 4294967296 = ((x / 2 ^ j % 2 : Nat) : Int) by omega]
  exact u32_xor_nat _ _ (by omega) (by omega)

theorem crcOf_any (p : Nat) (a : Option Addr) (n cap : Nat) (bs : List Nat) (w : World) (hl : bs.length = n) (hn : n ≤ 12000) (hp : p < 4294967296) (hby : BytesIn w a bs) (hv : ∀ j, bs.getD j 0 < 256) :
    Calls Tryz.prog 9 #[.int .u32 (p : Int), .slice a n cap] w fun e w' => e = .returned (.int .u32 (crcN p bs : Nat)) ∧ w' = w := by
  have HBY := hide hby
  have HV := hide hv
  have HL := hide hl
  clear hby hv hl
  go_enter Tryz.func9, Tryz.ntmps9
  go_wp2
  rw [notU hp]
  go_loop [5, 14] (fun r i => ∃ k : Nat, k ≤ n ∧ i = .int .i64 (k : Int) ∧ r = .int .u32 (crcR (p ^^^ 4294967295) (bs.take k) : Nat)) (fun _ i => n - (intOf i).toNat)
  case atStart => exact ⟨0, by omega, rfl, rfl⟩
  case round =>
    obtain ⟨k, hk, rfl, rfl⟩ := hrel
    have hr : crcR (p ^^^ 4294967295) (bs.take k) < 4294967296 := crcR_lt _ _ (fun y hy => by
        obtain ⟨i, hi, rfl⟩ := List.getElem_of_mem hy
        have := unhide HV i
        rw [List.length_take] at hi
        rw [List.getElem_take]
        rw [List.getD, List.getElem?_eq_getElem (by omega)] at this
        exact this) (not_lt hp)
    by_cases hlt : k < n
    · have hkl : k < bs.length := by rw [unhide HL]; exact hlt
      obtain ⟨b, o, rfl, hb, hc⟩ := bytes_at (unhide HBY) hkl
      have hx := unhide HV k
      have HC : Hid (crcR (p ^^^ 4294967295) (bs.take (k + 1)) = crcS (crcR (p ^^^ 4294967295) (bs.take k)) (bs.getD k 0)) := hide (by rw [take_next hkl, crcR_snoc])
      generalize crcR (p ^^^ 4294967295) (bs.take k) = r at *
      generalize bs.getD k 0 = x at *
      clear hkl
      go_wp2
      go_loop [5, 18] (fun r1 i => ∃ j : Nat, j ≤ 8 ∧ i = .int .i64 (j : Int) ∧ r1 = .int .u32 (crcB r x j : Nat)) (fun _ i => 8 - (intOf i).toNat)
      case atStart => exact ⟨0, by omega, rfl, by rw [crcB_zero]⟩
      case round =>
        obtain ⟨j, hj, rfl, rfl⟩ := hrel
        by_cases hjl : j < 8
        · have HN := hide (crcB_next r x j)
          have hm := crcB_lt j hr hx
          generalize crcB r x j = m at *
          by_cases hodd : (m % 2 ^^^ x / 2 ^ j % 2) = 1
          · have h1 : (bits .xor .u32 (bits .and .u32 (m : Int) 1) (bits .and .u8 ((x : Int) / 2 ^ j) 1 % 4294967296) == 1) = true := by rw [bitU hm hx hjl, hodd]; rfl
            have HL1 : Hid (lft (m ^^^ x / 2 ^ j % 2) = m / 2 ^^^ 3988292384) := hide (by rw [lft_low _ _ (Nat.mod_lt _ (by decide)), if_pos hodd])
            have HX := hide (xorP hm)
            clear hodd
            go_wp2
            go_round
            case rel => exact ⟨j + 1, by omega, by go_num, by rw [unhide HN, unhide HL1, unhide HX]⟩
            case measure => simp [intOf]; omega
          · have h1 := bitU hm hx hjl
            have h2 : ((((m % 2 ^^^ x / 2 ^ j % 2) : Nat) : Int) == 1) = false := by rw [beq_eq_false_iff_ne]; omega
            rw [← h1] at h2
            have HL1 : Hid (lft (m ^^^ x / 2 ^ j % 2) = m / 2) := hide (by rw [lft_low _ _ (Nat.mod_lt _ (by decide)), if_neg hodd])
            clear hodd h1
            go_wp2
            go_round
            case rel => exact ⟨j + 1, by omega, by go_num, by rw [unhide HN, unhide HL1]; rfl⟩
            case measure => simp [intOf]; omega
        · obtain rfl : j = 8 := by omega
          go_wp2
          go_round
          case rel => exact ⟨k + 1, by omega, by go_num, by rw [unhide HC, crcB_all hx]⟩
          case measure => simp [intOf]; omega
    · have e : k = n := by omega
      subst e
      have HE : Hid (crcR (p ^^^ 4294967295) (bs.take k) ^^^ 4294967295 = crcN p bs) := hide (by rw [List.take_of_length_le (by rw [unhide HL]; exact Nat.le_refl _)]; rfl)
      have HNN := hide (notU hr)
      clear hr
      go_wp2
      go_ret
      exact ⟨by rw [unhide HNN, unhide HE]; rfl, rfl⟩
end Go.Proofs.YtfoaaamcpknjnadGreat
