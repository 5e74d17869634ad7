/-
  Package inflate, of bits alone: where the document's reader finds nothing wrong, a Stored block is read as the document reads it.
-/
import Derived.Test.YtfoaaamcpknjnadGreatQ12
import Derived.Test.YtfoaaamcpknjnadGreatQ15
import Derived.Test.YtfoaaamcpknjnadGreatQ0
import Derived.Laws.BytesArg
import Derived.Lib.Strings
import Derived.Test.YtfoaaamcpknjnadGreatQ23
import Derived.Test.YtfoaaamcpknjnadGreatQ50
import Derived.Lib.SlBytesConst
import Derived.Test.YtfoaaamcpknjnadGreatQ1
import Derived.OwnWalk
import Derived.Maps.AppendAt
import Derived.Test.YtfoaaamcpknjnadGreatQ4
import Derived.Deep.Slices
import Derived.SizedLaws
namespace Go.Proofs.YtfoaaamcpknjnadGreat
set_option linter.unusedVariables false

theorem istore_full (row : List Bool) : ∀ (k : Nat) (x : US), x.out.length ≤ 3000 → 3000 < x.out.length + k → (ustore row k x).e ≠ 0
  | 0, x, h1, h2 => by omega
  | k + 1, x, h1, h2 => by
    by_cases e : x.e = 0
    · unfold ustore
      rw [if_pos e]
      obtain ⟨c, y, hg⟩ : ∃ c y, uget row 8 x = (c, y) := ⟨_, _, rfl⟩
      have ho : y.out = x.out := by have := iget_out row 8 x; rw [hg] at this; exact this
      rw [hg]
      show (ustore row k (usay c y)).e ≠ 0
      by_cases e2 : y.e = 0
      · by_cases e3 : y.out.length = 3000
        · have : usay c y = { y with e := 2 } := by unfold usay; rw [if_pos e2, if_pos e3]
          rw [this, ustore_bad _ _ _ (show (2 : Int) ≠ 0 by decide)]
          exact (by decide : (2 : Int) ≠ 0)
        · have : usay c y = { y with out := y.out ++ [c] } := by unfold usay; rw [if_pos e2, if_neg e3]
          rw [this]
          refine istore_full row k _ ?_ ?_
          · show (y.out ++ [c]).length ≤ 3000
            rw [List.length_append, ho]
            rw [ho] at e3
            simp only [List.length_cons, List.length_nil]
            omega
          · show 3000 < (y.out ++ [c]).length + k
            rw [List.length_append, ho]
            simp only [List.length_cons, List.length_nil]
            omega
      · have : usay c y = y := by unfold usay; rw [if_neg e2]
        rw [this, ustore_bad _ _ _ e2]
        exact e2
    · rw [ustore_bad _ _ _ e]
      exact e

theorem istored_ok (row : List Bool) (u : US) (ho : u.out.length ≤ 3000) (h : (ustored row u).e = 0) : istored row u = ustored row u := by
  have hx : ustored row u = ustore row (istored1 row u).1 (istored1 row u).2 := rfl
  have h1 : (istored1 row u).2.out = u.out := by
    unfold istored1
    dsimp only
    split
    · unfold uwrong
      split
      · show (uget row 16 _).2.out = _
        rw [iget_out, iget_out]
      · rw [iget_out, iget_out]
    · rw [iget_out, iget_out]
  unfold istored
  dsimp only
  rw [if_neg, hx]
  rintro ⟨_, h3⟩
  rw [hx] at h
  exact istore_full row _ _ (by rw [h1]; exact ho) h3 h
end Go.Proofs.YtfoaaamcpknjnadGreat

/-
  Package inflate, of bits alone: where the document's reader finds nothing wrong, the program reads as it does.
-/
namespace Go.Proofs.YtfoaaamcpknjnadGreat
set_option linter.unusedVariables false
set_option maxRecDepth 100000

theorem ucopy_fit {d : Nat} : ∀ {n : Nat} {u : US}, (ucopy d n u).e = 0 → u.out.length ≤ 3000 → u.out.length + n ≤ 3000
  | 0, u, h, ho => by omega
  | n + 1, u, h, ho => by
    have he := ucopy_e h
    rw [ucopy, if_pos he] at h
    obtain ⟨_, h2, h3⟩ := usay_e (ucopy_e h)
    rw [h3] at h
    have ih := ucopy_fit h (by simp only [List.length_append, List.length_cons, List.length_nil]; omega)
    simp only [List.length_append, List.length_cons, List.length_nil] at ih
    omega
theorem itoks_utok (row : List Bool) (a b : List Int) : ∀ (F F' : Nat) (u : US), (utok row a b F u).e = 0 → row.length + 1 ≤ u.p + F → row.length + 1 ≤ u.p + F' → u.p ≤ row.length → u.out.length ≤ 3000 → itoks row a b F' u = utok row a b F u
  | 0, F', u, h, h1, h2, hp, ho => by omega
  | F + 1, 0, u, h, h1, h2, hp, ho => by omega
  | F + 1, F' + 1, u, h, h1, h2, hp, ho => by
    obtain ⟨t, x, hT, e⟩ := utok_round h
    obtain ⟨a1, a2, a3, a4, a5⟩ := hT.ahead
    rw [e] at h ⊢
    rw [itoks_succ]
    cases hT with
    | stop v g1 g2 =>
      simp [g1, g2]
    | byte c x g1 g2 g3 g4 =>
      have hx : x.out.length ≤ 3000 := by
        have := uplace_p2 g1 g2
        rw [this.2.2.1]; exact ho
      have hs : istep row b c x = { x with out := x.out ++ [c] } := by
        unfold istep
        rw [if_pos g3, if_neg (by omega)]
      rw [g1]
      simp only
      rw [if_neg (fun h => h g2), if_neg (by omega), hs, if_neg (fun h => h g2), if_pos trivial]
      rw [if_pos rfl] at h
      exact itoks_utok row a b F F' _ h (by omega) (by omega) a2 (a5 ho)
    | same k n0 f d0 x1 x2 x3 x4 _ g1 g2 g3 g4 g5 g6 g7 g8 g9 g10 g11 g12 g13 g14 =>
      have p1 := uplace_p2 g1 g2
      have p2 := uget_p2 g5 g6
      have p3 := uplace_p2 g7 g8
      have p4 := uget_p2 g10 g11
      have hx4 : x4.out.length ≤ 3000 := by rw [p4.2.2.1, p3.2.2.1, p2.2.2.1, p1.2.2.1]; exact ho
      have hfit := ucopy_fit (by rw [g13]; exact g14 : (ucopy ((farsL.getD f (0, 0)).1 + d0) ((samesL.getD (k - 257) (0, 0)).1 + n0) x4).e = 0) hx4
      have hs : istep row b k x1 = x := by
        unfold istep
        rw [if_neg (by omega), if_neg (by omega), leastS_is k g3 g4, g5]
        simp only
        have hh : ihow row b x2 = ((farsL.getD f (0, 0)).1 + d0, x4) := by
          unfold ihow
          rw [g7]
          simp only
          rw [if_neg (fun h => h g8), if_neg (by omega), leastF_is f g9, g10]
        rw [if_neg (fun h => h g6), hh]
        simp only
        rw [if_neg (fun h => h g11)]
        unfold iback
        rw [if_neg (by omega), if_neg (by omega), g13]
      rw [g1]
      simp only
      rw [if_neg (fun h => h g2), if_neg (by omega), hs, if_neg (fun h => h g14), if_pos trivial]
      rw [if_pos rfl] at h
      exact itoks_utok row a b F F' _ h (by omega) (by omega) a2 (a5 ho)
theorem uget_bit (row : List Bool) (u : US) : (uget row 1 u).1 < 2 := by
  have := ulow row 1 u
  simpa using this
theorem iblock_is {row : List Bool} {u x : US} {t : Bool} (h : Blk1R row u t x) (hp : u.p ≤ row.length) (ho : u.out.length ≤ 3000) : ∃ l, l < 2 ∧ t = decide (l = 1) ∧ iblock row u = (l, x) := by
  cases h with
  | stored l x1 x2 h1 h2 h3 h4 =>
    obtain ⟨q2, q2l, q2o, q2k, q2e⟩ := uget_p2 h2 h3
    obtain ⟨q1, q1l, q1o, q1k, _⟩ := uget_p2 h1 q2e
    have hl := uget_bit row u
    rw [h1] at hl
    refine ⟨l, hl, rfl, ?_⟩
    unfold iblock
    rw [h1]
    simp only
    rw [if_neg (fun h => h q2e), h2]
    simp only
    rw [if_neg (fun h => h h3)]
    unfold ikind ikeep
    rw [if_pos rfl, istored_ok row x2 (by rw [q2o, q1o]; exact ho) h4, if_pos h4]
  | coded l k x1 x2 x3 a b h1 h2 h3 h4 h5 h6 h7 =>
    obtain ⟨q2, q2l, q2o, q2k, q2e⟩ := uget_p2 h2 h3
    obtain ⟨q1, q1l, q1o, q1k, _⟩ := uget_p2 h1 q2e
    have hl := uget_bit row u
    rw [h1] at hl
    have hx2 : x2.out.length ≤ 3000 := by rw [q2o, q1o]; exact ho
    refine ⟨l, hl, rfl, ?_⟩
    unfold iblock
    rw [h1]
    simp only
    rw [if_neg (fun h => h q2e), h2]
    simp only
    rw [if_neg (fun h => h h3)]
    rcases h4 with h4 | h4
    · subst h4
      unfold uopen at h5
      rw [if_pos rfl] at h5
      have e1 := (Prod.mk.inj h5).2
      have e2 := Prod.mk.inj (Prod.mk.inj h5).1
      subst e1
      rw [← e2.1, ← e2.2] at h7 ⊢
      unfold ikind ikeep
      rw [if_neg (by decide), if_pos rfl, itoks_utok row fixA fixB row.length (row.length + 1) x2 h7 (by omega) (by omega) q2l hx2, if_pos h7]
    · subst h4
      unfold uopen at h5
      rw [if_neg (by decide), if_pos rfl] at h5
      obtain ⟨m0, n0, c0, v1, v2, v3, us, S0, L0, hTD⟩ := utold_good h5 h6
      obtain ⟨t1, t2, t3, t4⟩ := utold_p hTD q2l
      unfold ikind ikeep
      rw [if_neg (by decide), if_neg (by decide), if_pos rfl, h5]
      simp only
      rw [if_neg (fun h => h h6), itoks_utok row a b row.length (row.length + 1) x3 h7 (by omega) (by omega) t2 (by rw [t3]; exact hx2), if_pos h7]
theorem iblocks_is (row : List Bool) : ∀ (F : Nat) (u : US), (ublocks row F u).e = 0 → u.p ≤ row.length → u.out.length ≤ 3000 → iblocks row F u = ublocks row F u
  | 0, u, h, hp, ho => rfl
  | F + 1, u, h, hp, ho => by
    obtain ⟨t, x, hB, e⟩ := ublocks_round h
    obtain ⟨a1, a2, a3, a4, a5⟩ := hB.ahead
    obtain ⟨l, hl, ht, hi⟩ := iblock_is hB hp ho
    rw [e] at h ⊢
    rw [iblocks, hi]
    simp only
    by_cases hl0 : l = 0
    · have htf : t = false := by rw [ht, hl0]; rfl
      rw [if_pos ⟨hl0, a3⟩, if_pos htf]
      rw [if_pos htf] at h
      exact iblocks_is row F x h a2 (a5 ho)
    · have htt : ¬ t = false := by rw [ht, show l = 1 by omega]; decide
      rw [if_neg (fun h => hl0 h.1), if_neg htt]
theorem iunpk_unpk (row : List Bool) (h : (unpk row).e = 0) : iunpk row = unpk row := iblocks_is row _ _ h (Nat.zero_le _) (by simp [US0])
end Go.Proofs.YtfoaaamcpknjnadGreat

/-
  The library's bytes.Equal: it answers whether the two rows hold the same bytes.
-/
namespace Go.Proofs.YtfoaaamcpknjnadGreat
open Go.RowKit
set_option linter.unusedVariables false
set_option maxRecDepth 100000

theorem bequal_runs (v1 v2 : Value) (s1 s2 : ByteArray) (w : World) (h1 : (convert 22 9 v1).run Tryz.prog w = .ok (.string s1) w) (h2 : (convert 22 9 v2).run Tryz.prog w = .ok (.string s2) w) :
    Calls Tryz.prog 10 #[v1, v2] w fun e w' => e = .returned (.bool (s1.toList == s2.toList)) ∧ w' = w := by
  go_enter Tryz.func10, Tryz.ntmps10
  go_wp2
  go_ret
  exact ⟨rfl, rfl⟩

/-- the text of these bytes -/
def strN (xs : List Nat) : ByteArray := ⟨(xs.map UInt8.ofNat).toArray⟩
theorem strN_toList (xs : List Nat) : (strN xs).toList = xs.map UInt8.ofNat := by
  rw [Lib.toList_data]; rfl
theorem strN_size (xs : List Nat) : (strN xs).size = xs.length := by simp [strN, ByteArray.size]

theorem conv_in (a : Option Addr) (len cap : Nat) (xs : List Nat) (w : World) (hl : xs.length = len) (hB : BytesIn w a xs) :
    (convert 22 9 (.slice a len cap)).run Tryz.prog w = .ok (.string (strN xs)) w := by
  rcases hB with rfl | ⟨b, o, rfl, _, hB⟩
  · obtain rfl : len = 0 := by simp at hl; omega
    rw [run_convert_bytes_string w 22 9 5 _ 0 cap Tryz.underlying22 Tryz.underlying5 Tryz.underlying9]
    cases a <;> simp [Conv.bytesToString, loadCells, strN]
    all_goals rfl
  · have h := run_convert_bytes_arg (P := Tryz.prog) w 22 5 Tryz.underlying22 Tryz.underlying5 b o len cap (xs.map fun x : Nat => (x : Int)) (by simpa using hl) (by
      intro i hi
      rw [hB i (by omega)]
      have : i < xs.length := by omega
      simp [List.getD, this]) 9 Tryz.underlying9
    rw [h]
    simp [strOfNums, strN, Function.comp_def]

theorem ofNat_inj {xs ys : List Nat} (hx : ∀ j, xs.getD j 0 < 256) (hy : ∀ j, ys.getD j 0 < 256) (h : xs.map UInt8.ofNat = ys.map UInt8.ofNat) : xs = ys := by
  have hl : xs.length = ys.length := by have := congrArg List.length h; simpa using this
  apply List.ext_getElem hl
  intro j h1 h2
  have e := congrArg (fun l : List UInt8 => l[j]?) h
  simp [h1, h2] at e
  have a1 := hx j
  have a2 := hy j
  simp [List.getD, h1] at a1
  simp [List.getD, h2] at a2
  have e2 := congrArg UInt8.toNat e
  simp only [UInt8.toNat_ofNat'] at e2
  omega

theorem bequal_in (a1 a2 : Option Addr) (l1 c1 l2 c2 : Nat) (xs ys : List Nat) (w : World) (h1 : xs.length = l1) (h2 : ys.length = l2) (hx : ∀ j, xs.getD j 0 < 256) (hy : ∀ j, ys.getD j 0 < 256) (hB1 : BytesIn w a1 xs) (hB2 : BytesIn w a2 ys) :
    Calls Tryz.prog 10 #[.slice a1 l1 c1, .slice a2 l2 c2] w fun e w' => e = .returned (.bool (xs == ys)) ∧ w' = w := by
  refine (bequal_runs _ _ (strN xs) (strN ys) w (conv_in a1 l1 c1 xs w h1 hB1) (conv_in a2 l2 c2 ys w h2 hB2)).mono ?_
  rintro e w' ⟨rfl, rfl⟩
  refine ⟨ret_bool ?_, rfl⟩
  rw [strN_toList, strN_toList, Bool.eq_iff_iff, beq_iff_eq, beq_iff_eq]
  exact ⟨ofNat_inj hx hy, fun h => by rw [h]⟩

end Go.Proofs.YtfoaaamcpknjnadGreat

/-
  Package gz: what was packed is unpacked; the closed fact.
-/
namespace Go.Proofs.YtfoaaamcpknjnadGreat
open Go.RowKit
set_option linter.unusedVariables false
set_option linter.unusedSimpArgs false
set_option maxRecDepth 100000

theorem best_le (bs : List Nat) : bestP bs 3 ≤ 2 := by
  rw [bestP_next bs 2 (by decide)]
  split
  · decide
  · rw [bestP_next bs 1 (by decide)]
    split
    · decide
    · exact (by decide : 0 ≤ 2)
/-- what Pack makes -/
def gzRow (bs out : List Nat) : List Nat := headL ++ out ++ tailL (crcN 0 bs) bs.length
theorem gzRow_len (bs out : List Nat) : (gzRow bs out).length = 10 + out.length + 8 := by
  unfold gzRow
  rw [List.length_append, List.length_append]
  rfl
theorem gzRow_val (bs out : List Nat) (hx : ∀ j, out.getD j 0 < 256) : ∀ j, (gzRow bs out).getD j 0 < 256 := app_lt (app_lt head_val hx) (tail_val _ _)
theorem one_unpk {bs out : List Nat} {k : Nat} (h : IsOne bs k out) (hk : k ≤ 2) (hx : ∀ j, bs.getD j 0 < 256) (hn : bs.length ≤ 3000) (T : List Nat) (q : Nat) : (iunpk (rowB (out ++ T) (out.length + q))).out = bs ∧ (iunpk (rowB (out ++ T) (out.length + q))).e = 0 ∧ ((iunpk (rowB (out ++ T) (out.length + q))).p + 7) / 8 = out.length := by
  have hit : itemsP [bs] [(k : Int)] = [(bs, k)] := by simp [itemsP]
  have hpk := packF_one bs k
  rw [hit] at hpk
  have hun := unpk_pack [(bs, k)] (List.replicate (freeN (blkB [] bs k true).length) false ++ rowB T q) (by simp) (fun i hi => by
    simp at hi
    subst hi
    exact ⟨hk, hx⟩) (by simpa using hn)
  rw [hpk] at hun
  have hrow : rowB (out ++ T) (out.length + q) = blkB [] bs k true ++ (List.replicate (freeN (blkB [] bs k true).length) false ++ rowB T q) := by
    rw [rowB_app, h.row]
    unfold oneB padB
    rw [List.append_assoc]
  rw [← hrow] at hun
  have hiu := iunpk_unpk (rowB (out ++ T) (out.length + q)) (by rw [hun])
  rw [hiu, hun]
  refine ⟨by simp, rfl, ?_⟩
  have h2 := congrArg List.length h.row
  unfold oneB at h2
  rw [rowB_length, padB_length] at h2
  have h3 := freeN_lt (blkB [] bs k true).length
  have h4 := freeN_sum (blkB [] bs k true).length
  show ((blkB [] bs k true).length + 7) / 8 = out.length
  omega
theorem chkT_same (T : List Nat) (h : T.length = 8) : chkT T T = 0 := by unfold chkT; rw [if_neg (by omega), if_neg (by omega), if_pos rfl]
/-- what was packed, whatever its tail -/
theorem gzE_row {bs out : List Nat} (h : IsOne bs (bestP bs 3) out) (hx : ∀ j, bs.getD j 0 < 256) (hn : bs.length ≤ 3000) (T : List Nat) (hf : 10 + out.length + T.length ≤ 6000) : gzE (headL ++ out ++ T) = chkT T (tailL (crcN 0 bs) bs.length) ∧ (gzI (headL ++ out ++ T)).out = bs := by
  have hh : headL.length = 10 := rfl
  have hlen : (headL ++ out ++ T).length = 10 + out.length + T.length := by rw [List.length_append, List.length_append, hh]
  have hd : (headL ++ out ++ T).drop 10 = out ++ T := by rw [List.append_assoc, ← hh, List.drop_left]
  have ht : (headL ++ out ++ T).take 10 = headL := by rw [List.append_assoc, ← hh, List.take_left]
  have hI : gzI (headL ++ out ++ T) = iunpk (rowB (out ++ T) (out.length + T.length)) := by
    unfold gzI
    rw [hd, hlen]
    congr 2
    omega
  obtain ⟨u1, u2, u3⟩ := one_unpk h (best_le bs) hx hn T T.length
  refine ⟨?_, by rw [hI]; exact u1⟩
  unfold gzE
  rw [if_neg (by omega), if_neg (by rw [ht]; rintro (c | c); omega; exact c rfl), hI, if_neg (fun c => c u2), u1, u3]
  have hd2 : (headL ++ out ++ T).drop (10 + out.length) = T := by
    have : 10 + out.length = (headL ++ out).length := by rw [List.length_append, hh]
    rw [this, List.drop_left]
  rw [hd2]
theorem gzRow_back {bs out : List Nat} (h : IsOne bs (bestP bs 3) out) (hx : ∀ j, bs.getD j 0 < 256) (hn : bs.length ≤ 3000) (hf : (gzRow bs out).length ≤ 6000) : gzE (gzRow bs out) = 0 ∧ (gzI (gzRow bs out)).out = bs := by
  rw [gzRow_len] at hf
  obtain ⟨h1, h2⟩ := gzE_row h hx hn (tailL (crcN 0 bs) bs.length) (by show 10 + out.length + 8 ≤ 6000; omega)
  exact ⟨by unfold gzRow; rw [h1]; exact chkT_same _ rfl, h2⟩
/-- Unpack of what was packed -/
theorem gzBack_any (a : Option Addr) (cap : Nat) (bs out : List Nat) (w : World) (h : IsOne bs (bestP bs 3) out) (hx : ∀ j, bs.getD j 0 < 256) (hn : bs.length ≤ 3000) (hf : 10 + out.length + 8 ≤ 6000) (hcap : 10 + out.length + 8 ≤ cap) (hby : BytesIn w a (gzRow bs out)) :
    Calls Tryz.prog 12 #[.slice a (10 + out.length + 8) cap] w fun e w' => Below w.heap.size w w' ∧ ∃ x c, e = .returned (.tuple #[.slice x bs.length c, .int .i64 0]) ∧ BytesIn w' x bs := by
  obtain ⟨h1, h2⟩ := gzRow_back h hx hn (by rw [gzRow_len]; exact hf)
  refine (gzUnpack_any a (10 + out.length + 8) cap (gzRow bs out) w (gzRow_len _ _) (by omega) hcap hby (gzRow_val bs out h.val)).mono ?_
  rintro e w' ⟨hB, hd⟩
  refine ⟨hB, ?_⟩
  rcases hd with ⟨_, x, c, rfl, hb⟩ | ⟨h0, _⟩
  · rw [h2] at hb ⊢
    exact ⟨x, c, rfl, hb⟩
  · exact absurd h1 h0
def hello : List Nat := [104, 101, 108, 108, 111, 32, 104, 101, 108, 108, 111, 32, 104, 101, 108, 108, 111]
end Go.Proofs.YtfoaaamcpknjnadGreat

/-
  The closed fact that the statements on package gz ask for first: it is true.
-/
namespace Go.Proofs.YtfoaaamcpknjnadGreat
open Go.RowKit
set_option linter.unusedVariables false
set_option linter.unusedSimpArgs false
set_option maxRecDepth 100000

theorem hello_val (j : Nat) : hello.getD j 0 < 256 := by
  by_cases hj : j < 17
  · have : (List.range 17).all (fun j => decide (hello.getD j 0 < 256)) = true := by decide
    exact of_decide_eq_true (List.all_eq_true.1 this j (by simpa using hj))
  · rw [List.getD, List.getElem?_eq_none (by show hello.length ≤ j; exact (by omega : 17 ≤ j))]
    exact (by decide : (0 : Nat) < 256)
def helloV : Array Value := #[.int .u8 104, .int .u8 101, .int .u8 108, .int .u8 108, .int .u8 111, .int .u8 32, .int .u8 104, .int .u8 101, .int .u8 108, .int .u8 108, .int .u8 111, .int .u8 32, .int .u8 104, .int .u8 101, .int .u8 108, .int .u8 108, .int .u8 111]

set_option maxHeartbeats 2000000 in
theorem zipped_any (w : World) : Calls Tryz.prog 8 #[] w fun e w' => e = .returned (.bool true) ∧ Below w.heap.size w w' := by
  have hcc := Lib.run_convert_bytes_const (P := Tryz.prog) w 22 5 #[.int .u8 104, .int .u8 101, .int .u8 108, .int .u8 108, .int .u8 111, .int .u8 32, .int .u8 104, .int .u8 101, .int .u8 108, .int .u8 108, .int .u8 111, .int .u8 32, .int .u8 104, .int .u8 101, .int .u8 108, .int .u8 108, .int .u8 111] 17 17 Tryz.underlying22 Tryz.underlying5
  have HPK : Hid (∀ X : Obj, X = .cells #[.int .u8 104, .int .u8 101, .int .u8 108, .int .u8 108, .int .u8 111, .int .u8 32, .int .u8 104, .int .u8 101, .int .u8 108, .int .u8 108, .int .u8 111, .int .u8 32, .int .u8 104, .int .u8 101, .int .u8 108, .int .u8 108, .int .u8 111] 5 (17, 18) → Calls Tryz.prog 6 #[.slice (some ⟨w.heap.size, 0, none⟩) 17 17] (w.alloc X) fun e w' => Below w.heap.size w w' ∧ ∃ b o c L out, out.length = L ∧ 0 < L ∧ L ≤ 500 ∧ 10 + L + 8 ≤ c ∧ e = .returned (.tuple #[.slice (some ⟨b, o, none⟩) (10 + L + 8) c, .int .i64 0]) ∧ w'.cell? ⟨b, o, none⟩ = some (.int .u8 31) ∧ Hid (IsOne hello (bestP hello 3) out ∧ b < w'.heap.size ∧ BytesIn w' (some ⟨b, o, none⟩) (gzRow hello out))) := hide (fun X hX => by
    subst hX
    have hbm : Bytes (w.alloc (.cells #[.int .u8 104, .int .u8 101, .int .u8 108, .int .u8 108, .int .u8 111, .int .u8 32, .int .u8 104, .int .u8 101, .int .u8 108, .int .u8 108, .int .u8 111, .int .u8 32, .int .u8 104, .int .u8 101, .int .u8 108, .int .u8 108, .int .u8 111] 5 (17, 18))) w.heap.size 0 hello := by
      intro j hj
      rw [Nat.zero_add, cell_of_row _ _ _ _ _ _ (heap_alloc_new w _)]
      have hj2 : j < 17 := hj
      have e : (#[.int .u8 104, .int .u8 101, .int .u8 108, .int .u8 108, .int .u8 111, .int .u8 32, .int .u8 104, .int .u8 101, .int .u8 108, .int .u8 108, .int .u8 111, .int .u8 32, .int .u8 104, .int .u8 101, .int .u8 108, .int .u8 108, .int .u8 111] : Array Value) = (u8s hello).toArray := rfl
      rw [e]
      simp [u8s, List.getD, hj]
    refine (gzPack_ok (some ⟨w.heap.size, 0, none⟩) 17 17 hello _ rfl (Nat.le_refl _) (fun e => by cases e) (.inr ⟨_, 0, rfl, by simp, hbm⟩) hello_val (by decide)).mono ?_
    rintro e w' ⟨hB, x, c, out, hc, rfl, hI, hby⟩
    have hp := hI.pos
    have hs := one_small hI hello_val (by decide)
    have hl : hello.length = 17 := rfl
    rw [hl] at hs
    obtain ⟨b, o, rfl, hb, hby2⟩ := bytesIn_some hby (by simp [headL])
    have c0 := hby2 0 (by simp [headL])
    refine ⟨((Below.refl w.heap.size w).alloc (Nat.le_refl _) _).trans (hB.mono (by simp)), b, o, c, out.length, out, rfl, hp, by omega, hc, rfl, c0, hide ⟨hI, hb, hby⟩⟩)
  have HUN : Hid (∀ (W : World) (a : Option Addr) (c : Nat) (out : List Nat), IsOne hello (bestP hello 3) out → 10 + out.length + 8 ≤ 6000 → 10 + out.length + 8 ≤ c → BytesIn W a (gzRow hello out) → Calls Tryz.prog 12 #[.slice a (10 + out.length + 8) c] W fun e w' => Below W.heap.size W w' ∧ ∃ x c, e = .returned (.tuple #[.slice x 17 c, .int .i64 0]) ∧ BytesIn w' x hello) := hide (fun W a c out h1 h2 h3 h4 => gzBack_any a c hello out W h1 hello_val (by decide) h2 h3 h4)
  go_enter Tryz.func8, Tryz.ntmps8
  go_wp2_with fail
  refine (unhide HPK _ rfl).mono ?_
  rintro e w1 ⟨hB1, b, o, c, L, out, hL, hp, hs, hc, rfl, c0, hHid⟩
  have HUC := hide (unhide HUN w1 (some ⟨b, o, none⟩) c out (unhide hHid).1 (by omega) (by omega) (unhide hHid).2.2)
  rw [hL] at HUC
  have hb1 := (unhide hHid).2.1
  have HB1 := hide hB1
  clear hB1 hHid hL HPK HUN
  go_wp2_with fail
  refine (unhide HUC).mono ?_
  rintro e w2 ⟨hB2, x, c2, rfl, hb2⟩
  have c02 := (hB2.cell (p := ⟨b, o, none⟩) hb1).trans c0
  have hcv := conv_in x 17 c2 hello w2 rfl hb2
  have hst : strN hello = ⟨#[104, 101, 108, 108, 111, 32, 104, 101, 108, 108, 111, 32, 104, 101, 108, 108, 111]⟩ := rfl
  rw [hst] at hcv
  have HB2 := hide ((unhide HB1).trans (hB2.mono (unhide HB1).size))
  have h18 : (18 : Int) < 10 + (L : Int) + 8 := by omega
  have h18b : (18 : Int) < ((10 + L + 8 : Nat) : Int) := by omega
  clear hB2 hb2 hst c0 HUC hcc
  go_wp2
  go_ret
  exact ⟨rfl, unhide HB2⟩
end Go.Proofs.YtfoaaamcpknjnadGreat

/-
  A number's place in a row by at2, one bit of a byte turned.
-/
namespace Go.Proofs.YtfoaaamcpknjnadGreat
open Go.RowKit
set_option linter.unusedVariables false
set_option maxRecDepth 100000

theorem at2_burst (x : Int) (n : Nat) (w : World) (h0 : 0 < n) (hn : n ≤ 100000) : Calls Tryz.prog 15 #[.int .i64 x, .int .i64 (n : Int)] w fun e w' => ∃ t : Nat, e = .returned (.int .i64 t) ∧ t < n ∧ w' = w := by
  have hp : (0 : Int) < (n : Int) := by omega
  have h1 : -(n : Int) < x.tmod n := by have := Int.lt_tmod_of_pos x hp; omega
  have h2 : x.tmod n < n := Int.tmod_lt_of_pos x hp
  have hz : ((n : Int) == 0) = false := by rw [beq_eq_false_iff_ne]; omega
  go_enter Tryz.func15, Tryz.ntmps15
  by_cases hn : x.tmod n < 0
  · go_wp2
    go_ret
    refine ⟨(x.tmod n + n).toNat, ?_, by omega, rfl⟩
    have : ((x.tmod n + n).toNat : Int) = x.tmod n + n := by omega
    rw [this]
    rfl
  · go_wp2
    go_ret
    refine ⟨(x.tmod n).toNat, ?_, by omega, rfl⟩
    have : ((x.tmod n).toNat : Int) = x.tmod n := by omega
    rw [this]
    rfl

theorem bytes_cells' {w : World} {b o : Nat} {xs : List Nat} (h : Bytes w b o xs) : ∀ j u, (u8s xs)[j]? = some u → w.cell? ((⟨b, o, none⟩ : Addr).add j) = some u := by
  intro j u hj
  have e : (⟨b, o, none⟩ : Addr).add j = ⟨b, o + j, none⟩ := by unfold Addr.add; split <;> simp_all
  have hj2 : j < xs.length := by
    by_cases c : j < xs.length
    · exact c
    · rw [List.getElem?_eq_none (by simp [u8s]; omega)] at hj; cases hj
  have := h j hj2
  rw [e, this]
  simp [u8s, hj2] at hj
  subst hj
  simp [List.getD, hj2]
theorem u8s_one' (xs : List Nat) : ∀ u ∈ u8s xs, u.oneCell' = true := by intro u hu; obtain ⟨x, _, rfl⟩ := List.mem_map.1 hu; rfl
theorem mem_lt2 {l : List Nat} (h : ∀ j, l.getD j 0 < 256) : ∀ y ∈ l, y < 256 := by
  intro y hy
  obtain ⟨i, hi, rfl⟩ := List.getElem_of_mem hy
  have := h i
  rw [List.getD, List.getElem?_eq_getElem hi] at this
  exact this
theorem xor_bit {x j : Nat} (hx : x < 256) (hj : j < 8) : bits .xor .u8 (x : Int) ((2 : Int) ^ j % 256) = ((x ^^^ 2 ^ j : Nat) : Int) := by
  have h : 2 ^ j < 2 ^ 8 := Nat.pow_lt_pow_right (by decide) hj
  rw [show (2 : Nat) ^ 8 = 256 from rfl] at h
  have e : (2 : Int) ^ j % 256 = ((2 ^ j : Nat) : Int) := by
    rw [show (2 : Int) ^ j = ((2 ^ j : Nat) : Int) by push_cast; rfl]
    generalize 2 ^ j = q at *
    omega
  rw [e]
  exact u8_xor_nat x _ hx h
end Go.Proofs.YtfoaaamcpknjnadGreat

/-
  A row of bytes, cut.
-/
namespace Go.Proofs.YtfoaaamcpknjnadGreat
open Go.RowKit
set_option linter.unusedVariables false
set_option maxRecDepth 100000

theorem rowB_cut (bs : List Nat) : ∀ (n q : Nat), q ≤ n → rowB (bs.take q) q = (rowB bs n).take (8 * q)
  | 0, q, h => by
    obtain rfl : q = 0 := by omega
    rfl
  | n + 1, q, h => by
    have key : ∀ k, k ≤ q → rowB (bs.take q) k = rowB bs k := fun k => by
      induction k with
      | zero => intro _; rfl
      | succ k ih =>
        intro hk
        rw [rowB, rowB, ih (by omega)]
        have : (bs.take q).getD k 0 = bs.getD k 0 := by simp only [List.getD]; rw [List.getElem?_take_of_lt (by omega)]
        rw [this]
    by_cases hq : q = n + 1
    · subst hq
      rw [List.take_of_length_le (l := rowB bs (n + 1)) (by rw [rowB_length]; exact Nat.le_refl _)]
      exact key _ (Nat.le_refl _)
    · rw [rowB, List.take_append_of_le_length (by rw [rowB_length]; omega)]
      exact rowB_cut bs n q (by omega)
theorem BytesIn.cut {w : World} {a : Option Addr} {xs : List Nat} (h : BytesIn w a xs) (q : Nat) : BytesIn w a (xs.take q) := by
  rcases h with rfl | ⟨b, o, rfl, hb, hB⟩
  · exact .inl (by simp)
  · refine .inr ⟨b, o, rfl, hb, fun j hj => ?_⟩
    have hj2 : j < q ∧ j < xs.length := by rw [List.length_take] at hj; omega
    have e : (xs.take q).getD j 0 = xs.getD j 0 := by simp only [List.getD]; rw [List.getElem?_take_of_lt hj2.1]
    rw [e]
    exact hB j hj2.2
theorem take_val {xs : List Nat} (h : ∀ j, xs.getD j 0 < 256) (q : Nat) (j : Nat) : (xs.take q).getD j 0 < 256 := by
  by_cases hj : j < q
  · have e : (xs.take q).getD j 0 = xs.getD j 0 := by simp only [List.getD]; rw [List.getElem?_take_of_lt hj]
    rw [e]; exact h j
  · simp only [List.getD]
    rw [List.getElem?_eq_none (by rw [List.length_take]; omega)]
    decide

end Go.Proofs.YtfoaaamcpknjnadGreat

/-
  The walk of the law GzBack.
-/
namespace Go.Proofs.YtfoaaamcpknjnadGreat
open Go.RowKit
set_option linter.unusedVariables false
set_option linter.unusedSimpArgs false
set_option maxRecDepth 100000

theorem set_val {T : List Nat} (h : ∀ j, T.getD j 0 < 256) (k y : Nat) (hy : y < 256) (j : Nat) : (T.set k y).getD j 0 < 256 := by
  by_cases e : k = j
  · rw [List.getD, List.getElem?_set, if_pos e]
    split
    · exact hy
    · exact (by decide : (0 : Nat) < 256)
  · have := h j
    rw [List.getD, List.getElem?_set, if_neg e]
    exact this
theorem gz_err {xs : List Nat} {x : Int} (hE : gzE xs = x) (h0 : x ≠ 0) (a : Option Addr) (n cap : Nat) (w : World) (hl : xs.length = n) (hm : n ≤ 6000) (hcap : n ≤ cap) (hby : BytesIn w a xs) (hv : ∀ j, xs.getD j 0 < 256) :
    Calls Tryz.prog 12 #[.slice a n cap] w fun e w' => e = .returned (.tuple #[.slice none 0 0, .int .i64 x]) ∧ Below w.heap.size w w' := by
  refine (gzUnpack_any a n cap xs w hl (by omega) hcap hby hv).mono ?_
  rintro e w' ⟨hB, ⟨h1, _⟩ | ⟨_, rfl⟩⟩
  · rw [hE] at h1; exact absurd h1 h0
  · exact ⟨by rw [hE], hB⟩
theorem xor_ne (y j : Nat) : y ^^^ 2 ^ j ≠ y := fun h => by
  have h2 : y ^^^ (y ^^^ 2 ^ j) = y ^^^ y := by rw [h]
  rw [← Nat.xor_assoc, Nat.xor_self, Nat.zero_xor] at h2
  have : 0 < 2 ^ j := Nat.pow_pos (by decide)
  omega
/-- one bit of the tail turned -/
theorem gz_turned {bs out : List Nat} (h : IsOne bs (bestP bs 3) out) (hx : ∀ j, bs.getD j 0 < 256) (hn : bs.length ≤ 3000) (hf : 10 + out.length + 8 ≤ 6000) (t : Nat) (ht : t < 64) (y : Nat) (hy : (gzRow bs out).getD (10 + out.length + t / 8) 0 = y) (a : Option Addr) (cap : Nat) (w : World) (hcap : 10 + out.length + 8 ≤ cap) (hby : BytesIn w a ((gzRow bs out).set (10 + out.length + t / 8) (y ^^^ 2 ^ (t % 8)))) :
    Calls Tryz.prog 12 #[.slice a (10 + out.length + 8) cap] w fun e w' => e = .returned (.tuple #[.slice none 0 0, .int .i64 10]) ∧ Below w.heap.size w w' := by
  have hp : (headL ++ out).length = 10 + out.length := by rw [List.length_append]; rfl
  have hTl : (tailL (crcN 0 bs) bs.length).length = 8 := rfl
  have hTv := tail_val (crcN 0 bs) bs.length
  unfold gzRow at hby hy
  generalize hT : tailL (crcN 0 bs) bs.length = T at *
  have e1 : (headL ++ out ++ T).set (10 + out.length + t / 8) (y ^^^ 2 ^ (t % 8)) = headL ++ out ++ T.set (t / 8) (y ^^^ 2 ^ (t % 8)) := by
    rw [List.set_append_right _ _ (by omega), hp]
    congr 2
    omega
  have hy2 : T.getD (t / 8) 0 = y := by
    rw [← hy, List.getD, List.getD, List.getElem?_append_right (by omega), hp]
    congr 2
    omega
  have hyl : y < 256 := by rw [← hy2]; exact hTv _
  have hyx : y ^^^ 2 ^ (t % 8) < 256 := Nat.xor_lt_two_pow (n := 8) hyl (Nat.pow_lt_pow_right (by decide) (Nat.mod_lt _ (by decide)))
  have hne : T.set (t / 8) (y ^^^ 2 ^ (t % 8)) ≠ T := fun c => by
    have c2 : (T.set (t / 8) (y ^^^ 2 ^ (t % 8))).getD (t / 8) 0 = T.getD (t / 8) 0 := by rw [c]
    rw [hy2, List.getD, List.getElem?_set, if_pos rfl, if_pos (by omega)] at c2
    exact xor_ne _ _ c2
  have hE := (gzE_row h hx hn (T.set (t / 8) (y ^^^ 2 ^ (t % 8))) (by rw [List.length_set]; omega)).1
  rw [hT] at hE
  rw [e1] at hby
  have hc : chkT (T.set (t / 8) (y ^^^ 2 ^ (t % 8))) T = 10 := by
    unfold chkT
    rw [List.length_set, if_neg (by omega), if_neg (by omega), if_neg hne]
  rw [hc] at hE
  exact gz_err hE (by decide) a _ cap w (by rw [List.length_append, List.length_set]; omega) hf hcap hby (app_lt (app_lt head_val h.val) (set_val hTv _ _ hyx))
/-- the last byte cut off -/
theorem gz_cut {bs out : List Nat} (h : IsOne bs (bestP bs 3) out) (hx : ∀ j, bs.getD j 0 < 256) (hn : bs.length ≤ 3000) (hf : 10 + out.length + 8 ≤ 6000) (a : Option Addr) (cap : Nat) (w : World) (hcap : 10 + out.length + 8 ≤ cap) (hby : BytesIn w a (gzRow bs out)) :
    Calls Tryz.prog 12 #[.slice a (10 + out.length + 8 - 1) cap] w fun e w' => e = .returned (.tuple #[.slice none 0 0, .int .i64 7]) ∧ Below w.heap.size w w' := by
  have hp : (headL ++ out).length = 10 + out.length := by rw [List.length_append]; rfl
  have hTl : (tailL (crcN 0 bs) bs.length).length = 8 := rfl
  have hTv := tail_val (crcN 0 bs) bs.length
  have hb2 := hby.cut (10 + out.length + 8 - 1)
  unfold gzRow at hb2
  generalize hT : tailL (crcN 0 bs) bs.length = T at *
  have e1 : (headL ++ out ++ T).take (10 + out.length + 8 - 1) = headL ++ out ++ T.take 7 := by
    rw [List.take_append, List.take_of_length_le (by omega), hp]
    congr 2
    omega
  have hE := (gzE_row h hx hn (T.take 7) (by rw [List.length_take]; omega)).1
  rw [hT] at hE
  rw [e1] at hb2
  have hc : chkT (T.take 7) T = 7 := by
    unfold chkT
    rw [List.length_take, if_pos (by omega)]
  rw [hc] at hE
  exact gz_err hE (by decide) a _ cap w (by rw [List.length_append, List.length_take]; omega) (by omega) (by omega) hb2 (app_lt (app_lt head_val h.val) (take_val hTv _))

set_option maxHeartbeats 2000000 in
theorem gzb_many (a : Option Addr) (n cap : Nat) (t : Int) (bs : List Nat) (w : World) (hl : bs.length = n) (hcap : n ≤ cap) (hnil : a = none → cap = 0) (hB : BytesIn w a bs) (hx : ∀ j, bs.getD j 0 < 256) (hm : n ≤ 9223372036854775807) (h : 3000 < n) : Calls Tryz.prog 5 #[.slice a n cap, .int .i64 t] w fun e w' => e = .returned (.bool true) ∧ Below w.heap.size w w' := by
  have HPM := hide (gzPack_many a n cap bs w hl hcap hnil hB hx hm h)
  clear hB hx hnil
  go_enter Tryz.func5, Tryz.ntmps5
  go_wp2_with fail
  refine (unhide HPM).mono ?_
  rintro e w1 ⟨rfl, hB1⟩
  have HB1 := hide hB1
  have hz1 := hB1.size
  clear hB1 HPM
  go_wp2_with fail
  refine (zipped_any _).mono ?_
  rintro e w2 ⟨rfl, hB2⟩
  have HB2 := hide ((unhide HB1).trans (hB2.mono hz1))
  have hz2 := (unhide HB2).size
  clear hB2
  go_wp2_with fail
  refine (zipped_any _).mono ?_
  rintro e w3 ⟨rfl, hB3⟩
  have HB3 := hide ((unhide HB2).trans (hB3.mono hz2))
  clear hB3
  go_wp2
  go_ret
  exact ⟨rfl, unhide HB3⟩

set_option maxHeartbeats 4000000 in
theorem gzb_few (a : Option Addr) (n cap : Nat) (at' : Int) (bs : List Nat) (w : World) (hl : bs.length = n) (hcap : n ≤ cap) (hnil : a = none → cap = 0) (hB : BytesIn w a bs) (hx : ∀ j, bs.getD j 0 < 256) (hn : n ≤ 3000) : Calls Tryz.prog 5 #[.slice a n cap, .int .i64 at'] w fun e w' => e = .returned (.bool true) ∧ Below w.heap.size w w' := by
  obtain ⟨i0, hi, hi0, hi1, hi2⟩ := info_parts info_u8
  have HPO : Hid (Calls Tryz.prog 6 #[.slice a n cap] w fun e w' => Below w.heap.size w w' ∧ ∃ b o c out M, M ≤ 6000 ∧ M ≤ c ∧ 18 ≤ M ∧ 10 + out.length + 8 = M ∧ e = .returned (.tuple #[.slice (some ⟨b, o, none⟩) M c, .int .i64 0]) ∧ b < w'.heap.size ∧ IsOne bs (bestP bs 3) out ∧ Bytes w' b o (gzRow bs out)) := hide ((gzPack_ok a n cap bs w hl hcap hnil hB hx hn).mono (by
    rintro e w' ⟨hB, x, c, out, hc, rfl, hI, hby⟩
    have hs := one_small hI hx (by omega)
    obtain ⟨b, o, rfl, hb, hby2⟩ := bytesIn_some hby (by simp [headL])
    rw [← hl] at hby2
    exact ⟨hB, b, o, c, out, _, by omega, hc, by omega, rfl, rfl, hb, hI, hby2⟩))
  have HUB : Hid (∀ (out : List Nat) (M : Nat), 10 + out.length + 8 = M → M ≤ 6000 → IsOne bs (bestP bs 3) out → ∀ (W : World) (x : Option Addr) (c : Nat), M ≤ c → BytesIn W x (gzRow bs out) → (Calls Tryz.prog 12 #[.slice x M c] W fun e w' => Below W.heap.size W w' ∧ ∃ x c, e = .returned (.tuple #[.slice x n c, .int .i64 0]) ∧ BytesIn w' x bs)) := hide (fun out M hM hM6 hI W x c hc hb => by
    subst hM
    have := gzBack_any x c bs out W hI hx (by omega) hM6 hc hb
    rw [hl] at this
    exact this)
  have HUC : Hid (∀ (out : List Nat) (M : Nat), 10 + out.length + 8 = M → M ≤ 6000 → IsOne bs (bestP bs 3) out → ∀ (W : World) (x : Option Addr) (c : Nat), M ≤ c → BytesIn W x (gzRow bs out) → (Calls Tryz.prog 12 #[.slice x (M - 1) c] W fun e w' => e = .returned (.tuple #[.slice none 0 0, .int .i64 7]) ∧ Below W.heap.size W w')) := hide (fun out M hM hM6 hI W x c hc hb => by
    subst hM
    exact gz_cut hI hx (by omega) hM6 x c W hc hb)
  have HUT : Hid (∀ (out : List Nat) (M : Nat), 10 + out.length + 8 = M → M ≤ 6000 → IsOne bs (bestP bs 3) out → ∀ t, t < 64 → ∀ y, (gzRow bs out).getD (M - 8 + t / 8) 0 = y → ∀ (W : World) (x : Option Addr) (c : Nat), M ≤ c → BytesIn W x ((gzRow bs out).set (M - 8 + t / 8) (y ^^^ 2 ^ (t % 8))) → (Calls Tryz.prog 12 #[.slice x M c] W fun e w' => e = .returned (.tuple #[.slice none 0 0, .int .i64 10]) ∧ Below W.heap.size W w')) := hide (fun out M hM hM6 hI t ht y hy W x c hc hb => by
    subst hM
    exact gz_turned hI hx (by omega) hM6 t ht y hy x c W hc hb)
  have hbb : (bs == bs) = true := by simp
  have HBE : Hid (∀ W x c, Below w.heap.size w W → BytesIn W x bs → Calls Tryz.prog 10 #[.slice x n c, .slice a n cap] W fun e w' => e = .returned (.bool true) ∧ w' = W) := hide (fun W x c hW hb => by
    have := bequal_in x a n c n cap bs bs W hl hl hx hx hb (hB.below hW (Nat.le_refl _))
    rw [hbb] at this
    exact this)
  have HGV : Hid (∀ out, IsOne bs (bestP bs 3) out → ∀ j, (gzRow bs out).getD j 0 < 256) := hide (fun out hI => gzRow_val bs out hI.val)
  have HGL : Hid (∀ out, (gzRow bs out).length = 10 + out.length + 8) := hide (fun out => gzRow_len bs out)
  clear hB hx hnil hbb hl
  go_enter Tryz.func5, Tryz.ntmps5
  go_wp2_with fail
  refine (unhide HPO).mono ?_
  rintro e w1 ⟨hB1, b, o, c1, out, M, hM6, hMc, hM18, hM, rfl, hb1, hI, hby1⟩
  have HUB := hide (unhide HUB out M hM hM6 hI)
  have HUC := hide (unhide HUC out M hM hM6 hI)
  have HUT := hide (unhide HUT out M hM hM6 hI)
  have hRl : (gzRow bs out).length = M := by rw [unhide HGL, hM]
  have HRV := hide (unhide HGV out hI)
  generalize gzRow bs out = R at *
  have HB1 := hide hB1
  have hz1 := hB1.size
  have HY1 := hide hby1
  have HRL := hide hRl
  clear hB1 hby1 hI hM HPO HGV HGL hRl
  go_wp2_with fail
  refine (zipped_any _).mono ?_
  rintro e w2 ⟨rfl, hB2⟩
  have HB2 := hide ((unhide HB1).trans (hB2.mono hz1))
  have HY2 := hide ((unhide HY1).below hB2 hb1)
  have hb2 : b < w2.heap.size := Nat.lt_of_lt_of_le hb1 hB2.size
  have hz2 := (unhide HB2).size
  clear hB2 HY1 hb1
  have m1 : ¬ (6000 : Int) < (M : Int) := by omega
  have m2 : ¬ (M : Int) < 8 := by omega
  go_wp2_with fail
  refine (unhide HUB w2 (some ⟨b, o, none⟩) c1 hMc (.inr ⟨b, o, rfl, hb2, unhide HY2⟩)).mono ?_
  rintro e w3 ⟨hB3, x3, c3, rfl, hby3⟩
  have HB3 := hide ((unhide HB2).trans (hB3.mono hz2))
  have HY3 := hide ((unhide HY2).below hB3 hb2)
  have hb3 : b < w3.heap.size := Nat.lt_of_lt_of_le hb2 hB3.size
  have HBE := hide (unhide HBE w3 x3 c3 (unhide HB3) hby3)
  clear hB3 HY2 hb2 hby3
  go_wp2_with fail
  refine (unhide HBE).mono ?_
  rintro e w4 ⟨rfl, rfl⟩
  go_wp2_with fail
  refine (at2_burst at' 64 _ (by omega) (by omega)).mono ?_
  rintro e w5 ⟨t, rfl, ht, rfl⟩
  have hsz := (unhide HB3).size
  have HO0 : Hid ((w5.alloc (.cells #[] 5)).ownsRow w5.heap.size 5 1 (.slice (some ⟨w5.heap.size, 0, none⟩) 0 0) 0 (u8s [])) := hide ⟨rfl, .inr ⟨w5.heap.size, 0, #[], rfl, Nat.le_refl _, heap_alloc_new _ _, Nat.le_refl _, Nat.zero_le _, rfl, rfl⟩⟩
  have HW := hide ((Below.refl w5.heap.size w5).alloc (Nat.le_refl _) (.cells #[] 5))
  have HRC := hide (bytes_cells' ((unhide HY3).below (unhide HW) hb3))
  go_wp2_with (at_builtin; refine wpList_append_own_at _ rfl (.tmp 57) (.tmp 58) 22 rfl w5.heap.size 5 i0 (.int .u8 0) 1 1 Tryz.underlying22 hi hi0 hi1 hi2 rfl (by decide) _ 0 (u8s []) rfl (unhide HO0) ⟨b, o, none⟩ M c1 (u8s R) rfl (by simp [u8s, unhide HRL]) (unhide HRC) (u8s_one' R) (by unfold maxLen; omega) (by omega) (by simp) ?_)
  intro v' w6 hO6 hgrow _ _
  have hW6 := (unhide HW).grown hgrow (unhide HW).size (fun g e => by cases e; exact Nat.le_refl _)
  obtain ⟨g, cg, rfl, hg, hcg⟩ : ∃ g cg, v' = .slice (some ⟨g, 0, none⟩) M cg ∧ w5.heap.size ≤ g ∧ M ≤ cg := by
    rcases hO6.2 with ⟨_, h0⟩ | ⟨g, cg, _, h1, h2, _, h3, _⟩
    · omega
    · exact ⟨g, cg, h1, h2, h3⟩
  have hj : M - 8 + t / 8 < M := by omega
  have c := hO6.cellAt (M - 8 + t / 8) (by omega)
  have f := hO6.frozenAt (M - 8 + t / 8)
  obtain ⟨y, hy⟩ : ∃ y, R.getD (M - 8 + t / 8) 0 = y := ⟨_, rfl⟩
  have cc : w6.cell? ⟨g, M - 8 + t / 8, none⟩ = some (.int .u8 (y : Int)) := by
    rw [c, ← hy]
    have hXl : M - 8 + t / 8 < R.length := by rw [unhide HRL]; exact hj
    simp [u8s, List.getD, hXl]
  have hy1 := unhide HRV (M - 8 + t / 8)
  rw [hy] at hy1
  have HYY := hide hy
  have HW6 := hide hW6
  have HO6 := hide hO6
  have hidx : (M : Int) - 8 + (t : Int) / 8 = ((M - 8 + t / 8 : Nat) : Int) := by omega
  clear c hy HO0 HW HRC hO6 hgrow hW6 HBE HUB
  go_wp2
  go_region
  all_goals go_wp2_with fail
  rw [xor_bit hy1 (Nat.mod_lt _ (by decide))]
  generalize hW7 : World.drew (World.setCell _ _ _) = w7
  have hB57 : Below w5.heap.size w5 w7 := by rw [← hW7]; exact ((unhide HW6).setCell hg _).drew
  have hO7 : w7.ownsRow w5.heap.size 5 1 (.slice (some ⟨g, 0, none⟩) M cg) M (u8s (R.set (M - 8 + t / 8) (y ^^^ 2 ^ (t % 8)))) := by
    have e : u8s (R.set (M - 8 + t / 8) (y ^^^ 2 ^ (t % 8))) = (u8s R).set (M - 8 + t / 8) (.int .u8 ((y ^^^ 2 ^ (t % 8) : Nat) : Int)) := by rw [u8s, List.map_set]
    have h6 : w6.ownsRow w5.heap.size 5 1 (.slice (some ⟨g, 0, none⟩) M cg) M (u8s R) := by simpa using unhide HO6
    have hst := h6.stored (M - 8 + t / 8) (.int .u8 ((y ^^^ 2 ^ (t % 8) : Nat) : Int))
    rw [e, ← hW7]
    exact hst.1
  have HUT2 := hide (unhide HUT t ht y (unhide HYY) w7 (some ⟨g, 0, none⟩) cg hcg (BytesIn.own hO7))
  have HB7 := hide hB57
  clear hW7 hB57 hO7 HUT HO6 HW6 HYY hidx f cc
  refine (unhide HUT2).mono ?_
  rintro e w8 ⟨rfl, hB8⟩
  have HB8 := hide ((unhide HB7).trans (hB8.mono (unhide HB7).size))
  have HY8 := hide ((unhide HY3).below (unhide HB8) hb3)
  have hb8 : b < w8.heap.size := Nat.lt_of_lt_of_le hb3 (unhide HB8).size
  have HBT := hide ((unhide HB3).trans ((unhide HB8).mono (unhide HB3).size))
  clear hB8 HB7 HY3 HUT2
  have hm1 : (M : Int) - 1 = ((M - 1 : Nat) : Int) := by omega
  have s1 : ((M - 1 : Nat) : Int) ≤ (c1 : Int) := by omega
  dsimp only
  go_wp2_with fail
  refine (unhide HUC w8 (some ⟨b, o, none⟩) c1 hMc (.inr ⟨b, o, rfl, hb8, unhide HY8⟩)).mono ?_
  rintro e w9 ⟨rfl, hB9⟩
  have HB9 := hide ((unhide HBT).trans (hB9.mono (unhide HBT).size))
  clear hB9
  go_wp2
  go_ret
  exact ⟨rfl, unhide HB9⟩
end Go.Proofs.YtfoaaamcpknjnadGreat

/-
  Rows of bytes as arguments.
-/
namespace Go.Proofs.YtfoaaamcpknjnadGreat
open Go.RowKit Go.ChangeShapes Go.WideShapes Go.ChangeAt Go.Deep
set_option linter.unusedVariables false

theorem add_plain (b o j : Nat) : (⟨b, o, none⟩ : Addr).add j = ⟨b, o + j, none⟩ := by unfold Addr.add; split <;> simp_all

theorem cells5 : Tryz.prog.cellsOf 5 = 1 := by kernel_rfl

theorem open_bytes {H : Type} {enc : TypeId × Value → H} {w : World} {fuel : Nat} {a0 : Option Addr} {l0 c0 : Nat} {x : DataW H × List MemPlace}
    (h : DataW.trod enc Tryz.prog w 0 (fun _ => true) true fuel 22 [.slice a0 l0 c0] = some x) : l0 ≤ maxLen ∧ ∃ xs, xs.length = l0 ∧ (∀ j, xs.getD j 0 < 256) ∧ BytesIn w a0 xs := by
  rcases open_ints Tryz.underlying22 Tryz.underlying5 cells5 h with ⟨hcs, _⟩ | ⟨a, l, c, zs, hcs, _, hl, hm, hz, _, hcell, hwz⟩
  · simp at hcs
    obtain ⟨rfl, rfl, rfl⟩ := hcs
    exact ⟨Nat.zero_le _, [], rfl, fun j => by simp, .inl rfl⟩
  · simp at hcs
    obtain ⟨rfl, rfl, rfl⟩ := hcs
    have hz' : zs.length = c0 := by simpa using hz
    have hb : ∀ j, j < zs.length → 0 ≤ zs.getD j 0 ∧ zs.getD j 0 ≤ 255 := by
      intro j hj
      have hmem : zs.getD j 0 ∈ zs := by simp [List.getD, hj]
      have := hwz _ hmem
      simpa [Lit.wf, IntKind.min, IntKind.max, IntKind.signed, IntKind.bits] using this
    have e1 : ∀ j, j < l0 → ((zs.take l0).map Int.toNat).getD j 0 = (zs.getD j 0).toNat := by
      intro j hj
      have : j < zs.length := by omega
      simp [List.getD, hj, this]
    refine ⟨Nat.le_trans hl hm, (zs.take l0).map Int.toNat, by simp; omega, ?_, ?_⟩
    · intro j
      by_cases hj : j < l0
      · rw [e1 j hj]
        have := hb j (by omega)
        omega
      · have : ((zs.take l0).map Int.toNat).length ≤ j := by simp; omega
        rw [List.getD_eq_getElem?_getD, List.getElem?_eq_none this]; simp
    by_cases h0 : l0 = 0
    · subst h0
      exact .inl rfl
    · obtain ⟨b, o, spot⟩ := a
      have hc := hcell 0 (by omega)
      have hspot : spot = none := by simpa [Addr.add] using World.cell?_spot hc
      subst hspot
      refine .inr ⟨b, o, rfl, ?_, ?_⟩
      · have := World.block_lt_of_cell? _ _ hc
        simpa [Addr.add] using this
      · intro j hj
        have hj' : j < l0 := by simp at hj; omega
        have h1 := hcell j (by omega)
        rw [e1 j hj', Int.toNat_of_nonneg (hb j (by omega)).1]
        rw [add_plain] at h1
        exact h1
theorem open_cap {H : Type} {enc : TypeId × Value → H} {w : World} {fuel : Nat} {a0 : Option Addr} {l0 c0 : Nat} {x : DataW H × List MemPlace}
    (h : DataW.trod enc Tryz.prog w 0 (fun _ => true) true fuel 22 [.slice a0 l0 c0] = some x) : l0 ≤ c0 := by
  rcases open_ints Tryz.underlying22 Tryz.underlying5 cells5 h with ⟨hcs, _⟩ | ⟨a, l, c, zs, hcs, _, hl, hm, hz, _, hcell, hwz⟩
  · simp at hcs
    obtain ⟨rfl, rfl, rfl⟩ := hcs
    exact Nat.le_refl _
  · simp at hcs
    obtain ⟨rfl, rfl, rfl⟩ := hcs
    exact hl
end Go.Proofs.YtfoaaamcpknjnadGreat

/-
  How the arguments of a law lie in memory: a slice of numbers, of bytes is nil, or empty, or leads to a row that holds them.
-/
namespace Go.Proofs.YtfoaaamcpknjnadGreat
open Go.RowKit Go.ChangeShapes Go.WideShapes Go.ChangeAt Go.Deep
set_option linter.unusedVariables false

theorem cells3 : Tryz.prog.cellsOf 3 = 1 := by kernel_rfl
theorem open_nums {H : Type} {enc : TypeId × Value → H} {w : World} {fuel : Nat} {a0 : Option Addr} {l0 c0 : Nat} {x : DataW H × List MemPlace}
    (h : DataW.trod enc Tryz.prog w 0 (fun _ => true) true fuel 37 [.slice a0 l0 c0] = some x) : l0 ≤ maxLen ∧ ∃ xs, xs.length = l0 ∧ RowIn .i64 w a0 xs := by
  rcases open_ints Tryz.underlying37 Tryz.underlying3 cells3 h with ⟨hcs, _⟩ | ⟨a, l, c, zs, hcs, _, hl, hm, hz, _, hcell, hwz⟩
  · simp at hcs
    obtain ⟨rfl, rfl, rfl⟩ := hcs
    exact ⟨Nat.zero_le _, [], rfl, .inl rfl⟩
  · simp at hcs
    obtain ⟨rfl, rfl, rfl⟩ := hcs
    refine ⟨Nat.le_trans hl hm, zs.take l0, by simp at hz; simp; omega, ?_⟩
    by_cases h0 : l0 = 0
    · subst h0
      exact .inl rfl
    · obtain ⟨b, o, spot⟩ := a
      have hz' : zs.length = c0 := by simpa using hz
      have hc := hcell 0 (by omega)
      have hspot : spot = none := by simpa [Addr.add] using World.cell?_spot hc
      subst hspot
      refine .inr ⟨b, o, rfl, ?_, ?_⟩
      · have := World.block_lt_of_cell? _ _ hc
        simpa [Addr.add] using this
      · intro j hj
        have hj' : j < l0 := by simp at hj; omega
        have := hcell j (by omega)
        have e : (zs.take l0).getD j 0 = zs.getD j 0 := by simp [List.getD, hj']
        rw [e]
        rw [add_plain] at this
        exact this

end Go.Proofs.YtfoaaamcpknjnadGreat

/-
  A number of 32 bits as an argument.
-/
namespace Go.Proofs.YtfoaaamcpknjnadGreat
open Go.RowKit Go.ChangeShapes Go.WideShapes Go.ChangeAt Go.Deep
theorem wf_u32 {n : Int} (h : (Lit.int .u32 n).wf = true) : 0 ≤ n ∧ n < 4294967296 := by
  simp only [Lit.wf, IntKind.min, IntKind.max, IntKind.signed, IntKind.bits, Bool.and_eq_true, decide_eq_true_eq, Bool.false_eq_true, if_false] at h
  omega
/-- five arguments -/
theorem trodAll_five {H : Type} {enc : TypeId × Value → H} {P : Program} {w : World} {base : Nat} {sp : Nat → Bool} {held : Bool} {t0 t1 t2 t3 t4 : TypeId} {args : Array Value} {ds : List (DataW H)} {ps : List MemPlace} (h : DataW.TrodAll enc P w base sp held [t0, t1, t2, t3, t4] args.toList ds ps) :
    ∃ v0 v1 v2 v3 v4 d0 d1 d2 d3 d4 p0 p1 p2 p3 p4, args = #[v0, v1, v2, v3, v4] ∧ ds = [d0, d1, d2, d3, d4] ∧ ps = p0 ++ p1 ++ p2 ++ p3 ++ p4 ∧ DataW.Trod enc P w base sp held t0 v0 d0 p0 ∧ DataW.Trod enc P w base sp held t1 v1 d1 p1 ∧ DataW.Trod enc P w base sp held t2 v2 d2 p2 ∧ DataW.Trod enc P w base sp held t3 v3 d3 p3 ∧ DataW.Trod enc P w base sp held t4 v4 d4 p4 := by
  obtain ⟨v0, _, d0, _, p0, _, ha, rfl, rfl, h0, h⟩ := trodAll_cons h
  obtain ⟨v1, _, d1, _, p1, _, rfl, rfl, rfl, h1, h⟩ := trodAll_cons h
  obtain ⟨v2, _, d2, _, p2, _, rfl, rfl, rfl, h2, h⟩ := trodAll_cons h
  obtain ⟨v3, _, d3, _, p3, _, rfl, rfl, rfl, h3, h⟩ := trodAll_cons h
  obtain ⟨v4, _, d4, _, p4, _, rfl, rfl, rfl, h4, h⟩ := trodAll_cons h
  obtain ⟨rfl, rfl, rfl⟩ := trodAll_nil h
  exact ⟨v0, v1, v2, v3, v4, d0, d1, d2, d3, d4, p0, p1, p2, p3, p4, by cases args; simp_all, rfl, by simp, h0, h1, h2, h3, h4⟩
theorem bytes5 : Tryz.prog.bytesOf 5 = 1 := by kernel_rfl
/-- no row of bytes is longer than what the reach allows -/
theorem open_size {H : Type} {enc : TypeId × Value → H} {w : World} {fuel : Nat} {a0 : Option Addr} {l0 c0 : Nat} {d : DataW H} {p : List MemPlace}
    (h : DataW.trod enc Tryz.prog w 0 (fun _ => true) true fuel 22 [.slice a0 l0 c0] = some (d, p)) {ts : List TypeId} {ds : List (DataW H)} {j : Nat}
    (hsz : (DataW.weightsEach Tryz.prog ts ds).all (· ≤ reachBytes) = true) (ht : ts[j]? = some 22) (hd : ds[j]? = some d) : l0 ≤ 140737488351232 := by
  rcases open_ints Tryz.underlying22 Tryz.underlying5 cells5 h with ⟨hcs, _⟩ | ⟨a, l, c, zs, hcs, _, hl, hm, hz, hx, hcell, hwz⟩
  · simp at hcs
    obtain ⟨rfl, rfl, rfl⟩ := hcs
    omega
  · simp at hcs
    obtain ⟨rfl, rfl, rfl⟩ := hcs
    have hx1 := congrArg Prod.fst hx
    simp only at hx1
    subst hx1
    have h1 := sized_slice hsz ht hd Tryz.underlying22
    rw [bytes5, Nat.mul_one] at h1
    have h2 : (lits (H := H) .u8 (zs.take l0)).length = l0 := by
      simp [lits]
      simp at hz
      omega
    have : reachBytes = 140737488351232 := rfl
    omega
end Go.Proofs.YtfoaaamcpknjnadGreat
