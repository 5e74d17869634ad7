/-
  What was packed is read by the document's own reader: blocks. Of bits alone.
-/
import Derived.Test.YtfoaaamcpknjnadGreatQ49
import Derived.Test.YtfoaaamcpknjnadGreatQ26
import Derived.Test.YtfoaaamcpknjnadGreatQ3
import Derived.Test.YtfoaaamcpknjnadGreatQ47
import Derived.Test.YtfoaaamcpknjnadGreatQ48
namespace Go.Proofs.YtfoaaamcpknjnadGreat
set_option linter.unusedVariables false
set_option maxRecDepth 100000

/-! tokens behind other bytes -/
theorem copyN_shift (X : List Nat) (d : Nat) : ∀ (n : Nat) (acc : List Nat), 1 ≤ d → d ≤ acc.length → copyN (X ++ acc) d n = X ++ copyN acc d n
  | 0, acc, _, _ => rfl
  | n + 1, acc, h1, h2 => by
    rw [copyN, copyN]
    have e : (X ++ acc).getD ((X ++ acc).length - d) 0 = acc.getD (acc.length - d) 0 := by
      simp only [List.getD, List.length_append]
      rw [List.getElem?_append_right (by omega), show X.length + acc.length - d - X.length = acc.length - d by omega]
    rw [e, List.append_assoc, copyN_shift X d n _ h1 (by simp; omega)]
theorem putT_shift (X acc : List Nat) (t : Tk) (h : errOne t acc.length = 0) : putT t (X ++ acc) = X ++ putT t acc := by
  unfold putT
  rcases errOne_right h with ⟨a, b⟩ | ⟨a, b, c, d, e⟩
  · rw [if_pos a, if_pos a, List.append_assoc]
  · rw [if_neg (by omega), if_neg (by omega), copyN_shift X _ _ acc (by omega) (by omega)]
theorem errOne_more {t : Tk} {n : Nat} (x : Nat) (h : errOne t n = 0) : errOne t (x + n) = 0 := by
  unfold errOne
  rcases errOne_right h with ⟨a, b⟩ | ⟨a, b, c, d, e⟩
  · rw [if_pos ⟨a, b⟩]
  · rw [if_neg (by omega), if_neg (by rintro (h1 | h1); omega; exact h1 a), if_neg (by omega), if_neg (by omega)]
theorem expF_shift (X : List Nat) : ∀ (ts : List Tk) (acc : List Nat), chkF ts acc.length = 0 → expF ts (X ++ acc) = X ++ expF ts acc
  | [], acc, _ => rfl
  | t :: ts, acc, h => by
    rw [chkF] at h
    by_cases e : errOne t acc.length = 0
    · rw [if_pos e] at h
      rw [expF, expF, putT_shift X acc t e, expF_shift X ts _ (by rw [putT_length]; exact h)]
    · rw [if_neg e] at h; exact absurd h e
theorem chkF_more (x : Nat) : ∀ (ts : List Tk) (acc : List Nat), chkF ts acc.length = 0 → x + (expF ts acc).length ≤ 3000 → chkF ts (x + acc.length) = 0
  | [], acc, _, h => by
    rw [expF] at h
    rw [chkF, if_neg (by omega)]
  | t :: ts, acc, h, h2 => by
    rw [chkF] at h
    by_cases e : errOne t acc.length = 0
    · rw [if_pos e] at h
      rw [expF] at h2
      have := chkF_more x ts (putT t acc) (by rw [putT_length]; exact h) h2
      rw [putT_length, ← Nat.add_assoc] at this
      rw [chkF, if_pos (errOne_more x e)]
      exact this
    · rw [if_neg e] at h; exact absurd h e
theorem toks_behind {bs out : List Nat} (h : out.length + bs.length ≤ 3000) : chkF (toks bs) out.length = 0 ∧ expF (toks bs) out = out ++ bs := by
  have c := toks_chk bs (by omega)
  have e := toks_exp bs
  refine ⟨?_, ?_⟩
  · have := chkF_more out.length (toks bs) [] c (by rw [e]; exact h)
    simpa using this
  · have := expF_shift out (toks bs) [] c
    rw [e, List.append_nil] at this
    exact this
theorem even_behind : ∀ (bs out : List Nat), out.length + bs.length ≤ 3000 → chkF (evenT bs) out.length = 0 ∧ expF (evenT bs) out = out ++ bs
  | [], out, h => by
    simp only [List.length_nil] at h
    refine ⟨?_, by simp [evenT, expF]⟩
    show chkF [] out.length = 0
    rw [chkF, if_neg (by omega)]
  | b :: bs, out, h => by
    simp only [List.length_cons] at h
    have e1 : evenT (b :: bs) = (b, 0, 0) :: evenT bs := rfl
    have e2 : errOne (b, 0, 0) out.length = 0 := by unfold errOne; rw [if_pos ⟨rfl, rfl⟩]
    have e3 : wid (b, 0, 0) = 1 := by unfold wid; rw [if_pos rfl]
    have e4 : putT (b, 0, 0) out = out ++ [b] := by unfold putT; rw [if_pos rfl]
    obtain ⟨h1, h2⟩ := even_behind bs (out ++ [b]) (by simp; omega)
    rw [e1, chkF, if_pos e2, e3, expF, e4, h2]
    refine ⟨?_, by simp⟩
    simpa using h1
theorem putIs_ge (a b : List Int) (hA : Good a) : ∀ ts : List Tk, Has a b (itsOf ts) → ts.length + 1 ≤ (putIs a b (itsOf ts)).length
  | [], h => by
    have hp : putIs a b (itsOf []) = codeT a 256 := by simp [putIs, putI, itsOf, itsF]
    obtain ⟨k1, k2⟩ := h.1 256 (by simp [itsOf])
    rw [hp, code_len a hA, List.length_nil]
    omega
  | t :: ts, h => by
    have ei : itsOf (t :: ts) = itOf t ++ itsOf ts := by simp [itsOf, itsF]
    rw [ei] at h ⊢
    have ih := putIs_ge a b hA ts h.app.2
    have h1 : 1 ≤ (putIs a b (itOf t)).length := by
      have hh := h.app.1
      unfold itOf at hh ⊢
      by_cases e : t.2.1 = 0
      · rw [if_pos e] at hh ⊢
        obtain ⟨k1, k2⟩ := hh.1 t.1 (by simp)
        simp only [putIs, putI, List.flatMap_cons, List.flatMap_nil, List.length_append, code_len a hA]
        omega
      · rw [if_neg e] at hh ⊢
        obtain ⟨k1, k2⟩ := hh.1 (manyI t.2.1.toNat).1 (by simp)
        simp only [putIs, putI, List.flatMap_cons, List.length_append, code_len a hA]
        omega
    rw [putIs_app, List.length_append, List.length_cons]
    omega

theorem fix_has' {ts : List Tk} (hV : ∀ t ∈ ts, VT t) : Has fixA fixB (itsOf ts) := by
  have hi := itsOf_vi hV
  have a1 : (List.range 286).all (fun k => decide (k < fixA.length ∧ 0 < fixA.getD k 0)) = true := by decide +kernel
  have a2 : (List.range 30).all (fun k => decide (k < fixB.length ∧ 0 < fixB.getD k 0)) = true := by decide +kernel
  refine ⟨fun k hk => ?_, fun k hk => ?_⟩
  · have h : k < 286 := hi _ hk
    exact of_decide_eq_true (List.all_eq_true.1 a1 k (by simpa using h))
  · have h : k < 30 := hi _ hk
    exact of_decide_eq_true (List.all_eq_true.1 a2 k (by simpa using h))

/-! stored bytes -/
theorem blk_pre (S : List Bool) (bs : List Nat) (k : Nat) (l : Bool) : ∃ X, blkB S bs k l = S ++ X := by
  unfold blkB storB
  split
  · exact ⟨_, by simp only [List.append_assoc]; rfl⟩
  · split
    · exact ⟨_, by simp only [List.append_assoc]; rfl⟩
    · exact ⟨_, by simp only [List.append_assoc]; rfl⟩
theorem pack_pre : ∀ (its : List (List Nat × Nat)) (S : List Bool), ∃ X, packF its S = S ++ X
  | [], S => ⟨[], by simp [packF]⟩
  | (bs, k) :: r, S => by
    rw [packF]
    obtain ⟨X, hX⟩ := pack_pre r (blkB S bs k (decide (r = [])))
    obtain ⟨Y, hY⟩ := blk_pre S bs k (decide (r = []))
    exact ⟨Y ++ X, by rw [hX, hY, List.append_assoc]⟩
theorem numBits_bit (l : Bool) : numBits (if l then 1 else 0) 1 = [l] := by cases l <;> rfl
theorem ublock_ok (S : List Bool) (bs : List Nat) (k : Nat) (l : Bool) (row R : List Bool) (u : US) (hrow : row = blkB S bs k l ++ R) (hp : u.p = S.length) (he : u.e = 0) (hk : k ≤ 2) (hb : ∀ j, bs.getD j 0 < 256) (hl : u.out.length + bs.length ≤ 3000) :
    ublock row u = (l, { u with p := (blkB S bs k l).length, out := u.out ++ bs, ks := u.ks ++ [k] }) := by
  obtain ⟨S2, hS2⟩ : ∃ S2, S ++ [l] ++ numBits k 2 = S2 := ⟨_, rfl⟩
  have l2 : S2.length = S.length + 3 := by rw [← hS2]; simp [numBits_length]
  have hpre : ∃ X, blkB S bs k l = S2 ++ X ∧ (k = 0 → blkB S bs k l = storB S2 bs) ∧ (k = 1 → X = fixBits (toks bs)) ∧ (k = 2 → X = dynB bs) := by
    unfold blkB
    rw [hS2]
    by_cases h0 : k = 0
    · rw [if_pos h0]
      exact ⟨_, by unfold storB; simp only [List.append_assoc]; rfl, fun _ => rfl, fun h => by omega, fun h => by omega⟩
    · rw [if_neg h0]
      by_cases h1 : k = 1
      · rw [if_pos h1]
        exact ⟨_, rfl, fun h => by omega, fun _ => rfl, fun h => by omega⟩
      · rw [if_neg h1]
        exact ⟨_, rfl, fun h => by omega, fun h => by omega, fun _ => rfl⟩
  obtain ⟨X, hX, hX0, hX1, hX2⟩ := hpre
  have hlen : row.length = S2.length + X.length + R.length := by rw [hrow, hX]; simp only [List.length_append]
  have d0 : row.drop u.p = numBits (if l then 1 else 0) 1 ++ (numBits k 2 ++ (X ++ R)) := by
    rw [hrow, hX, hp, ← hS2, numBits_bit]
    simp only [List.append_assoc]
    rw [List.drop_left]
  have c1 := uget_at row 1 (if l then 1 else 0) u _ he (by omega) (by cases l <;> decide) d0
  have d1 := drop_more d0
  rw [numBits_length] at d1
  have c2 := uget_at row 2 k { u with p := u.p + 1 } _ he (by simp only; omega) (by omega) d1
  have d2 := drop_more d1
  rw [numBits_length] at d2
  have hl1 : decide ((if l then 1 else 0) = 1) = l := by cases l <;> rfl
  unfold ublock
  simp only [c1, c2]
  rw [if_neg (show ¬ (u.e ≠ 0) from fun h9 => h9 he)]
  by_cases h0 : k = 0
  · subst h0
    rw [if_pos rfl, hl1]
    have hst := hX0 rfl
    have hfr := freeN_lt S2.length
    have hal : (u.p + 1 + 2 + 7) / 8 * 8 = (padB S2).length := by
      rw [padB_length, hp, show S.length + 1 + 2 = S2.length by omega]
      have := freeN_sum S2.length
      first | omega | skip
    have hsl : (storB S2 bs).length = (padB S2).length + 32 + 8 * bs.length := by
      unfold storB padB
      simp only [List.length_append, numBits_length, rowB_length, List.length_replicate]
    have hrl : row.length = (padB S2).length + 32 + 8 * bs.length + R.length := by rw [hrow, hst, List.length_append, hsl]
    have d3 : row.drop (padB S2).length = numBits bs.length 16 ++ (numBits (65535 - bs.length) 16 ++ (rowB bs bs.length ++ R)) := by
      rw [hrow, hst]
      have e : storB S2 bs = padB S2 ++ (numBits bs.length 16 ++ (numBits (65535 - bs.length) 16 ++ rowB bs bs.length)) := by
        unfold storB padB
        simp only [List.append_assoc]
      rw [e, List.append_assoc, List.drop_left]
      simp only [List.append_assoc]
    have c3 := uget_at row 16 bs.length { u with p := (padB S2).length } _ he (by simp only; omega) (by omega) d3
    have d4 := drop_more d3
    rw [numBits_length] at d4
    have c4 := uget_at row 16 (65535 - bs.length) { u with p := (padB S2).length + 16 } _ he (by simp only; omega) (by omega) d4
    have d5 := drop_more d4
    rw [numBits_length] at d5
    have c5 := ustore_ok row bs { u with p := (padB S2).length + 16 + 16 } R he (by simp only; omega) hb hl d5
    unfold ustored
    simp only [hal, c3, c4]
    rw [if_neg (show ¬ (u.e = 0 ∧ bs.length + (65535 - bs.length) ≠ 65535) by omega), c5, hst, hsl]
    unfold ukept
    simp only [Nat.add_assoc]
    congr 2
    omega
  · rw [if_neg h0]
    have key : ∀ ts a b (u2 : US) (R2 : List Bool), u2.e = 0 → u2.out = u.out → u2.ks = u.ks → u2.p ≤ row.length → Good a → Good b → (∀ t ∈ ts, VT t) → Has a b (itsOf ts) → (ts = toks bs ∨ ts = evenT bs) → row.drop u2.p = putIs a b (itsOf ts) ++ R2 → utok row a b row.length u2 = { u with p := u2.p + (putIs a b (itsOf ts)).length, out := u.out ++ bs } := by
      intro ts a b u2 R2 e2 o2 k2 p2 ga gb hv hh ht hd
      have hbe : chkF ts u2.out.length = 0 ∧ expF ts u2.out = u2.out ++ bs := by
        rw [o2]
        rcases ht with rfl | rfl
        · exact toks_behind hl
        · exact even_behind bs u.out hl
      have hge := putIs_ge a b ga ts hh
      have hr := congrArg List.length hd
      rw [List.length_drop, List.length_append] at hr
      rw [utok_ok a b ga gb row ts row.length u2 R2 (by omega) e2 p2 hbe.1 (fun t h9 => (hv t h9).1) hh hd, hbe.2, o2, k2, e2, he]
    by_cases h1 : k = 1
    · subst h1
      have hx1 := hX1 rfl
      subst hx1
      have hV := toks_vt hb (by omega : bs.length ≤ 3000)
      unfold uopen
      rw [if_pos rfl]
      simp only
      rw [if_neg (show ¬ (u.e ≠ 0) from fun h9 => h9 he), hl1]
      have hfl : (fixBits (toks bs)).length = (putIs fixA fixB (itsOf (toks bs))).length := rfl
      rw [key (toks bs) fixA fixB { u with p := u.p + 1 + 2 } R he rfl rfl (by simp only; omega) (errL_good (by decide +kernel)) (errL_good (by decide +kernel)) hV (fix_has' hV) (.inl rfl) d2]
      unfold ukept
      simp only
      rw [hX, List.length_append, hfl]
      congr 2
      omega
    · obtain rfl : k = 2 := by omega
      have hx2 := hX2 rfl
      subst hx2
      obtain ⟨ts, a, b, hpl, hd, ho, hv, hlt, hte⟩ := dynB_is hb (by omega : bs.length ≤ 3000)
      rw [hpl] at d2 hX hlen
      unfold planB at d2 hX hlen
      rw [List.append_assoc] at d2
      have hR2 := congrArg List.length d2
      rw [List.length_drop, List.length_append] at hR2
      have t1 := utold_ok a b (ownD (a ++ b)) row { u with p := u.p + 1 + 2 } _ he (by simp only; omega) hd.ga hd.gb ho.go hd.la hd.la2 hd.lb hd.lb2 ho.lo ho.vo hd.end' ho.has d2
      have d6 := drop_more d2
      have hop : uopen row 2 { u with p := u.p + 1 + 2 } = utold row { u with p := u.p + 1 + 2 } := rfl
      rw [hop, t1]
      simp only
      rw [if_neg (show ¬ (u.e ≠ 0) from fun h9 => h9 he), hl1]
      rw [key ts a b { u with p := u.p + 1 + 2 + (headB a b (ownD (a ++ b))).length } R he rfl rfl (by simp only; omega) hd.ga hd.gb hv hd.has (hte 0 (by omega) [] rfl) d6]
      unfold ukept
      simp only
      rw [hX, List.length_append, List.length_append]
      congr 2
      omega
/-- a row of blocks is read -/
theorem blocks_read (row R : List Bool) : ∀ (its : List (List Nat × Nat)) (S : List Bool) (u : US) (f : Nat), its ≠ [] → its.length ≤ f → row = packF its S ++ R → u.p = S.length → u.e = 0 → (∀ i ∈ its, i.2 ≤ 2 ∧ ∀ j, i.1.getD j 0 < 256) → u.out.length + (its.flatMap Prod.fst).length ≤ 3000 →
    ublocks row f u = { u with p := (packF its S).length, out := u.out ++ its.flatMap Prod.fst, ks := u.ks ++ its.map Prod.snd }
  | [], S, u, f, h, _, _, _, _, _, _ => absurd rfl h
  | (bs, k) :: r, S, u, f, _, hf, hrow, hp, he, hi, hl => by
    obtain ⟨f', rfl⟩ : ∃ f', f = f' + 1 := ⟨f - 1, by simp at hf; omega⟩
    rw [List.flatMap_cons, List.length_append] at hl
    simp only at hl
    obtain ⟨hk, hb⟩ := hi (bs, k) (by simp)
    rw [packF] at hrow ⊢
    obtain ⟨X, hX⟩ := pack_pre r (blkB S bs k (decide (r = [])))
    have hb1 := ublock_ok S bs k (decide (r = [])) row (X ++ R) u (by rw [hrow, hX, List.append_assoc]) hp he hk hb (by omega)
    by_cases e : r = []
    · subst e
      rw [ublocks, hb1]
      simp [packF]
    · rw [decide_eq_false e] at hb1 hrow ⊢
      rw [ublocks, hb1]
      simp only
      rw [if_pos (by simpa using he), blocks_read row R r (blkB S bs k false) { u with p := (blkB S bs k false).length, out := u.out ++ bs, ks := u.ks ++ [k] } f' e (by simp at hf; omega) hrow rfl he (fun i h9 => hi i (by simp [h9])) (by simp only [List.length_append]; omega)]
      simp [List.flatMap_cons]
theorem pack_pos : ∀ (its : List (List Nat × Nat)) (S : List Bool), S.length + 3 * its.length ≤ (packF its S).length
  | [], S => by simp [packF]
  | (bs, k) :: r, S => by
    rw [packF, List.length_cons]
    have h1 := pack_pos r (blkB S bs k (decide (r = [])))
    have h2 : S.length + 3 ≤ (blkB S bs k (decide (r = []))).length := by
      unfold blkB storB
      split
      · simp only [List.length_append, numBits_length, List.length_cons, List.length_nil, List.length_replicate]; omega
      · split <;> simp only [List.length_append, numBits_length, List.length_cons, List.length_nil] <;> omega
    omega
/-- what is packed is unpacked by the document's own reader -/
theorem unpk_pack (its : List (List Nat × Nat)) (R : List Bool) (hne : its ≠ []) (hi : ∀ i ∈ its, i.2 ≤ 2 ∧ ∀ j, i.1.getD j 0 < 256) (hl : (its.flatMap Prod.fst).length ≤ 3000) :
    unpk (packF its [] ++ R) = ⟨(packF its []).length, its.flatMap Prod.fst, its.map Prod.snd, 0⟩ := by
  have h1 := pack_pos its []
  unfold unpk
  rw [blocks_read (packF its [] ++ R) R its [] ⟨0, [], [], 0⟩ _ hne (by rw [List.length_append]; simp at h1; omega) rfl rfl rfl hi (by simpa using hl)]
  simp
end Go.Proofs.YtfoaaamcpknjnadGreat

/-
  How many bits a row of blocks has at most. Of bits alone.
-/
namespace Go.Proofs.YtfoaaamcpknjnadGreat
set_option linter.unusedVariables false
set_option maxRecDepth 100000

def bndK (k n : Nat) : Nat := if k = 0 then 47 + 8 * n else if k = 1 then 10 + 9 * n else 3210 + 9 * n
theorem fixA_good' : Good fixA := errL_good (by decide +kernel)
theorem fixB_good' : Good fixB := errL_good (by decide +kernel)
theorem fixA_le : (List.range 286).all (fun k => decide ((fixA.getD k 0).toNat ≤ 9 ∧ (257 ≤ k → (fixA.getD k 0).toNat ≤ 8) ∧ (256 ≤ k → k ≤ 264 → (fixA.getD k 0).toNat ≤ 7))) = true := by decide +kernel
theorem fixA_at' {k : Nat} (h : k < 286) : (codeT fixA k).length ≤ 9 ∧ (257 ≤ k → (codeT fixA k).length ≤ 8) ∧ (256 ≤ k → k ≤ 264 → (codeT fixA k).length ≤ 7) := by
  rw [code_len fixA fixA_good']
  exact of_decide_eq_true (List.all_eq_true.1 fixA_le k (by simpa using h))
theorem fixB_le : (List.range 30).all (fun k => decide ((fixB.getD k 0).toNat ≤ 5)) = true := by decide +kernel
theorem fixB_at' {k : Nat} (h : k < 30) : (codeT fixB k).length ≤ 5 := by
  rw [code_len fixB fixB_good']
  exact of_decide_eq_true (List.all_eq_true.1 fixB_le k (by simpa using h))
def manySmall (n : Nat) : Bool := decide (n ≤ 10 → (manyI n).1 ≤ 264)
theorem many_small_all : (List.range 256).all (fun n => manySmall (n + 3)) = true := by decide +kernel
theorem many_small {n : Nat} (h3 : 3 ≤ n) (h : n ≤ 10) : (manyI n).1 ≤ 264 := by
  have := List.all_eq_true.1 many_small_all (n - 3) (by simp; omega)
  rw [show n - 3 + 3 = n by omega] at this
  exact of_decide_eq_true this h
theorem fix_one {t : Tk} {n : Nat} (hv : VT t) (he : errOne t n = 0) : (putIs fixA fixB (itOf t)).length ≤ 9 * wid t := by
  obtain ⟨h0, h1⟩ := hv
  unfold itOf wid
  rcases h1 with e | ⟨e1, e2, e3, e4⟩
  · rw [if_pos e, if_pos e]
    simp only [putIs, putI, List.flatMap_cons, List.flatMap_nil, List.length_append, List.length_nil]
    have := (fixA_at' (k := t.1) (by omega)).1
    omega
  · rw [if_neg (by omega), if_neg (by omega)]
    obtain ⟨m1, m2, m3, m4, m5, m6, m7⟩ := many_is (n := t.2.1.toNat) (by omega) (by omega)
    obtain ⟨f1, f2, f3, f4, f5⟩ := far_is (d := t.2.2.toNat) (by omega) (by omega)
    have a1 := fixA_at' (k := (manyI t.2.1.toNat).1) (by omega)
    have a2 := fixB_at' (k := (farI t.2.2.toNat).1) (by omega)
    simp only [putIs, putI, List.flatMap_cons, List.flatMap_nil, List.length_append, List.length_nil, numBits_length]
    by_cases hs : t.2.1.toNat ≤ 10
    · have h7 := a1.2.2 (by omega) (many_small (by omega) hs)
      have hz := m7 hs
      omega
    · have h8 := a1.2.1 (by omega)
      omega
theorem fix_all : ∀ (ts : List Tk) (acc : List Nat), (∀ t ∈ ts, VT t) → chkF ts acc.length = 0 → (putIs fixA fixB (itsOf ts)).length + 9 * acc.length ≤ 7 + 9 * (expF ts acc).length
  | [], acc, _, _ => by
    have hp : putIs fixA fixB (itsOf []) = codeT fixA 256 := by simp [putIs, putI, itsOf, itsF]
    rw [hp, expF]
    have := (fixA_at' (k := 256) (by decide)).2.2 (by decide) (by decide)
    omega
  | t :: ts, acc, hv, hc => by
    have ei : itsOf (t :: ts) = itOf t ++ itsOf ts := by simp [itsOf, itsF]
    rw [chkF] at hc
    by_cases e : errOne t acc.length = 0
    · rw [if_pos e] at hc
      have h1 := fix_one (hv t (by simp)) e
      have h2 := fix_all ts (putT t acc) (fun t' h' => hv t' (by simp [h'])) (by rw [putT_length]; exact hc)
      rw [putT_length] at h2
      rw [ei, putIs_app, List.length_append, expF]
      omega
    · rw [if_neg e] at hc; exact absurd hc e
theorem fix_bound {bs : List Nat} (hb : ∀ j, bs.getD j 0 < 256) (hl : bs.length ≤ 3000) : (fixBits (toks bs)).length ≤ 7 + 9 * bs.length := by
  have := fix_all (toks bs) [] (toks_vt hb hl) (toks_chk bs hl)
  rw [toks_exp] at this
  simpa [fixBits] using this
theorem evenA_le : (List.range 257).all (fun k => decide ((evenA.getD k 0).toNat ≤ 9)) = true := by decide +kernel
theorem even_put : ∀ bs : List Nat, (∀ b ∈ bs, b < 256) → (putIs evenA evenB (bs.map (fun b => It.sym b))).length ≤ 9 * bs.length
  | [], _ => by simp [putIs]
  | b :: bs, h => by
    have ih := even_put bs (fun x hx => h x (by simp [hx]))
    have e : putIs evenA evenB ((b :: bs).map (fun b => It.sym b)) = codeT evenA b ++ putIs evenA evenB (bs.map (fun b => It.sym b)) := by simp [putIs, putI]
    have h1 : (codeT evenA b).length ≤ 9 := by
      rw [code_len evenA evenA_good]
      exact of_decide_eq_true (List.all_eq_true.1 evenA_le b (by have := h b (by simp); simp; omega))
    rw [e, List.length_append, List.length_cons]
    omega
theorem even_bound {bs : List Nat} (hb : ∀ j, bs.getD j 0 < 256) : (planB evenA evenB (evenT bs)).length ≤ 1886 + 9 * bs.length := by
  have h1 := headB_len (dyn_own (even_dyn hb))
  have h2 := even_put bs (fun b hm => by
    obtain ⟨j, hj, rfl⟩ := List.getElem_of_mem hm
    have := hb j
    simpa [List.getD, hj] using this)
  have h3 : (codeT evenA 256).length ≤ 9 := by
    rw [code_len evenA evenA_good]
    exact of_decide_eq_true (List.all_eq_true.1 evenA_le 256 (by simp))
  have e : putIs evenA evenB (itsOf (evenT bs)) = putIs evenA evenB (bs.map (fun b => It.sym b)) ++ codeT evenA 256 := by
    rw [evenT_its, putIs_app]
    simp [putIs, putI]
  unfold planB
  rw [List.length_append, e, List.length_append]
  rw [evenA_len, evenB_len] at h1
  omega
theorem dyn_bound {bs : List Nat} (hb : ∀ j, bs.getD j 0 < 256) : (dynB bs).length ≤ 1886 + 9 * bs.length := by
  have := even_bound hb
  unfold dynB
  split
  · exact this
  · omega
theorem blk_bound (S : List Bool) {bs : List Nat} (k : Nat) (l : Bool) (hb : ∀ j, bs.getD j 0 < 256) (hl : bs.length ≤ 3000) : (blkB S bs k l).length ≤ S.length + bndK k bs.length := by
  unfold blkB bndK
  split
  · have := freeN_lt (S ++ [l] ++ numBits k 2).length
    unfold storB
    simp only [List.length_append, numBits_length, List.length_cons, List.length_nil, List.length_replicate, rowB_length] at *
    omega
  · split
    · have := fix_bound hb hl
      simp only [List.length_append, numBits_length, List.length_cons, List.length_nil]
      omega
    · have := dyn_bound hb
      simp only [List.length_append, numBits_length, List.length_cons, List.length_nil]
      omega
def sumB : List (List Nat × Nat) → Nat
  | [] => 0
  | i :: r => bndK i.2 i.1.length + sumB r
theorem pack_bound : ∀ (its : List (List Nat × Nat)) (S : List Bool), (∀ i ∈ its, (∀ j, i.1.getD j 0 < 256) ∧ i.1.length ≤ 3000) → (packF its S).length ≤ S.length + sumB its
  | [], S, _ => by simp [packF, sumB]
  | (bs, k) :: r, S, h => by
    obtain ⟨h1, h2⟩ := h (bs, k) (by simp)
    have a := blk_bound S k (decide (r = [])) h1 h2
    have b := pack_bound r (blkB S bs k (decide (r = []))) (fun i hi => h i (by simp [hi]))
    rw [packF, sumB]
    simp only at a ⊢
    omega
end Go.Proofs.YtfoaaamcpknjnadGreat

/-
  Package gz: Pack.
-/
namespace Go.Proofs.YtfoaaamcpknjnadGreat
open Go.RowKit
set_option linter.unusedVariables false
set_option linter.unusedSimpArgs false
set_option maxRecDepth 100000

theorem three_rows (w : World) (a b d : Option Addr) (la lb ld ca cb cd cap : Nat) (xs ys zs : List Nat) (t : TypeId) (hla : xs.length = la) (hlb : ys.length = lb) (hld : zs.length = ld) (hba : BytesIn w a xs) (hbb : BytesIn w b ys) (hbd : BytesIn w d zs) (hs : la + lb + ld ≤ 281474976710656) :
    Calls Tryz.prog 11 #[.slice (some ⟨w.heap.size, 0, none⟩) 3 cap] (w.alloc (.cells #[.slice a la ca, .slice b lb cb, .slice d ld cd] t)) fun e w' => ∃ x c, la + lb + ld ≤ c ∧ e = .returned (.slice x (la + lb + ld) c) ∧ BytesIn w' x (xs ++ ys ++ zs) ∧ Below w.heap.size w w' := by
  subst hla hlb hld
  have e : catB [(a, ca, xs), (b, cb, ys), (d, cd, zs)] 3 = xs ++ ys ++ zs := by simp [catB]
  have hl : (catB [(a, ca, xs), (b, cb, ys), (d, cd, zs)] 3).length = xs.length + ys.length + zs.length := by rw [e, List.length_append, List.length_append]
  have hc : ∀ i, (w.alloc (.cells #[.slice a xs.length ca, .slice b ys.length cb, .slice d zs.length cd] t)).cell? ⟨w.heap.size, i, none⟩ = (#[Value.slice a xs.length ca, .slice b ys.length cb, .slice d zs.length cd] : Array Value)[i]? := fun i => cell_of_row _ _ _ _ _ _ (heap_alloc_new w _)
  refine (concatB_any w.heap.size 0 3 cap [(a, ca, xs), (b, cb, ys), (d, cd, zs)] _ (by simp) ?_ ?_ (by rw [hl]; exact hs) (by decide)).mono ?_
  · intro j hj
    rw [Nat.zero_add]
    rcases (by omega : j = 0 ∨ j = 1 ∨ j = 2) with rfl | rfl | rfl
    · rw [hc]; rfl
    · rw [hc]; rfl
    · rw [hc]; rfl
  · intro j hj
    rcases (by omega : j = 0 ∨ j = 1 ∨ j = 2) with rfl | rfl | rfl
    · exact hba.alloc _
    · exact hbb.alloc _
    · exact hbd.alloc _
  · rintro e' w' ⟨x, c, h1, rfl, h2, h3⟩
    rw [hl] at h1
    rw [e] at h2
    exact ⟨x, c, h1, by rw [hl], h2, ((Below.refl w.heap.size w).alloc (Nat.le_refl _) _).trans (h3.mono (by simp))⟩

theorem gzPack_many (a : Option Addr) (n cap : Nat) (bs : List Nat) (w : World) (hl : bs.length = n) (hcap : n ≤ cap) (hnil : a = none → cap = 0) (hB : BytesIn w a bs) (hx : ∀ j, bs.getD j 0 < 256) (hm : n ≤ 9223372036854775807) (hn : 3000 < n) :
    Calls Tryz.prog 6 #[.slice a n cap] w fun e w' => e = .returned (.tuple #[.slice none 0 0, .int .i64 2]) ∧ Below w.heap.size w w' := by
  have HBM := hide (best_many a n cap bs w hl hcap hnil hB hx hm hn)
  clear hB hx hnil
  go_enter Tryz.func6, Tryz.ntmps6
  go_wp2_with fail
  refine (unhide HBM).mono ?_
  rintro e w1 ⟨rfl, hB1⟩
  have HB1 := hide hB1
  clear hB1
  go_wp2
  refine bodyPost_ret (v := .tuple #[.slice none 0 0, .int .i64 2]) ?_ rfl ⟨rfl, unhide HB1⟩
  first | rfl | kernel_rfl

theorem one_small {bs out : List Nat} {k : Nat} (h : IsOne bs k out) (hx : ∀ j, bs.getD j 0 < 256) (hn : bs.length ≤ 3000) : 8 * out.length ≤ 3217 + 9 * bs.length := by
  have h1 := pack_bound (itemsP [bs] [(k : Int)]) [] (fun i hi => by
    simp [itemsP] at hi
    subst hi
    exact ⟨hx, hn⟩)
  rw [packF_one] at h1
  have h2 := congrArg List.length h.row
  have h3 := freeN_lt (blkB [] bs k true).length
  unfold oneB at h2
  rw [rowB_length, padB_length] at h2
  have h4 : sumB (itemsP [bs] [(k : Int)]) ≤ 3210 + 9 * bs.length := by
    simp only [itemsP, List.zip_cons_cons, List.zip_nil_right, List.map_cons, List.map_nil, sumB, bndK]
    split
    · omega
    · split <;> omega
  simp only [List.length_nil] at h1
  omega
/-- what Pack answers -/
def GzP (bs : List Nat) (n : Nat) (w : World) (e : Ending) (w' : World) : Prop :=
  Below w.heap.size w w' ∧ ∃ x c out, 10 + out.length + 8 ≤ c ∧ e = .returned (.tuple #[.slice x (10 + out.length + 8) c, .int .i64 0]) ∧ IsOne bs (bestP bs 3) out ∧ BytesIn w' x (headL ++ out ++ tailL (crcN 0 bs) n)

set_option maxHeartbeats 4000000 in
theorem gzPack_ok (a : Option Addr) (n cap : Nat) (bs : List Nat) (w : World) (hl : bs.length = n) (hcap : n ≤ cap) (hnil : a = none → cap = 0) (hB : BytesIn w a bs) (hx : ∀ j, bs.getD j 0 < 256) (hn : n ≤ 3000) :
    Calls Tryz.prog 6 #[.slice a n cap] w fun e w' => GzP bs n w e w' := by
  have HBO := hide (best_ok a n cap bs w hl hcap hnil hB hx hn)
  have HSM : Hid (∀ out k, IsOne bs k out → out.length ≤ 30000) := hide (fun out k h => by have := one_small h hx (by omega); omega)
  have HTA := hide (fun W (hW : Below w.heap.size w W) => tail_any a n cap bs W hl (by omega) (hB.below hW (Nat.le_refl _)) hx)
  obtain ⟨HL, hHL⟩ : ∃ HL, headL = HL := ⟨_, rfl⟩
  obtain ⟨TL, hTL⟩ : ∃ TL, tailL (crcN 0 bs) n = TL := ⟨_, rfl⟩
  have HHD := hide (fun W => by have := head_any W; rw [hHL] at this; exact this)
  rw [hTL] at HTA
  have hHl : HL.length = 10 := by rw [← hHL]; rfl
  have hTl : TL.length = 8 := by rw [← hTL]; rfl
  have HHL := hide hHL
  have HTL := hide hTL
  have hi10 : (Tryz.prog.info? 42).map (·.size) = some (u8s HL).toArray.size := by rw [info10]; simp [hHl]
  have hi8 : (Tryz.prog.info? 44).map (·.size) = some (u8s TL).toArray.size := by rw [info8]; simp [hTl]
  clear hB hx hnil hHL hTL hl
  go_enter Tryz.func6, Tryz.ntmps6
  go_wp2_with fail
  refine (unhide HBO).mono ?_
  rintro e w1 ⟨g, c, out, rfl, hg1, hby1, hI, hB1⟩
  have hlen := hI.len
  obtain ⟨L, hL⟩ : ∃ L, lenP bs (bestP bs 3) = L := ⟨_, rfl⟩
  obtain ⟨K3, hK3⟩ : ∃ K3, bestP bs 3 = K3 := ⟨_, rfl⟩
  rw [hL] at hlen ⊢
  have hout : L ≤ 30000 := by have := unhide HSM out _ hI; omega
  rw [hK3]
  have HI := hide hI
  have HB1 := hide hB1
  have HY1 := hide hby1
  have HLE := hide hlen
  clear hI hB1 hby1 hlen hL hK3
  go_wp2_with fail
  refine (unhide HHD w1).mono ?_
  rintro e w2 ⟨rfl, hB2⟩
  have HB12 := hide hB2
  have HB2 := hide ((unhide HB1).trans (hB2.mono (unhide HB1).size))
  clear hB2
  go_wp2_with fail
  refine (unhide HTA w2 (unhide HB2)).mono ?_
  rintro e w3 ⟨rfl, hB3⟩
  have HB13 := hide ((unhide HB12).trans (hB3.mono (unhide HB12).size))
  have HB3 := hide ((unhide HB2).trans (hB3.mono (unhide HB2).size))
  clear hB3
  obtain ⟨g7, hg7⟩ : ∃ g7, w3.heap.size = g7 := ⟨_, rfl⟩
  have A1 : ((w3.alloc (.cells (u8s (List.replicate 10 0)).toArray 42)).alloc (.cells (u8s (List.replicate 8 0)).toArray 44)).heap[g7]? = some (.cells (u8s (List.replicate 10 0)).toArray 42 (0, 0)) := by rw [← hg7]; exact (Below.heap_alloc _ _ _ (by simp)).trans (heap_alloc_new _ _)
  have A2 : (((w3.alloc (.cells (u8s (List.replicate 10 0)).toArray 42)).alloc (.cells (u8s (List.replicate 8 0)).toArray 44)).setRow g7 (u8s HL).toArray).heap[g7 + 1]? = some (.cells (u8s (List.replicate 8 0)).toArray 44 (0, 0)) := by
    rw [Go.setRow_other _ _ _ _ (by omega)]
    have e : g7 + 1 = (w3.alloc (.cells (u8s (List.replicate 10 0)).toArray 42)).heap.size := by simp [hg7]
    rw [e]
    exact heap_alloc_new _ _
  have HA1 := hide A1
  have HA2 := hide A2
  clear A1 A2
  go_upto_region 5 with (first | refine wpList_store_row rfl 42 (.tmp 7) (.tmp 18) rfl g7 _ rfl rfl 42 (u8s (List.replicate 10 0)).toArray (unhide HA1) hi10 (by simp [hHl]) (u8s_all HL) ?_ | refine wpList_store_row rfl 44 (.tmp 8) (.tmp 20) rfl (g7 + 1) _ rfl rfl 44 (u8s (List.replicate 8 0)).toArray (unhide HA2) hi8 (by simp [hTl]) (u8s_all TL) ?_)
  simp only [Act.put]
  generalize hW4 : World.setRow (World.setRow (World.alloc (World.alloc _ _) _) _ _) _ _ = w4
  have t7 : URow 42 w4 g7 HL := by
    rw [← hW4]
    unfold URow
    rw [Go.setRow_other _ _ _ _ (by omega)]
    exact setRow_heap _ _ _ _ _ _ (unhide HA1)
  have t8 : URow 44 w4 (g7 + 1) TL := by rw [← hW4]; exact setRow_heap _ _ _ _ _ _ (unhide HA2)
  have t4 : Below g7 w3 w4 := by
    rw [← hW4]
    exact below_setRow (below_setRow (((by rw [← hg7]; exact Below.refl _ _ : Below g7 w3 w3).alloc (by omega) _).alloc (by simp; omega) _) (Nat.le_refl _) _) (by omega) _
  have hz3 := (unhide HB3).size
  have HB4 := hide ((unhide HB3).trans (t4.mono (by omega)))
  have HB14 := hide ((unhide HB13).trans (t4.mono (by have := (unhide HB13).size; omega)))
  have HCC := hide (fun t q => three_rows (w4.drewN q) (some ⟨g7, 0, none⟩) (some ⟨g, 0, none⟩) (some ⟨g7 + 1, 0, none⟩) 10 L 8 10 c 8 3 HL out TL t hHl (unhide HLE) hTl (.inr ⟨g7, 0, rfl, t7.lt, t7.bytes⟩) (.inr ⟨g, 0, rfl, by have := (unhide HB14).size; show g < w4.heap.size; omega, (unhide HY1).below (below_drewN (unhide HB14) q) hg1⟩) (.inr ⟨g7 + 1, 0, rfl, t8.lt, t8.bytes⟩) (by omega))
  clear hW4 HA1 HA2 t7 t8 t4
  refine wp_region_any (by kernel_rfl) ?_
  try (change wpAny _ _ _ _ _ _ _ (World.drew _))
  refine wpAny_take (i := 0) (v := .slice (some ⟨g7, 0, none⟩) 10 10) rfl (by kernel_rfl) (by kernel_rfl) (by kernel_rfl) (fun _ _ _ h => h) (Or.inl ⟨by rfl, fun W => by go_simp⟩) ?_
  simp only [Act.put, List.setIfInBounds_toArray, List.set_cons_zero, List.set_cons_succ]
  refine wpAny_take (i := 1) (v := .slice (some ⟨g, 0, none⟩) L c) rfl (by kernel_rfl) (by kernel_rfl) (by kernel_rfl) (fun _ _ _ h => h) (Or.inl ⟨by rfl, fun W => by go_simp⟩) ?_
  simp only [Act.put, List.setIfInBounds_toArray, List.set_cons_zero, List.set_cons_succ]
  refine wpAny_take (i := 2) (v := .slice (some ⟨g7 + 1, 0, none⟩) 8 8) rfl (by kernel_rfl) (by kernel_rfl) (by kernel_rfl) (fun _ _ _ h => h) (Or.inl ⟨by rfl, fun W => by go_simp⟩) ?_
  simp only [Act.put, List.setIfInBounds_toArray, List.set_cons_zero, List.set_cons_succ]
  refine wpAny_ready (rs := [3]) (by kernel_rfl) (by simp) (AllReady.cons rfl (fun K hK => ?_) AllReady.nil)
  go_simp
  refine hK _ _ ?_
  clear hK K
  refine wpAny_ready (rs := [4]) (by kernel_rfl) (by simp) (AllReady.cons rfl (fun K hK => ?_) AllReady.nil)
  go_simp
  refine (unhide HCC _ 1).mono ?_
  rintro e w5 ⟨x, c5, hc5, rfl, hby5, hB5⟩
  have HF : Hid (GzP bs n w (.returned (.tuple #[.slice x (10 + L + 8) c5, .int .i64 0])) w5) := hide ⟨(below_drewN (unhide HB4) 1).trans (hB5.mono (unhide HB4).size), x, c5, out, by rw [unhide HLE]; exact hc5, by rw [unhide HLE], unhide HI, by rw [unhide HHL, unhide HTL]; exact hby5⟩
  clear hby5 hB5 hc5
  dsimp only
  refine hK _ _ ?_
  clear hK K
  refine wpAny_ready (rs := [5]) (by kernel_rfl) (by simp) (AllReady.cons rfl (fun K hK => ?_) AllReady.nil)
  go_simp
  refine hK _ _ ?_
  clear hK K
  refine wpAny_ready (rs := [6]) (by kernel_rfl) (by simp) (AllReady.cons rfl (fun K hK => ?_) AllReady.nil)
  go_simp
  refine hK _ _ ?_
  clear hK K
  refine wpAny_done (by kernel_rfl) ?_ _
  go_wp2
  refine bodyPost_ret (v := .tuple #[.slice x (10 + L + 8) c5, .int .i64 0]) ?_ rfl (unhide HF)
  first | rfl | kernel_rfl
end Go.Proofs.YtfoaaamcpknjnadGreat
