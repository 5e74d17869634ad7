import Derived.Test.YtcdnbiiaoaeflafGreatDoorQ2
import Derived.Test.YtcdnbiiaoaeflafGreatDoorQ30
import Derived.Test.YtcdnbiiaoaeflafGreatDoorQ23
import Derived.Test.YtcdnbiiaoaeflafGreatDoorQ1
import Derived.Shelf.Abstract
import Derived.Deep.DeepCutAuto
set_option maxHeartbeats 4000000
namespace Go.Proofs.YtcdnbiiaoaeflafGreatDoor
open Go.RowKit
set_option linter.unusedVariables false
set_option maxRecDepth 100000
def roomN (l : List Int) : Nat -> Nat
 | 0 => 0
 | k + 1 => roomN l k + (if 0 < l.getD k 0 then 2 ^ (15 - (l.getD k 0).toNat) else 0)
theorem roomN_taken (l : List Int) (hok : ∀ j, j < l.length -> 0 <= l.getD j 0 /\ l.getD j 0 <= 15) : ∀ k, k <= l.length -> roomN l k = takenN (cnt (l.take k)) 15
 | 0, _ => by
  show 0 = takenN (cnt []) 15
  decide
 | k + 1, hk => by
  have ih := roomN_taken l hok k (by omega)
  have hkl : k < l.length := by omega
  obtain ⟨m, hm⟩ := Int.eq_ofNat_of_zero_le (hok k hkl).1
  have h15 := (hok k hkl).2
  rw [roomN, ih, <- cnt_next l hkl hm, hm]
  rw [hm] at h15
  by_cases h0 : m = 0
  . subst h0
    rw [taken_upd0]; simp
  . rw [taken_upd _ m (by omega) (by omega) 15 (by omega), if_pos (show (0 : Int) < (m : Int) by omega), if_pos (by omega), Int.toNat_natCast]
end Go.Proofs.YtcdnbiiaoaeflafGreatDoor
namespace Go.Proofs.YtcdnbiiaoaeflafGreatDoor
open Go.RowKit
set_option linter.unusedVariables false
theorem room_lens {l : List Int} {P : List Nat} {m : Nat} (hG : GoodW l m) (hP : RiseOf l P) (hn : 2 <= P.length) : takenN (cnt (lensOf l P m)) 15 = 32768 := by
 have hm15 := hG.hi
 have hle : ∀ j, 0 <= (lensOf l P m).getD j 0 /\ (lensOf l P m).getD j 0 <= 15 := fun j => by have := lens_ok hG hP j; omega
 have h2 := roomN_taken (lensOf l P m) (fun j _ => hle j) (lensOf l P m).length (Nat.le_refl _)
 rw [List.take_length, lensOf_length] at h2
 rw [<- h2]
 have hk := lens_kraft hG hP hn
 have h3 : ∀ A B : List Nat, nsum (A ++ B) = nsum A + nsum B := by
  intro A B
  induction A with
  | nil => simp [nsum]
  | cons x A ih => rw [List.cons_append, nsum, nsum, ih]; omega
 have h4 : ∀ k, k <= l.length -> roomN (lensOf l P m) k = nsum ((wpl l k).map fun p => 2 ^ (15 - ((lensOf l P m).getD p 0).toNat)) := by
  intro k
  induction k with
  | zero => intro _; rfl
  | succ k ih =>
   intro hk
   rw [wpl, List.map_append, h3, roomN, ih (by omega)]
   have hx := lens_ok hG hP k
   by_cases h : 0 < l.getD k 0
   . rw [if_pos h, if_pos (hx.2.2.2 ((hP.mem k).2 ⟨by omega, h⟩))]
     simp [nsum]
   . rw [if_neg h, if_neg (fun h5 => h ((hP.mem k).1 (hx.2.2.1 h5)).2)]
     simp [nsum]
 rw [h4 l.length (Nat.le_refl _), <- nsum_perm (hP.perm.map _)]
 have e : (P.map fun p => 2 ^ (15 - ((lensOf l P m).getD p 0).toNat)) = P.map fun p => 2 ^ (15 - m) * 2 ^ (m - ((lensOf l P m).getD p 0).toNat) := by
  apply List.map_congr_left
  intro p hp
  have := lens_ok hG hP p
  rw [<- Nat.pow_add]
  congr 1
  omega
 rw [e, nsum_mul, hk, <- Nat.pow_add, show 15 - m + m = 15 by omega]
end Go.Proofs.YtcdnbiiaoaeflafGreatDoor
namespace Go.Proofs.YtcdnbiiaoaeflafGreatDoor
set_option linter.unusedVariables false
set_option maxRecDepth 100000
theorem code_len (l : List Int) (hG : Good l) (q : Nat) : (codeT l q).length = (l.getD q 0).toNat := by unfold codeT; rw [hb_length]
def manyOk (n : Nat) : Bool := decide (257 <= (manyI n).1 /\ (manyI n).1 <= 285 /\ (samesL.getD ((manyI n).1 - 257) (0, 0)).2 = (manyI n).2.2 /\ (samesL.getD ((manyI n).1 - 257) (0, 0)).1 + (manyI n).2.1 = n /\ (manyI n).2.1 < 2 ^ (manyI n).2.2 /\ (manyI n).2.2 <= 5 /\ (n <= 10 -> (manyI n).2.2 = 0))
def farOk (d : Nat) : Bool := decide ((farI d).1 <= 29 /\ (farsL.getD (farI d).1 (0, 0)).2 = (farI d).2.2 /\ (farsL.getD (farI d).1 (0, 0)).1 + (farI d).2.1 = d /\ (farI d).2.1 < 2 ^ (farI d).2.2 /\ (farI d).2.2 <= 10)
theorem many_all : (List.range 256).all (fun n => manyOk (n + 3)) = true := by decide +kernel
theorem far_all : (List.range 3000).all (fun d => farOk (d + 1)) = true := by decide +kernel
theorem many_is {n : Nat} (h3 : 3 <= n) (h : n <= 258) : 257 <= (manyI n).1 /\ (manyI n).1 <= 285 /\ (samesL.getD ((manyI n).1 - 257) (0, 0)).2 = (manyI n).2.2 /\ (samesL.getD ((manyI n).1 - 257) (0, 0)).1 + (manyI n).2.1 = n /\ (manyI n).2.1 < 2 ^ (manyI n).2.2 /\ (manyI n).2.2 <= 5 /\ (n <= 10 -> (manyI n).2.2 = 0) := by
 have := List.all_eq_true.1 many_all (n - 3) (by simp; omega)
 rw [show n - 3 + 3 = n by omega] at this
 exact of_decide_eq_true this
theorem far_is {d : Nat} (h1 : 1 <= d) (h : d <= 3000) : (farI d).1 <= 29 /\ (farsL.getD (farI d).1 (0, 0)).2 = (farI d).2.2 /\ (farsL.getD (farI d).1 (0, 0)).1 + (farI d).2.1 = d /\ (farI d).2.1 < 2 ^ (farI d).2.2 /\ (farI d).2.2 <= 10 := by
 have := List.all_eq_true.1 far_all (d - 1) (by simp; omega)
 rw [show d - 1 + 1 = d by omega] at this
 exact of_decide_eq_true this
def Has (a b : List Int) (is : List It) : Prop := (∀ k, It.sym k ∈ is -> k < a.length /\ 0 < a.getD k 0) /\ (∀ k, It.far k ∈ is -> k < b.length /\ 0 < b.getD k 0)
theorem Has.app {a b : List Int} {x y : List It} (h : Has a b (x ++ y)) : Has a b x /\ Has a b y :=
 ⟨⟨fun k hk => h.1 k (by simp [hk]), fun k hk => h.2 k (by simp [hk])⟩, ⟨fun k hk => h.1 k (by simp [hk]), fun k hk => h.2 k (by simp [hk])⟩⟩
theorem putIs_app (a b : List Int) (x y : List It) : putIs a b (x ++ y) = putIs a b x ++ putIs a b y := by simp [putIs]
def HasR (own : List Int) (is : List (Nat × Nat × Nat)) : Prop := ∀ i ∈ is, i.1 < own.length /\ 0 < own.getD i.1 0
theorem putR_len (own : List Int) (hG : Good own) (i : Nat × Nat × Nat) : (putR own i).length = (codeT own i.1).length + i.2.2 := by unfold putR; rw [List.length_append, nbL]
theorem putRs_cons (own : List Int) (i : Nat × Nat × Nat) (is : List (Nat × Nat × Nat)) : putRs own (i :: is) = putR own i ++ putRs own is := by simp [putRs]
theorem putRs_app (own : List Int) (x y : List (Nat × Nat × Nat)) : putRs own (x ++ y) = putRs own x ++ putRs own y := by simp [putRs]
theorem HasR.app {own : List Int} {x y : List (Nat × Nat × Nat)} (h : HasR own (x ++ y)) : HasR own x /\ HasR own y := ⟨fun i hi => h i (by simp [hi]), fun i hi => h i (by simp [hi])⟩
theorem headN_le (x : Int) : ∀ r : List Int, headN x r <= r.length
 | [] => Nat.le_refl _
 | y :: r => by
  rw [headN]
  have := headN_le x r
  split <;> simp <;> omega
theorem headN_rep (x : Int) : ∀ r : List Int, r = List.replicate (headN x r) x ++ r.drop (headN x r)
 | [] => rfl
 | y :: r => by
  rw [headN]
  by_cases e : y = x
  . subst e
    rw [if_pos rfl, List.replicate_succ, List.drop_succ_cons, List.cons_append, <- headN_rep y r]
  . rw [if_neg e]; rfl
theorem bump_at (xs : List Int) (p j : Nat) : (bump xs p).getD j 0 = xs.getD j 0 + (if j = p /\ p < xs.length then 1 else 0) := by
 unfold bump
 by_cases e : j = p
 . subst e
   by_cases h : j < xs.length
   . simp [List.getD, h]
   . simp [List.getD, h]
 . simp only [List.getD]
   rw [List.getElem?_set_ne (Ne.symm e), if_neg (fun h => e h.1)]
   omega
theorem bumps_at : ∀ (ps : List Nat) (xs : List Int) (j : Nat), j < xs.length -> (bumps xs ps).getD j 0 = xs.getD j 0 + (ps.count j : Nat)
 | [], xs, j, h => by simp [bumps]
 | p :: ps, xs, j, h => by
  show (bumps (bump xs p) ps).getD j 0 = _
  rw [bumps_at ps _ j (by rw [bump_length]; exact h), bump_at, List.count_cons]
  by_cases e : j = p
  . subst e
    simp [h]
    omega
  . have e2 : ¬ p = j := fun h => e h.symm
    simp [e, e2]
theorem zero_at (n j : Nat) : (List.replicate n (0 : Int)).getD j 0 = 0 := by by_cases h : j < n <;> simp [List.getD, h]
theorem bumps_good (n m : Nat) (ps : List Nat) (hn : n <= 288) (hp : ps.length <= 1000000) (hm : 1 <= m) (hm2 : m <= 15) (hr : n <= 2 ^ m) : GoodW (bumps (List.replicate n 0) ps) m := by
 have hl : (bumps (List.replicate n (0 : Int)) ps).length = n := by rw [bumps_length]; simp
 refine ⟨by omega, ?_, hm, hm2, ?_⟩
 . intro j hj
   rw [bumps_at ps _ j (by simp; omega), zero_at]
   have := List.count_le_length (a := j) (l := ps)
   omega
 . have := wpl_le (bumps (List.replicate n 0) ps) (bumps (List.replicate n (0 : Int)) ps).length
   omega
theorem lensD_eq {l : List Int} {m : Nat} {s : List Int} (h : IsLens l m s) : lensD l m = s := by
 have h2 : IsLens l m (lensD l m) := Classical.epsilon_spec (p := fun s => IsLens l m s) ⟨s, h⟩
 obtain ⟨P, hP, e⟩ := h
 obtain ⟨Q, hQ, e2⟩ := h2
 rw [e2, e, hP.one hQ]
theorem lens_good {l : List Int} {m : Nat} {s : List Int} (hG : GoodW l m) (hs : IsLens l m s) : Good s /\ s.length = l.length /\ (∀ p, 0 <= s.getD p 0 /\ s.getD p 0 <= m) /\ ∀ p, p < l.length -> 0 < l.getD p 0 -> 0 < s.getD p 0 := by
 obtain ⟨P, hP, rfl⟩ := hs
 have hlen := lensOf_length l P m
 have hl := hG.len
 have hm15 := hG.hi
 have hok := lens_ok hG hP
 refine ⟨⟨by omega, fun j hj => by have := hok j; omega, ?_⟩, hlen, fun p => ⟨(hok p).1, (hok p).2.1⟩, fun p h1 h2 => (hok p).2.2.2 ((hP.mem p).2 ⟨h1, h2⟩)⟩
 by_cases hn : 2 <= P.length
 . rw [room_lens hG hP hn]
   exact Nat.le_refl _
 . have h2 := roomN_taken (lensOf l P m) (fun j _ => by have := hok j; omega) (lensOf l P m).length (Nat.le_refl _)
   rw [List.take_length, lensOf_length] at h2
   rw [<- h2]
   have h4 : ∀ k, k <= l.length -> roomN (lensOf l P m) k <= (wpl l k).length * 16384 := by
    intro k
    induction k with
    | zero => intro _; exact Nat.le_refl _
    | succ k ih =>
     intro hk
     have := ih (by omega)
     rw [wpl, List.length_append, roomN]
     have hx := hok k
     by_cases h : 0 < l.getD k 0
     . have h1 := hx.2.2.2 ((hP.mem k).2 ⟨by omega, h⟩)
       rw [if_pos h, if_pos h1]
       have : 2 ^ (15 - ((lensOf l P m).getD k 0).toNat) <= 2 ^ 14 := Nat.pow_le_pow_right (by decide) (by omega)
       simp only [List.length_cons, List.length_nil]
       omega
     . rw [if_neg h, if_neg (fun h5 => h ((hP.mem k).1 (hx.2.2.1 h5)).2)]
       simp only [List.length_nil]
       omega
   have h5 := h4 l.length (Nat.le_refl _)
   rw [<- hP.length] at h5
   omega
theorem trimF_le (l : List Int) (least : Nat) : ∀ n, trimF l least n <= n
 | 0 => Nat.le_refl _
 | n + 1 => by
  rw [trimF]
  have := trimF_le l least n
  split <;> omega
theorem trimF_ge (l : List Int) (least : Nat) : ∀ n, least <= n -> least <= trimF l least n
 | 0, h => h
 | n + 1, h => by
  rw [trimF]
  by_cases e : least < n + 1 /\ l.getD n 0 = 0
  . rw [if_pos e]; exact trimF_ge l least n (by omega)
  . rw [if_neg e]; exact h
theorem trimF_zero (l : List Int) (least : Nat) : ∀ n j, trimF l least n <= j -> j < n -> l.getD j 0 = 0
 | 0, j, h1, h2 => by omega
 | n + 1, j, h1, h2 => by
  rw [trimF] at h1
  by_cases e : least < n + 1 /\ l.getD n 0 = 0
  . rw [if_pos e] at h1
    by_cases e2 : j = n
    . subst e2; exact e.2
    . exact trimF_zero l least n j h1 (by omega)
  . rw [if_neg e] at h1; omega
theorem trimL_length (l : List Int) (least : Nat) : (trimL l least).length = trimF l least l.length := by
 have := trimF_le l least l.length
 simp [trimL]; omega
theorem trimL_at (l : List Int) (least k : Nat) : (trimL l least).getD k 0 = l.getD k 0 := by
 have hl := trimL_length l least
 by_cases h : k < trimF l least l.length
 . simp only [trimL, List.getD]
   rw [List.getElem?_take_of_lt h]
 . have e1 : (trimL l least).getD k 0 = 0 := by
    simp only [List.getD]
    rw [List.getElem?_eq_none (by omega)]
    rfl
   rw [e1]
   by_cases h2 : k < l.length
   . exact (trimF_zero l least l.length k (by omega) h2).symm
   . simp only [List.getD]
     rw [List.getElem?_eq_none (by omega)]
     rfl
theorem takenN_mono {c d : Nat -> Nat} (h : ∀ n, c n <= d n) : ∀ k, takenN c k <= takenN d k
 | 0 => Nat.le_refl _
 | k + 1 => by
  rw [takenN, takenN]
  have h1 := takenN_mono h k
  have h2 := Nat.mul_le_mul_right (2 ^ (14 - k)) (h (k + 1))
  omega
theorem trim_good {l : List Int} (hG : Good l) (least : Nat) : Good (trimL l least) := by
 have hl := trimL_length l least
 have hle := trimF_le l least l.length
 refine ⟨by have := hG.len; omega, fun j hj => by rw [trimL_at]; exact hG.ok j (by omega), ?_⟩
 refine Nat.le_trans (takenN_mono (fun n => ?_) 15) hG.room
 unfold cnt trimL
 exact (List.take_sublist _ _).count_le _
def VT (t : Tk) : Prop := t.1 < 256 /\ (t.2.1 = 0 \/ (3 <= t.2.1 /\ t.2.1 <= 258 /\ 1 <= t.2.2 /\ t.2.2 <= 3000))
theorem chkF_mem : ∀ (ts : List Tk) (n : Nat), chkF ts n = 0 -> ∀ t ∈ ts, ∃ k, k <= 3000 /\ errOne t k = 0
 | [], n, h, t, ht => by cases ht
 | t0 :: ts, n, h, t, ht => by
  have he : errOne t0 n = 0 := by
   rw [chkF] at h
   by_cases e : errOne t0 n = 0
   . exact e
   . rw [if_neg e] at h; exact absurd h e
  rw [chkF, if_pos he] at h
  have hz := chkF_zero h
  rcases List.mem_cons.1 ht with rfl | ht
  . exact ⟨n, by omega, he⟩
  . exact chkF_mem ts _ h t ht
theorem tks_mem (bs : List Nat) : ∀ m k, ∀ t ∈ tks bs m k, ∃ j, t = tkAt bs j
 | 0, k, t, ht => by cases ht
 | m + 1, k, t, ht => by
  rw [tks] at ht
  by_cases h : k < bs.length
  . rw [if_pos h] at ht
    rcases List.mem_cons.1 ht with rfl | ht
    . exact ⟨k, rfl⟩
    . exact tks_mem bs m _ t ht
  . rw [if_neg h] at ht; cases ht
theorem toks_chk (bs : List Nat) (h : bs.length <= 3000) : chkF (toks bs) 0 = 0 := tks_chk bs h bs.length 0 (Nat.zero_le _)
theorem toks_vt {bs : List Nat} (hb : ∀ j, bs.getD j 0 < 256) (h : bs.length <= 3000) : ∀ t ∈ toks bs, VT t := by
 intro t ht
 obtain ⟨j, rfl⟩ := tks_mem bs _ _ t ht
 obtain ⟨k, h1, h2⟩ := chkF_mem _ _ (toks_chk bs h) _ ht
 refine ⟨tkAt_lt hb j, ?_⟩
 rcases errOne_right h2 with ⟨e1, _⟩ | ⟨_, e2, e3, e4, e5⟩
 . exact .inl e1
 . exact .inr ⟨e2, e3, e4, by omega⟩
def VI : It -> Prop
 | .sym k => k < 286
 | .far k => k < 30
 | .rest n s => n < 2 ^ s /\ s <= 10
theorem itOf_vi {t : Tk} (h : VT t) : ∀ i ∈ itOf t, VI i := by
 obtain ⟨h0, h1⟩ := h
 intro i hi
 unfold itOf at hi
 rcases h1 with e | ⟨e1, e2, e3, e4⟩
 . rw [if_pos e] at hi
   simp only [List.mem_cons, List.not_mem_nil, or_false] at hi
   subst hi
   show t.1 < 286
   omega
 . rw [if_neg (by omega)] at hi
   obtain ⟨m1, m2, m3, m4, m5, m6, _⟩ := many_is (n := t.2.1.toNat) (by omega) (by omega)
   obtain ⟨f1, f2, f3, f4, f5⟩ := far_is (d := t.2.2.toNat) (by omega) (by omega)
   simp only [List.mem_cons, List.not_mem_nil, or_false] at hi
   rcases hi with rfl | rfl | rfl | rfl
   . show _ < 286; omega
   . exact ⟨m5, by omega⟩
   . show _ < 30; omega
   . exact ⟨f4, f5⟩
theorem itsOf_vi {ts : List Tk} (h : ∀ t ∈ ts, VT t) : ∀ i ∈ itsOf ts, VI i := by
 intro i hi
 unfold itsOf itsF at hi
 rcases List.mem_append.1 hi with hi | hi
 . obtain ⟨t, ht, hi⟩ := List.mem_flatMap.1 hi
   exact itOf_vi (h t ht) i hi
 . simp only [List.mem_cons, List.not_mem_nil, or_false] at hi
   subst hi
   show 256 < 286
   decide
theorem itOf_len (t : Tk) : (itOf t).length <= 4 := by unfold itOf; split <;> simp
theorem itsOf_len : ∀ ts : List Tk, (itsOf ts).length <= 4 * ts.length + 1
 | [] => by simp [itsOf, itsF]
 | t :: ts => by
  have e : itsOf (t :: ts) = itOf t ++ itsOf ts := by simp [itsOf, itsF]
  have := itsOf_len ts
  have := itOf_len t
  rw [e, List.length_append, List.length_cons]
  omega
theorem mem_symK {is : List It} {k : Nat} : k ∈ symK is ↔ It.sym k ∈ is := by
 unfold symK
 rw [List.mem_filterMap]
 constructor
 . rintro ⟨i, h1, h2⟩
   cases i with
   | sym q => simp at h2; subst h2; exact h1
   | far q => simp at h2
   | rest a b => simp at h2
 . intro h
   exact ⟨_, h, rfl⟩
theorem mem_farK {is : List It} {k : Nat} : k ∈ farK is ↔ It.far k ∈ is := by
 unfold farK
 rw [List.mem_filterMap]
 constructor
 . rintro ⟨i, h1, h2⟩
   cases i with
   | far q => simp at h2; subst h2; exact h1
   | sym q => simp at h2
   | rest a b => simp at h2
 . intro h
   exact ⟨_, h, rfl⟩
structure Dyn (ts : List Tk) (a b : List Int) : Prop where
 ga : Good a
 gb : Good b
 la : 257 <= a.length
 la2 : a.length <= 286
 lb : 1 <= b.length
 lb2 : b.length <= 30
 has : Has a b (itsOf ts)
 end' : 0 < a.getD 256 0
theorem getD_pos_lt {l : List Int} {k : Nat} (h : 0 < l.getD k 0) : k < l.length := by
 rcases Nat.lt_or_ge k l.length with e | e
 . exact e
 . simp only [List.getD] at h
   rw [List.getElem?_eq_none e] at h
   simp at h
theorem symC_good {ts : List Tk} (hl : ts.length <= 3000) : GoodW (symC (itsOf ts)) 15 := by
 refine bumps_good 286 15 _ (by decide) ?_ (by decide) (by decide) (by decide)
 have h2 := itsOf_len ts
 unfold symK
 exact Nat.le_trans (List.length_filterMap_le _ _) (by omega)
theorem farC_good {ts : List Tk} (hl : ts.length <= 3000) : GoodW (farC (itsOf ts)) 15 := by
 refine bumps_good 30 15 _ (by decide) ?_ (by decide) (by decide) (by decide)
 have h2 := itsOf_len ts
 unfold farK
 exact Nat.le_trans (List.length_filterMap_le _ _) (by omega)
theorem symC_len (is : List It) : (symC is).length = 286 := by unfold symC; rw [bumps_length]; simp
theorem farC_len (is : List It) : (farC is).length = 30 := by unfold farC; rw [bumps_length]; simp
theorem symC_pos {is : List It} {k : Nat} (hk : k < 286) (h : It.sym k ∈ is) : 0 < (symC is).getD k 0 := by
 unfold symC
 rw [bumps_at _ _ k (by simpa using hk), zero_at]
 have := List.count_pos_iff.2 (mem_symK.2 h)
 omega
theorem farC_pos {is : List It} {k : Nat} (hk : k < 30) (h : It.far k ∈ is) : 0 < (farC is).getD k 0 := by
 unfold farC
 rw [bumps_at _ _ k (by simpa using hk), zero_at]
 have := List.count_pos_iff.2 (mem_farK.2 h)
 omega
theorem dyn_ok {ts : List Tk} {s f : List Int} (hv : ∀ t ∈ ts, VT t) (hl : ts.length <= 3000) (hs : IsLens (symC (itsOf ts)) 15 s) (hf : IsLens (farC (itsOf ts)) 15 f) : Dyn ts (trimL s 257) (trimL f 1) := by
 obtain ⟨g1, l1, v1, p1⟩ := lens_good (symC_good hl) hs
 obtain ⟨g2, l2, v2, p2⟩ := lens_good (farC_good hl) hf
 rw [symC_len] at l1 p1
 rw [farC_len] at l2 p2
 have hi := itsOf_vi hv
 have hA : ∀ k, It.sym k ∈ itsOf ts -> k < (trimL s 257).length /\ 0 < (trimL s 257).getD k 0 := by
  intro k hk
  have h286 : k < 286 := hi _ hk
  have hpos : 0 < (trimL s 257).getD k 0 := by rw [trimL_at]; exact p1 k h286 (symC_pos h286 hk)
  exact ⟨getD_pos_lt hpos, hpos⟩
 have hB : ∀ k, It.far k ∈ itsOf ts -> k < (trimL f 1).length /\ 0 < (trimL f 1).getD k 0 := by
  intro k hk
  have h30 : k < 30 := hi _ hk
  have hpos : 0 < (trimL f 1).getD k 0 := by rw [trimL_at]; exact p2 k h30 (farC_pos h30 hk)
  exact ⟨getD_pos_lt hpos, hpos⟩
 have t1 := trimF_ge s 257 s.length (by omega)
 have t2 := trimF_le s 257 s.length
 have t3 := trimF_ge f 1 f.length (by omega)
 have t4 := trimF_le f 1 f.length
 refine ⟨trim_good g1 257, trim_good g2 1, ?_, ?_, ?_, ?_, ⟨hA, hB⟩, (hA 256 (by simp [itsOf])).2⟩
 . rw [trimL_length]; exact t1
 . rw [trimL_length]; omega
 . rw [trimL_length]; exact t3
 . rw [trimL_length]; omega
theorem runZ_sym (x : Nat) (hx : x <= 15) : ∀ f m, ∀ i ∈ runZ x f m, i.1 < 19
 | 0, m, i, h => by cases h
 | f + 1, m, i, h => by
  rw [runZ] at h
  have ih := runZ_sym x hx f
  split at h
  . cases h
  . split at h
    . rcases List.mem_cons.1 h with rfl | h
      . simp only; omega
      . exact ih _ i h
    . split at h
      . rcases List.mem_cons.1 h with rfl | h
        . show 16 < 19; decide
        . exact ih _ i h
      . split at h
        . rcases List.mem_cons.1 h with rfl | h
          . show 17 < 19; decide
          . exact ih _ i h
        . rcases List.mem_cons.1 h with rfl | h
          . show 18 < 19; decide
          . exact ih _ i h
theorem runI_sym (x m : Nat) (hx : x <= 15) : ∀ i ∈ runI x m, i.1 < 19 := by
 intro i h
 unfold runI at h
 split at h
 . rcases List.mem_cons.1 h with rfl | h
   . simp only; omega
   . exact runZ_sym x hx _ _ i h
 . exact runZ_sym x hx _ _ i h
theorem lenI_sym : ∀ (f : Nat) (l : List Int), (∀ x ∈ l, 0 <= x /\ x <= 15) -> ∀ i ∈ lenI f l, i.1 < 19
 | 0, l, h, i, hi => by cases hi
 | f + 1, [], h, i, hi => by cases hi
 | f + 1, x :: r, h, i, hi => by
  have e : lenI (f + 1) (x :: r) = runI x.toNat (headN x r + 1) ++ lenI f (r.drop (headN x r)) := rfl
  rw [e] at hi
  rcases List.mem_append.1 hi with hi | hi
  . exact runI_sym _ _ (by have := h x (by simp); omega) i hi
  . exact lenI_sym f _ (fun y hy => h y (by simp [List.mem_of_mem_drop hy])) i hi
theorem runZ_bits (own : List Int) (hG : Good own) (h7 : ∀ k, own.getD k 0 <= 7) (x : Nat) : ∀ f m, (putRs own (runZ x f m)).length <= 7 * m /\ (runZ x f m).length <= m
 | 0, m => by rw [runZ]; exact ⟨Nat.zero_le _, Nat.zero_le _⟩
 | f + 1, m => by
  have hc : ∀ k, (codeT own k).length <= 7 := fun k => by rw [code_len own hG]; have := h7 k; omega
  have ih := runZ_bits own hG h7 x f
  rw [runZ]
  split
  . exact ⟨Nat.zero_le _, Nat.zero_le _⟩
  . split
    . have := ih (m - 1); have := hc x; rw [putRs_cons, List.length_append, putR_len own hG, List.length_cons]; simp only; omega
    . split
      . have := ih (m - min m 6); have := hc 16; rw [putRs_cons, List.length_append, putR_len own hG, List.length_cons]; simp only; omega
      . split
        . have := ih 0; have := hc 17; rw [putRs_cons, List.length_append, putR_len own hG, List.length_cons]; simp only; omega
        . have := ih (m - min m 138); have := hc 18; rw [putRs_cons, List.length_append, putR_len own hG, List.length_cons]; simp only; omega
theorem runI_bits (own : List Int) (hG : Good own) (h7 : ∀ k, own.getD k 0 <= 7) (x m : Nat) (hm : 1 <= m) : (putRs own (runI x m)).length <= 7 * m /\ (runI x m).length <= m := by
 have hc : ∀ k, (codeT own k).length <= 7 := fun k => by rw [code_len own hG]; have := h7 k; omega
 unfold runI
 split
 . have := runZ_bits own hG h7 x m (m - 1)
   have := hc x
   rw [putRs_cons, List.length_append, putR_len own hG, List.length_cons]
   simp only
   omega
 . exact runZ_bits own hG h7 x m m
theorem lenI_bits (own : List Int) (hG : Good own) (h7 : ∀ k, own.getD k 0 <= 7) : ∀ (f : Nat) (l : List Int), (putRs own (lenI f l)).length <= 7 * l.length /\ (lenI f l).length <= l.length
 | 0, l => by rw [lenI]; exact ⟨Nat.zero_le _, Nat.zero_le _⟩
 | f + 1, [] => ⟨Nat.zero_le _, Nat.zero_le _⟩
 | f + 1, x :: r => by
  have e : lenI (f + 1) (x :: r) = runI x.toNat (headN x r + 1) ++ lenI f (r.drop (headN x r)) := rfl
  have h1 := runI_bits own hG h7 x.toNat (headN x r + 1) (by omega)
  have h2 := lenI_bits own hG h7 f (r.drop (headN x r))
  have h3 := headN_le x r
  rw [List.length_drop] at h2
  rw [e, putRs_app, List.length_append, List.length_append, List.length_cons]
  omega
theorem good_zero : Good (List.replicate 19 0) := by
 refine errL_good ?_
 decide +kernel
theorem lenIs_len (all : List Int) : (lenIs all).length <= all.length := (lenI_bits (List.replicate 19 0) good_zero (fun k => by rw [zero_at]; decide) _ all).2
structure Own (all own : List Int) : Prop where
 go : Good own
 lo : own.length = 19
 vo : ∀ k, 0 <= own.getD k 0 /\ own.getD k 0 <= 7
 has : HasR own (lenIs all)
theorem runC_good {all : List Int} (hl : all.length <= 1000) : GoodW (runC (lenIs all)) 7 := by
 refine bumps_good 19 7 _ (by decide) ?_ (by decide) (by decide) (by decide)
 have := lenIs_len all
 simp
 omega
theorem runC_len (is : List (Nat × Nat × Nat)) : (runC is).length = 19 := by unfold runC; rw [bumps_length]; simp
theorem own_ok {all own : List Int} (hl : all.length <= 1000) (hx : ∀ x ∈ all, 0 <= x /\ x <= 15) (hs : IsLens (runC (lenIs all)) 7 own) : Own all own := by
 obtain ⟨g1, l1, v1, p1⟩ := lens_good (runC_good hl) hs
 rw [runC_len] at l1 p1
 refine ⟨g1, l1, fun k => ?_, ?_⟩
 . have := v1 k
   simpa using this
 . intro i hi
   have h19 := lenI_sym _ all hx i hi
   refine ⟨by omega, p1 i.1 h19 ?_⟩
   unfold runC
   rw [bumps_at _ _ i.1 (by simpa using h19), zero_at]
   have := List.count_pos_iff.2 (List.mem_map.2 ⟨i, hi, rfl⟩ : i.1 ∈ (lenIs all).map Prod.fst)
   omega
theorem good_mem {l : List Int} (hG : Good l) : ∀ x ∈ l, 0 <= x /\ x <= 15 := by
 intro x hm
 obtain ⟨j, hj, rfl⟩ := List.getElem_of_mem hm
 have := hG.ok j hj
 simpa [List.getD, hj] using this
end Go.Proofs.YtcdnbiiaoaeflafGreatDoor
namespace Go.Proofs.YtcdnbiiaoaeflafGreatDoor
open Go.RowKit
set_option linter.unusedVariables false
set_option maxRecDepth 100000
theorem runZ_zero (x f : Nat) : runZ x f 0 = [] := by cases f <;> simp [runZ]
theorem runZ_fuel (x : Nat) : ∀ m f, m <= f -> runZ x f m = runZ x m m := by
 intro m
 induction m using Nat.strongRecOn with
 | ind m ih =>
  intro f hf
  by_cases h0 : m = 0
  . subst h0; rw [runZ_zero, runZ_zero]
  . obtain ⟨f', rfl⟩ : ∃ f', f = f' + 1 := ⟨f - 1, by omega⟩
    obtain ⟨m', rfl⟩ : ∃ m', m = m' + 1 := ⟨m - 1, by omega⟩
    have t : ∀ c, 0 < c -> runZ x f' (m' + 1 - c) = runZ x m' (m' + 1 - c) := fun c hc => by rw [ih (m' + 1 - c) (by omega) f' (by omega), ih (m' + 1 - c) (by omega) m' (by omega)]
    rw [runZ, runZ, if_neg h0, if_neg h0, t 1 (by omega), t (min (m' + 1) 6) (by omega), t (min (m' + 1) 138) (by omega), runZ_zero, runZ_zero]
theorem runZ_step (x q : Nat) (h0 : 0 < q) : runZ x q q = if q < 3 then (x, 0, 0) :: runZ x (q - 1) (q - 1) else if 0 < x then (16, min q 6 - 3, 2) :: runZ x (q - min q 6) (q - min q 6) else if q < 11 then (17, q - 3, 3) :: runZ x (q - q) (q - q) else (18, min q 138 - 11, 7) :: runZ x (q - min q 138) (q - min q 138) := by
 obtain ⟨q', rfl⟩ : ∃ q', q = q' + 1 := ⟨q - 1, by omega⟩
 have t : ∀ c, 0 < c -> runZ x q' (q' + 1 - c) = runZ x (q' + 1 - c) (q' + 1 - c) := fun c hc => runZ_fuel x _ _ (by omega)
 rw [runZ, if_neg (by omega), t 1 (by omega), t (min (q' + 1) 6) (by omega), t (min (q' + 1) 138) (by omega), Nat.sub_self, runZ_zero, runZ_zero]
structure Snk3 (J : List (Nat × Nat × Nat) -> World -> Prop) (Ki : World -> World -> Prop) (kf : Nat) (cf : Array Value) (all : List (Nat × Nat × Nat)) : Prop where
 ef : ∀ (args : Array Value) (w : World), (callFunc kf args).run Tryz.prog w = .ok (.enter kf args) w
 step : ∀ {is R : List (Nat × Nat × Nat)} {i : Nat × Nat × Nat} {W : World}, is ++ i :: R = all -> J is W -> Calls Tryz.prog kf (#[.int .i64 (i.1 : Int), .int .i64 (i.2.1 : Int), .int .i64 (i.2.2 : Int)] ++ cf) W fun e W' => e = .returned (.tuple #[]) /\ J (is ++ [i]) W' /\ Ki W W'
 refl : ∀ W, Ki W W
 jd : ∀ {is : List (Nat × Nat × Nat)} {W : World} (q : Nat), J is W -> J is (W.drewN q)
 kd : ∀ (W : World) (q : Nat), Ki W (W.drewN q)
 trans : ∀ {a b c}, Ki a b -> Ki b c -> Ki a c
theorem passRun_any (J : List (Nat × Nat × Nat) -> World -> Prop) (Ki : World -> World -> Prop) (kf : Nat) (cf : Array Value) (all : List (Nat × Nat × Nat)) (hK : Snk3 J Ki kf cf all) (x m : Nat) (IS R : List (Nat × Nat × Nat)) (w : World) (hx : x <= 15) (hm : 1 <= m) (hm2 : m <= 1000) (he : IS ++ runI x m ++ R = all) (hJ : J IS w) :
 Calls Tryz.prog 203 #[.int .i64 (x : Int), .int .i64 (m : Int), .func (.func kf) #[] cf] w fun e w' => e = .returned (.tuple #[]) /\ J (IS ++ runI x m) w' /\ Ki w w' := by
 have ef := hK.ef
 have HK := Hd hK
 have HJ := Hd hJ
 clear hK hJ
 obtain ⟨T, hT⟩ : ∃ T, IS ++ runI x m = T := ⟨_, rfl⟩
 rw [hT] at he
 have HE := Hd he
 have HT := Hd hT
 clear he
 rw [hT]
 clear hT
 go_enter Tryz.func203, Tryz.ntmps203
 go_upto_if 8 with (fail)
 go_cut [1] (fun v wc => ∃ (q : Nat) (IS2 : List (Nat × Nat × Nat)), v = .int .i64 (q : Int) /\ q <= 1000 /\ Hid (J IS2 wc /\ Ki w wc /\ IS2 ++ runZ x q q = T))
 case first =>
  by_cases h0 : 0 < x
  . have h0I : (0 : Int) < (x : Int) := by omega
    have hr : runI x m = (x, 0, 0) :: runZ x (m - 1) (m - 1) := by unfold runI; rw [if_pos h0, runZ_fuel x _ _ (by omega)]
    have HS := Hd ((uh HK).step (is := IS) (i := (x, 0, 0)) (R := runZ x (m - 1) (m - 1) ++ R) (W := w) (by rw [<- uh HE, <- uh HT, hr]; simp) (uh HJ))
    have HT2 : Hid (IS ++ [(x, 0, 0)] ++ runZ x (m - 1) (m - 1) = T) := Hd (by rw [<- uh HT, hr]; simp)
    go_wp2_with fail
    refine (uh HS).mono ?_
    rintro e w1 ⟨rfl, hJ1, hK1⟩
    have H1 := Hd (And.intro hJ1 hK1)
    clear hJ1 hK1
    go_wp2
    all_goals go_meet
    all_goals exact ⟨m - 1, IS ++ [(x, 0, 0)], by go_num, by omega, Hd ⟨(uh H1).1, (uh H1).2, uh HT2⟩⟩
  . have h0I : ¬ (0 : Int) < (x : Int) := by omega
    have hr : runI x m = runZ x m m := by unfold runI; rw [if_neg h0]
    have HT2 : Hid (IS ++ runZ x m m = T) := Hd (by rw [<- uh HT, hr])
    go_wp2
    all_goals go_meet
    all_goals exact ⟨m, IS, rfl, hm2, Hd ⟨uh HJ, (uh HK).refl _, uh HT2⟩⟩
 case rest =>
  obtain ⟨q0, IS0, rfl, hq0, hst0⟩ := hcut
  go_wp2_with fail
  go_loopw [1] (fun v wr => ∃ (q : Nat) (IS2 : List (Nat × Nat × Nat)), v = .int .i64 (q : Int) /\ q <= 1000 /\ Hid (J IS2 wr /\ Ki w wr /\ IS2 ++ runZ x q q = T)) (fun v _ => (intOf v).toNat)
  case atStart => exact ⟨q0, IS0, rfl, hq0, hst0⟩
  case round =>
   obtain ⟨q, IS2, rfl, hq, hst⟩ := hrel
   obtain ⟨j1, j2, j3⟩ := uh hst
   by_cases h0 : 0 < q
   . have h0I : (0 : Int) < (q : Int) := by omega
     have hs := runZ_step x q h0
     have STEP : ∀ (i : Nat × Nat × Nat) (c : Nat), runZ x q q = i :: runZ x (q - c) (q - c) -> Hid (Calls Tryz.prog kf (#[.int .i64 (i.1 : Int), .int .i64 (i.2.1 : Int), .int .i64 (i.2.2 : Int)] ++ cf) wr fun e W' => e = .returned (.tuple #[]) /\ J (IS2 ++ [i]) W' /\ Ki wr W') /\ Hid (IS2 ++ [i] ++ runZ x (q - c) (q - c) = T) := by
      intro i c hc
      refine ⟨Hd ((uh HK).step (is := IS2) (i := i) (R := runZ x (q - c) (q - c) ++ R) (by rw [<- uh HE, <- j3, hc]; simp) j1), Hd (by rw [<- j3, hc]; simp)⟩
     have HK2 := Hd j2
     clear hst j1 j2 j3
     by_cases h3 : q < 3
     . rw [if_pos h3] at hs
       obtain ⟨S1, S2⟩ := STEP _ _ hs
       have h3I : (q : Int) < 3 := by omega
       clear STEP hs
       go_wp2_with fail
       refine (uh S1).mono ?_
       rintro e w1 ⟨rfl, hJ1, hK1⟩
       have H1 := Hd (And.intro hJ1 ((uh HK).trans (uh HK2) hK1))
       clear hJ1 hK1
       go_wp2
       go_roundw
       case rel => exact ⟨q - 1, _, by go_num, by omega, Hd ⟨(uh H1).1, (uh H1).2, uh S2⟩⟩
       case measure => simp [intOf]; omega
     . rw [if_neg h3] at hs
       have h3I : ¬ (q : Int) < 3 := by omega
       by_cases hx0 : 0 < x
       . rw [if_pos hx0] at hs
         have hxI : (0 : Int) < (x : Int) := by omega
         rcases Nat.lt_trichotomy q 6 with h6 | h6 | h6
         . rw [show min q 6 = q by omega] at hs
           have h6I : (q : Int) < 6 := by omega
           obtain ⟨S1, S2⟩ := STEP _ _ hs
           rw [show ((q - 3 : Nat) : Int) = (q : Int) - 3 by omega] at S1
           clear STEP hs
           go_wp2_with fail
           refine (uh S1).mono ?_
           rintro e w1 ⟨rfl, hJ1, hK1⟩
           have H1 := Hd (And.intro hJ1 ((uh HK).trans (uh HK2) hK1))
           clear hJ1 hK1
           go_wp2
           go_roundw
           case rel => exact ⟨q - q, _, by go_num, by omega, Hd ⟨(uh H1).1, (uh H1).2, uh S2⟩⟩
           case measure => simp [intOf]; omega
         . subst h6
           obtain ⟨S1, S2⟩ := STEP _ _ hs
           clear STEP hs
           go_wp2_with fail
           refine (uh S1).mono ?_
           rintro e w1 ⟨rfl, hJ1, hK1⟩
           have H1 := Hd (And.intro hJ1 ((uh HK).trans (uh HK2) hK1))
           clear hJ1 hK1
           go_wp2
           go_roundw
           case rel => exact ⟨0, _, by go_num, by omega, Hd ⟨(uh H1).1, (uh H1).2, uh S2⟩⟩
           case measure => simp [intOf]
         . rw [show min q 6 = 6 by omega] at hs
           have h6I : (6 : Int) < (q : Int) := by omega
           obtain ⟨S1, S2⟩ := STEP _ _ hs
           clear STEP hs
           go_wp2_with fail
           refine (uh S1).mono ?_
           rintro e w1 ⟨rfl, hJ1, hK1⟩
           have H1 := Hd (And.intro hJ1 ((uh HK).trans (uh HK2) hK1))
           clear hJ1 hK1
           go_wp2
           go_roundw
           case rel => exact ⟨q - 6, _, by go_num, by omega, Hd ⟨(uh H1).1, (uh H1).2, uh S2⟩⟩
           case measure => simp [intOf]; omega
       . rw [if_neg hx0] at hs
         have hxI : ¬ (0 : Int) < (x : Int) := by omega
         by_cases h11 : q < 11
         . rw [if_pos h11] at hs
           have h11I : (q : Int) < 11 := by omega
           obtain ⟨S1, S2⟩ := STEP _ _ hs
           rw [show ((q - 3 : Nat) : Int) = (q : Int) - 3 by omega] at S1
           clear STEP hs
           go_wp2_with fail
           refine (uh S1).mono ?_
           rintro e w1 ⟨rfl, hJ1, hK1⟩
           have H1 := Hd (And.intro hJ1 ((uh HK).trans (uh HK2) hK1))
           clear hJ1 hK1
           go_wp2
           go_roundw
           case rel => exact ⟨q - q, _, by go_num, by omega, Hd ⟨(uh H1).1, (uh H1).2, uh S2⟩⟩
           case measure => simp [intOf]; omega
         . rw [if_neg h11] at hs
           have h11I : ¬ (q : Int) < 11 := by omega
           rcases Nat.lt_trichotomy q 138 with h6 | h6 | h6
           . rw [show min q 138 = q by omega] at hs
             have h6I : (q : Int) < 138 := by omega
             obtain ⟨S1, S2⟩ := STEP _ _ hs
             rw [show ((q - 11 : Nat) : Int) = (q : Int) - 11 by omega] at S1
             clear STEP hs
             go_wp2_with fail
             refine (uh S1).mono ?_
             rintro e w1 ⟨rfl, hJ1, hK1⟩
             have H1 := Hd (And.intro hJ1 ((uh HK).trans (uh HK2) hK1))
             clear hJ1 hK1
             go_wp2
             go_roundw
             case rel => exact ⟨q - q, _, by go_num, by omega, Hd ⟨(uh H1).1, (uh H1).2, uh S2⟩⟩
             case measure => simp [intOf]; omega
           . subst h6
             obtain ⟨S1, S2⟩ := STEP _ _ hs
             clear STEP hs
             go_wp2_with fail
             refine (uh S1).mono ?_
             rintro e w1 ⟨rfl, hJ1, hK1⟩
             have H1 := Hd (And.intro hJ1 ((uh HK).trans (uh HK2) hK1))
             clear hJ1 hK1
             go_wp2
             go_roundw
             case rel => exact ⟨0, _, by go_num, by omega, Hd ⟨(uh H1).1, (uh H1).2, uh S2⟩⟩
             case measure => simp [intOf]
           . rw [show min q 138 = 138 by omega] at hs
             have h6I : (138 : Int) < (q : Int) := by omega
             obtain ⟨S1, S2⟩ := STEP _ _ hs
             clear STEP hs
             go_wp2_with fail
             refine (uh S1).mono ?_
             rintro e w1 ⟨rfl, hJ1, hK1⟩
             have H1 := Hd (And.intro hJ1 ((uh HK).trans (uh HK2) hK1))
             clear hJ1 hK1
             go_wp2
             go_roundw
             case rel => exact ⟨q - 138, _, by go_num, by omega, Hd ⟨(uh H1).1, (uh H1).2, uh S2⟩⟩
             case measure => simp [intOf]; omega
   . obtain rfl : q = 0 := by omega
     rw [runZ_zero, List.append_nil] at j3
     have HF : Hid (J T wr /\ Ki w wr) := Hd ⟨by rw [<- j3]; exact j1, j2⟩
     clear hst j1 j2 j3
     go_wp2
     go_end0
     exact ⟨rfl, uh HF⟩
end Go.Proofs.YtcdnbiiaoaeflafGreatDoor
