import Derived.Laws.BitsAllLaws
import Derived.Test.YtcdnbiiaoaeflafGreatDoorQ0
import Derived.Test.YtcdnbiiaoaeflafGreatDoorQ10
namespace Go.Proofs.YtcdnbiiaoaeflafGreatDoor
set_option linter.unusedVariables false
def lft (n : Nat) : Nat := if n % 2 = 1 then (n / 2) ^^^ 3988292384 else n / 2
def lfts : Nat -> Nat -> Nat
 | 0, n => n
 | k + 1, n => lfts k (lft n)
def crcS (r x : Nat) : Nat := lfts 8 (r ^^^ x)
def crcR (r : Nat) (l : List Nat) : Nat := l.foldl crcS r
def crcN (p : Nat) (l : List Nat) : Nat := crcR (p ^^^ 4294967295) l ^^^ 4294967295
theorem crcR_nil (r : Nat) : crcR r [] = r := rfl
theorem crcR_cons (r x : Nat) (l : List Nat) : crcR r (x :: l) = crcR (crcS r x) l := rfl
theorem lfts_succ (k n : Nat) : lfts (k + 1) n = lft (lfts k n) := by
 induction k generalizing n with
 | zero => rfl
 | succ k ih => rw [lfts, ih, lfts]
theorem xor_mod2 (a b : Nat) : (a ^^^ b) % 2 = (a % 2 + b % 2) % 2 := by
 have h := Nat.xor_mod_two_eq_one (a := a) (b := b)
 have h1 := Nat.mod_two_eq_zero_or_one (a ^^^ b)
 have h2 := Nat.mod_two_eq_zero_or_one a
 have h3 := Nat.mod_two_eq_zero_or_one b
 rcases h1 with h1 | h1 <;> rcases h2 with h2 | h2 <;> rcases h3 with h3 | h3 <;> simp_all
theorem xor_div2 (a b : Nat) : (a ^^^ b) / 2 = a / 2 ^^^ b / 2 := by
 have := Nat.shiftRight_xor_distrib (a := a) (b := b) (i := 1)
 simpa [Nat.shiftRight_eq_div_pow] using this
theorem lft_xor (a b : Nat) : lft (a ^^^ b) = lft a ^^^ lft b := by
 unfold lft
 have h2 := Nat.mod_two_eq_zero_or_one a
 have h3 := Nat.mod_two_eq_zero_or_one b
 rw [xor_mod2, xor_div2]
 generalize a / 2 = A
 generalize b / 2 = B
 rcases h2 with h2 | h2 <;> rcases h3 with h3 | h3 <;> simp only [h2, h3]
 . simp
 . simp [Nat.xor_assoc]
 . rw [if_pos (by decide), if_pos trivial, if_neg (by decide), Nat.xor_assoc, Nat.xor_assoc, Nat.xor_comm B]
 . rw [if_neg (by decide), if_pos trivial, if_pos trivial, Nat.xor_assoc, Nat.xor_comm B, <- Nat.xor_assoc 3988292384, Nat.xor_self, Nat.zero_xor]
theorem lfts_xor : ∀ (k a b : Nat), lfts k (a ^^^ b) = lfts k a ^^^ lfts k b
 | 0, _, _ => rfl
 | k + 1, a, b => by rw [lfts, lft_xor, lfts_xor k]; rfl
theorem lft_two (y : Nat) : lft (2 * y) = y := by
 unfold lft
 rw [if_neg (by omega)]
 omega
theorem lfts_mul (k y : Nat) : lfts k (2 ^ k * y) = y := by
 induction k with
 | zero => simp [lfts]
 | succ k ih =>
  rw [lfts, show 2 ^ (k + 1) * y = 2 * (2 ^ k * y) by rw [Nat.pow_succ, Nat.mul_comm (2 ^ k) 2, Nat.mul_assoc], lft_two, ih]
theorem lft_lt {n : Nat} (h : n < 4294967296) : lft n < 4294967296 := by
 unfold lft
 by_cases e : n % 2 = 1
 . rw [if_pos e]
   exact Nat.xor_lt_two_pow (n := 32) (by omega) (by decide)
 . rw [if_neg e]; omega
theorem lfts_lt : ∀ (k : Nat) {n : Nat}, n < 4294967296 -> lfts k n < 4294967296
 | 0, _, h => h
 | k + 1, _, h => lfts_lt k (lft_lt h)
theorem lo_hi (k n : Nat) : n = n % 2 ^ k ^^^ 2 ^ k * (n / 2 ^ k) := by
 apply Nat.eq_of_testBit_eq
 intro i
 rw [Nat.testBit_xor, Nat.testBit_mod_two_pow, Nat.testBit_two_pow_mul, Nat.testBit_div_two_pow]
 by_cases h : i < k
 . simp [h, show ¬ (k <= i) by omega]
 . simp [h, show k <= i by omega, show i - k + k = i by omega]
theorem lfts_table (n : Nat) : lfts 8 n = lfts 8 (n % 256) ^^^ n / 256 := by
 have h := lo_hi 8 n
 conv => lhs; rw [h]
 rw [lfts_xor, lfts_mul]
theorem crcR_append : ∀ (a b : List Nat) (r : Nat), crcR r (a ++ b) = crcR (crcR r a) b
 | [], _, _ => by rw [crcR_nil, List.nil_append]
 | x :: a, b, r => by rw [List.cons_append, crcR_cons, crcR_append a, crcR_cons]
theorem crcR_lt : ∀ (l : List Nat) (r : Nat), (∀ x ∈ l, x < 256) -> r < 4294967296 -> crcR r l < 4294967296
 | [], r, _, h => by rw [crcR_nil]; exact h
 | x :: l, r, hl, h => by
  rw [crcR_cons]
  have hx := hl x (by simp)
  exact crcR_lt l _ (fun y hy => hl y (by simp [hy])) (lfts_lt 8 (Nat.xor_lt_two_pow (n := 32) h (by omega)))
theorem not_lt {n : Nat} (h : n < 4294967296) : n ^^^ 4294967295 < 4294967296 := Nat.xor_lt_two_pow (n := 32) h (by decide)
theorem crcN_lt {l : List Nat} {p : Nat} (hl : ∀ x ∈ l, x < 256) (h : p < 4294967296) : crcN p l < 4294967296 := not_lt (crcR_lt l _ hl (not_lt h))
theorem crcR_snoc (l : List Nat) (r x : Nat) : crcR r (l ++ [x]) = crcS (crcR r l) x := by rw [crcR_append, crcR_cons, crcR_nil]
def n8 (l : List UInt8) : List Nat := l.map UInt8.toNat
def o8 (l : List Nat) : List UInt8 := l.map UInt8.ofNat
theorem n8_len (l : List UInt8) : (n8 l).length = l.length := by simp [n8]
theorem o8_len (l : List Nat) : (o8 l).length = l.length := by simp [o8]
theorem n8_val (l : List UInt8) : ∀ x ∈ n8 l, x < 256 := by
 intro x hx
 obtain ⟨y, _, rfl⟩ := List.mem_map.1 hx
 exact y.toNat_lt
theorem o8_n8 (l : List UInt8) : o8 (n8 l) = l := by simp [o8, n8, Function.comp_def]
theorem n8_o8 {l : List Nat} (h : ∀ x ∈ l, x < 256) : n8 (o8 l) = l := by
 unfold n8 o8
 rw [List.map_map]
 conv => rhs; rw [<- List.map_id l]
 apply List.map_congr_left
 intro x hx
 have := h x hx
 simp
 omega
theorem val_getD {l : List Nat} (h : ∀ x ∈ l, x < 256) (j : Nat) : l.getD j 0 < 256 := by
 by_cases hk : j < l.length
 . have e : l.getD j 0 = l[j] := by simp [List.getD, hk]
   rw [e]
   exact h _ (List.getElem_mem hk)
 . simp [List.getD, hk]
theorem getD_val {l : List Nat} (h : ∀ j, l.getD j 0 < 256) : ∀ x ∈ l, x < 256 := by
 intro x hx
 obtain ⟨j, hj, rfl⟩ := List.getElem_of_mem hx
 have := h j
 simpa [List.getD, hj] using this
structure En where
 f : Fl
 meth : Nat
 pk : List Nat
 crc : Nat
def gone8 (b : Bool) : Nat := if b then 1 else 0
def midL (x : En) : List Nat := lowN 20 2 ++ lowN 0 2 ++ lowN x.meth 2 ++ lowN 0 4 ++ lowN x.crc 4 ++ lowN x.pk.length 4 ++ lowN x.f.bytes.length 4 ++ lowN x.f.name.length 2 ++ lowN 11 2
def extL (x : En) : List Nat := lowN 29297 2 ++ lowN 7 2 ++ lowN x.f.stamp.toNat 4 ++ lowN x.f.node.toNat 2 ++ lowN (gone8 x.f.gone) 1
def fstL (x : En) : List Nat := lowN 67324752 4 ++ midL x ++ n8 x.f.name ++ extL x ++ x.pk
def sndL (x : En) (p : Nat) : List Nat := lowN 33639248 4 ++ lowN 20 2 ++ midL x ++ lowN 0 10 ++ lowN p 4 ++ n8 x.f.name ++ extL x
def hereL : List En -> List Nat
 | [] => []
 | x :: r => fstL x ++ hereL r
def thereL : Nat -> List En -> List Nat
 | _, [] => []
 | p, x :: r => sndL x p ++ thereL (p + (fstL x).length) r
def endL (n size at_ : Nat) : List Nat := lowN 101010256 4 ++ lowN 0 4 ++ lowN n 2 ++ lowN n 2 ++ lowN size 4 ++ lowN at_ 4 ++ lowN 0 2
def archL (l : List En) : List Nat := hereL l ++ thereL 0 l ++ endL l.length (thereL 0 l).length (hereL l).length
theorem midL_len (x : En) : (midL x).length = 26 := by simp [midL, lowN_len]
theorem extL_len (x : En) : (extL x).length = 11 := by simp [extL, lowN_len]
theorem fstL_len (x : En) : (fstL x).length = 41 + x.f.name.length + x.pk.length := by simp [fstL, lowN_len, midL_len, extL_len, n8_len]; omega
theorem sndL_len (x : En) (p : Nat) : (sndL x p).length = 57 + x.f.name.length := by simp [sndL, lowN_len, midL_len, extL_len, n8_len]; omega
theorem endL_len (n s a : Nat) : (endL n s a).length = 22 := by simp [endL, lowN_len]
theorem here_app : ∀ (a b : List En), hereL (a ++ b) = hereL a ++ hereL b
 | [], b => rfl
 | x :: a, b => by rw [List.cons_append, hereL, here_app a b, hereL, List.append_assoc]
theorem there_app : ∀ (a b : List En) (p : Nat), thereL p (a ++ b) = thereL p a ++ thereL (p + (hereL a).length) b
 | [], b, p => by simp [thereL, hereL]
 | x :: a, b, p => by rw [List.cons_append, thereL, there_app a b, thereL, hereL, List.append_assoc, List.length_append, Nat.add_assoc]
theorem app_val {a b : List Nat} (ha : ∀ x ∈ a, x < 256) (hb : ∀ x ∈ b, x < 256) : ∀ x ∈ a ++ b, x < 256 := by
 intro x hx
 rcases List.mem_append.1 hx with h | h
 . exact ha x h
 . exact hb x h
theorem midL_val (x : En) : ∀ y ∈ midL x, y < 256 := by
 unfold midL
 repeat first | apply lowN_val | apply app_val
theorem extL_val (x : En) : ∀ y ∈ extL x, y < 256 := by
 unfold extL
 repeat first | apply lowN_val | apply app_val
theorem fstL_val (x : En) (h : ∀ y ∈ x.pk, y < 256) : ∀ y ∈ fstL x, y < 256 := by
 unfold fstL
 exact app_val (app_val (app_val (app_val (lowN_val _ _) (midL_val x)) (n8_val _)) (extL_val x)) h
theorem sndL_val (x : En) (p : Nat) : ∀ y ∈ sndL x p, y < 256 := by
 unfold sndL
 exact app_val (app_val (app_val (app_val (app_val (app_val (lowN_val _ _) (lowN_val _ _)) (midL_val x)) (lowN_val _ _)) (lowN_val _ _)) (n8_val _)) (extL_val x)
theorem here_val : ∀ (l : List En), (∀ x ∈ l, ∀ y ∈ x.pk, y < 256) -> ∀ y ∈ hereL l, y < 256
 | [], _ => fun y hy => by cases hy
 | x :: r, h => app_val (fstL_val x (h x (by simp))) (here_val r (fun z hz => h z (List.mem_cons_of_mem _ hz)))
theorem there_val : ∀ (l : List En) (p : Nat), ∀ y ∈ thereL p l, y < 256
 | [], _ => fun y hy => by cases hy
 | x :: r, p => app_val (sndL_val x p) (there_val r _)
theorem endL_val (n s a : Nat) : ∀ y ∈ endL n s a, y < 256 := by
 unfold endL
 repeat first | apply lowN_val | apply app_val
theorem arch_val (l : List En) (h : ∀ x ∈ l, ∀ y ∈ x.pk, y < 256) : ∀ y ∈ archL l, y < 256 := app_val (app_val (here_val l h) (there_val l 0)) (endL_val _ _ _)
def getB (k : Nat) (r : List Nat) : Option (List Nat × List Nat) := if r.length < k then none else some (r.take k, r.drop k)
theorem getB_app (a r : List Nat) {k : Nat} (h : a.length = k) : getB k (a ++ r) = some (a, r) := by
 unfold getB
 rw [if_neg (by rw [List.length_append]; omega), List.take_left' h, List.drop_left' h]
theorem getB_low (n k : Nat) (r : List Nat) : getB k (lowN n k ++ r) = some (lowN n k, r) := getB_app _ _ (lowN_len k n)
theorem getB_some {k : Nat} {r a q : List Nat} (h : getB k r = some (a, q)) : r = a ++ q /\ a.length = k := by
 unfold getB at h
 split at h
 . cases h
 . rename_i hk
   simp only [Option.some.injEq, Prod.mk.injEq] at h
   obtain ⟨rfl, rfl⟩ := h
   exact ⟨(List.take_append_drop _ _).symm, by rw [List.length_take]; omega⟩
theorem bind_getB {β : Type} {k : Nat} {r : List Nat} {f : List Nat × List Nat -> Option β} {y : β} (h : (getB k r).bind f = some y) :
 ∃ a q, r = a ++ q /\ a.length = k /\ f (a, q) = some y := by
 cases hg : getB k r with
 | none => rw [hg] at h; cases h
 | some p => rw [hg] at h; exact ⟨p.1, p.2, (getB_some hg).1, (getB_some hg).2, h⟩
def unpF (m : Nat) (pk : List Nat) : Option (List Nat) :=
 if m = 0 then some pk
 else if m = 8 then (if pk.length <= 6000 /\ (iunpk (rowB pk pk.length)).e = 0 /\ ((iunpk (rowB pk pk.length)).p + 7) / 8 = pk.length then some (iunpk (rowB pk pk.length)).out else none)
 else none
def entF (r : List Nat) : Option (En × List Nat) :=
 (getB 4 r).bind fun a1 => (getB 2 a1.2).bind fun a2 => (getB 4 a2.2).bind fun a3 => (getB 4 a3.2).bind fun a4 => (getB 4 a4.2).bind fun a5 =>
 (getB 4 a5.2).bind fun a6 => (getB 2 a6.2).bind fun a7 => (getB 2 a7.2).bind fun a8 => (getB (ofLowN a7.1) a8.2).bind fun a9 => (getB 4 a9.2).bind fun a10 =>
 (getB 4 a10.2).bind fun a11 => (getB 2 a11.2).bind fun a12 => (getB 1 a12.2).bind fun a13 => (getB (ofLowN a5.1) a13.2).bind fun a14 =>
 (unpF (ofLowN a2.1) a14.1).bind fun b => some (⟨⟨o8 a9.1, o8 b, (ofLowN a11.1 : Nat), (ofLowN a12.1 : Nat), decide (ofLowN a13.1 = 1)⟩, ofLowN a2.1, a14.1, ofLowN a4.1⟩, a14.2)
def entsF : Nat -> List Nat -> Option (List En)
 | 0, _ => none
 | F + 1, r => (getB 4 r).bind fun m => if ofLowN m.1 = 67324752 then (entF m.2).bind fun x => (entsF F x.2).map (x.1 :: ·) else some []
theorem entF_more {r : List Nat} {x : En} {q : List Nat} (h : entF r = some (x, q)) :
 q.length + 37 <= r.length /\ ((∀ z ∈ r, z < 256) -> (∀ z ∈ x.pk, z < 256) /\ ∀ z ∈ q, z < 256) /\ ∀ t, entF (r ++ t) = some (x, q ++ t) := by
 unfold entF at h
 obtain ⟨a1, r1, rfl, l1, h⟩ := bind_getB h
 dsimp only at h
 obtain ⟨a2, r2, rfl, l2, h⟩ := bind_getB h
 dsimp only at h
 obtain ⟨a3, r3, rfl, l3, h⟩ := bind_getB h
 dsimp only at h
 obtain ⟨a4, r4, rfl, l4, h⟩ := bind_getB h
 dsimp only at h
 obtain ⟨a5, r5, rfl, l5, h⟩ := bind_getB h
 dsimp only at h
 obtain ⟨a6, r6, rfl, l6, h⟩ := bind_getB h
 dsimp only at h
 obtain ⟨a7, r7, rfl, l7, h⟩ := bind_getB h
 dsimp only at h
 obtain ⟨a8, r8, rfl, l8, h⟩ := bind_getB h
 dsimp only at h
 obtain ⟨a9, r9, rfl, l9, h⟩ := bind_getB h
 dsimp only at h
 obtain ⟨a10, r10, rfl, l10, h⟩ := bind_getB h
 dsimp only at h
 obtain ⟨a11, r11, rfl, l11, h⟩ := bind_getB h
 dsimp only at h
 obtain ⟨a12, r12, rfl, l12, h⟩ := bind_getB h
 dsimp only at h
 obtain ⟨a13, r13, rfl, l13, h⟩ := bind_getB h
 dsimp only at h
 obtain ⟨a14, r14, rfl, l14, h⟩ := bind_getB h
 dsimp only at h
 cases hu : unpF (ofLowN a2) a14 with
 | none => rw [hu] at h; cases h
 | some b =>
  rw [hu] at h
  simp only [Option.bind_some, Option.some.injEq, Prod.mk.injEq] at h
  obtain ⟨rfl, rfl⟩ := h
  refine ⟨?_, fun hv => ⟨fun z hz => hv z (by simp [hz]), fun z hz => hv z (by simp [hz])⟩, fun t => ?_⟩
  . simp only [List.length_append]; omega
  . unfold entF
    simp only [List.append_assoc]
    rw [getB_app _ _ l1, Option.bind_some]
    dsimp only
    rw [getB_app _ _ l2, Option.bind_some]
    dsimp only
    rw [getB_app _ _ l3, Option.bind_some]
    dsimp only
    rw [getB_app _ _ l4, Option.bind_some]
    dsimp only
    rw [getB_app _ _ l5, Option.bind_some]
    dsimp only
    rw [getB_app _ _ l6, Option.bind_some]
    dsimp only
    rw [getB_app _ _ l7, Option.bind_some]
    dsimp only
    rw [getB_app _ _ l8, Option.bind_some]
    dsimp only
    rw [getB_app _ _ l9, Option.bind_some]
    dsimp only
    rw [getB_app _ _ l10, Option.bind_some]
    dsimp only
    rw [getB_app _ _ l11, Option.bind_some]
    dsimp only
    rw [getB_app _ _ l12, Option.bind_some]
    dsimp only
    rw [getB_app _ _ l13, Option.bind_some]
    dsimp only
    rw [getB_app _ _ l14, Option.bind_some]
    dsimp only
    rw [hu]
    rfl
theorem entsF_more : ∀ {F : Nat} {r : List Nat} {l : List En}, entsF F r = some l -> ∀ t, entsF F (r ++ t) = some l
 | 0, r, l, h, t => by cases h
 | F + 1, r, l, h, t => by
  unfold entsF at h ⊢
  obtain ⟨m, q, rfl, hl, h⟩ := bind_getB h
  dsimp only at h
  rw [List.append_assoc, getB_app _ _ hl, Option.bind_some]
  dsimp only
  split at h
  . rename_i hm
    rw [if_pos hm]
    cases he : entF q with
    | none => rw [he] at h; cases h
    | some p =>
     rw [he] at h
     rw [(entF_more (x := p.1) (q := p.2) he).2.2 t, Option.bind_some]
     simp only [Option.bind_some, Option.map_eq_some_iff] at h ⊢
     obtain ⟨l2, h1, h2⟩ := h
     exact ⟨l2, entsF_more h1 t, h2⟩
  . rename_i hm
    rw [if_neg hm]
    exact h
theorem entsF_val : ∀ {F : Nat} {r : List Nat} {l : List En}, entsF F r = some l -> (∀ z ∈ r, z < 256) -> ∀ x ∈ l, ∀ z ∈ x.pk, z < 256
 | 0, r, l, h, _ => by cases h
 | F + 1, r, l, h, hv => by
  unfold entsF at h
  obtain ⟨m, q, rfl, hl, h⟩ := bind_getB h
  dsimp only at h
  split at h
  . cases he : entF q with
    | none => rw [he] at h; cases h
    | some p =>
     rw [he] at h
     simp only [Option.bind_some, Option.map_eq_some_iff] at h
     obtain ⟨l2, h1, rfl⟩ := h
     have h2 := (entF_more (x := p.1) (q := p.2) he).2.1 (fun z hz => hv z (by simp [hz]))
     intro x hx
     rcases List.mem_cons.1 hx with rfl | hx
     . exact h2.1
     . exact entsF_val h1 h2.2 x hx
  . cases h
    intro x hx
    cases hx
structure EOk (x : En) : Prop where
 st : 0 <= x.f.stamp /\ x.f.stamp < 4294967296
 nd : 0 <= x.f.node /\ x.f.node < 65536
 nm : x.f.name.length < 65536
 pl : x.pk.length < 4294967296
 cr : x.crc < 4294967296
 mt : x.meth < 65536
 un : unpF x.meth x.pk = some (n8 x.f.bytes)
theorem entF_fst (x : En) (h : EOk x) (t : List Nat) : entF (midL x ++ n8 x.f.name ++ extL x ++ x.pk ++ t) = some (x, t) := by
 have e : midL x ++ n8 x.f.name ++ extL x ++ x.pk ++ t = (lowN 20 2 ++ lowN 0 2) ++ (lowN x.meth 2 ++ (lowN 0 4 ++ (lowN x.crc 4 ++ (lowN x.pk.length 4 ++ (lowN x.f.bytes.length 4 ++ (lowN x.f.name.length 2 ++ (lowN 11 2 ++ (n8 x.f.name ++ ((lowN 29297 2 ++ lowN 7 2) ++ (lowN x.f.stamp.toNat 4 ++ (lowN x.f.node.toNat 2 ++ (lowN (gone8 x.f.gone) 1 ++ (x.pk ++ t))))))))))))) := by
  simp only [midL, extL, List.append_assoc]
 obtain ⟨⟨st0, st1⟩, ⟨nd0, nd1⟩, nm, pl, cr, mt, un⟩ := h
 have o1 : ofLowN (lowN x.meth 2) = x.meth := ofLow_low 2 _ mt
 have o2 : ofLowN (lowN x.crc 4) = x.crc := ofLow_low 4 _ cr
 have o3 : ofLowN (lowN x.pk.length 4) = x.pk.length := ofLow_low 4 _ pl
 have o4 : ofLowN (lowN x.f.name.length 2) = x.f.name.length := ofLow_low 2 _ nm
 have o5 : ofLowN (lowN x.f.stamp.toNat 4) = x.f.stamp.toNat := ofLow_low 4 _ (by show _ < 4294967296; omega)
 have o6 : ofLowN (lowN x.f.node.toNat 2) = x.f.node.toNat := ofLow_low 2 _ (by show _ < 65536; omega)
 have o7 : ofLowN (lowN (gone8 x.f.gone) 1) = gone8 x.f.gone := ofLow_low 1 _ (by unfold gone8; split <;> decide)
 rw [e]
 unfold entF
 rw [getB_app _ _ (show (lowN 20 2 ++ lowN 0 2).length = 4 from rfl)]
 simp only [Option.bind_some, getB_low, o1, o2, o3, o4]
 rw [getB_app _ _ (n8_len x.f.name)]
 simp only [Option.bind_some]
 rw [getB_app _ _ (show (lowN 29297 2 ++ lowN 7 2).length = 4 from rfl)]
 simp only [Option.bind_some, getB_low, o5, o6, o7]
 rw [getB_app _ _ rfl]
 simp only [Option.bind_some, un, o8_n8, Option.some.injEq, Prod.mk.injEq, and_true]
 have e1 : ((x.f.stamp.toNat : Nat) : Int) = x.f.stamp := Int.toNat_of_nonneg st0
 have e2 : ((x.f.node.toNat : Nat) : Int) = x.f.node := Int.toNat_of_nonneg nd0
 have e3 : decide (gone8 x.f.gone = 1) = x.f.gone := by cases x.f.gone <;> rfl
 rw [e1, e2, e3]
theorem entsF_here : ∀ (l : List En) {F : Nat} {t : List Nat}, (∀ x ∈ l, EOk x) -> l.length < F -> (∃ m q, getB 4 t = some (m, q) /\ ofLowN m ≠ 67324752) -> entsF F (hereL l ++ t) = some l
 | [], 0, t, _, h, _ => by cases h
 | [], F + 1, t, _, _, ⟨m, q, h1, h2⟩ => by
  unfold entsF
  show (getB 4 t).bind _ = _
  rw [h1, Option.bind_some]
  dsimp only
  rw [if_neg h2]
 | x :: l, 0, t, _, h, _ => by cases h
 | x :: l, F + 1, t, h, hF, ht => by
  unfold entsF
  have e : hereL (x :: l) ++ t = lowN 67324752 4 ++ (midL x ++ n8 x.f.name ++ extL x ++ x.pk ++ (hereL l ++ t)) := by
   simp only [hereL, fstL, List.append_assoc]
  have hm : ofLowN (lowN 67324752 4) = 67324752 := ofLow_low 4 _ (by decide)
  rw [e, getB_low, Option.bind_some]
  dsimp only
  rw [if_pos hm, entF_fst x (h x (by simp)), Option.bind_some]
  dsimp only
  rw [entsF_here l (fun y hy => h y (List.mem_cons_of_mem _ hy)) (by simpa using hF) ht]
  rfl
theorem ents_arch (l : List En) (h : ∀ x ∈ l, EOk x) (t : List Nat) {F : Nat} (hF : l.length < F) : entsF F (archL l ++ t) = some l := by
 unfold archL
 rw [List.append_assoc, List.append_assoc]
 refine entsF_here l h hF ?_
 cases l with
 | nil =>
  refine ⟨lowN 101010256 4, (endL 0 0 0).drop 4 ++ t, ?_, by rw [ofLow_low 4 _ (by decide)]; decide⟩
  exact getB_app (lowN 101010256 4) ((endL 0 0 0).drop 4 ++ t) rfl
 | cons x r =>
  refine ⟨lowN 33639248 4, lowN 20 2 ++ (midL x ++ (lowN 0 10 ++ (lowN 0 4 ++ (n8 x.f.name ++ (extL x ++ (thereL (0 + (fstL x).length) r ++ (endL (x :: r).length (thereL 0 (x :: r)).length (hereL (x :: r)).length ++ t))))))), ?_, by rw [ofLow_low 4 _ (by decide)]; decide⟩
  rw [<- getB_low]
  simp only [thereL, sndL, List.append_assoc]
theorem arch_least (l : List En) : l.length + 22 <= (archL l).length := by
 have : ∀ l : List En, l.length <= (hereL l).length := by
  intro l
  induction l with
  | nil => exact Nat.zero_le _
  | cons x r ih => rw [hereL, List.length_append, fstL_len, List.length_cons]; omega
 have h := this l
 unfold archL
 rw [List.length_append, List.length_append, endL_len]
 omega
theorem arch_few (l : List En) : l.length < (archL l).length + 1 := by
 have := arch_least l
 omega
def sumsF (l : List En) : Bool := l.all fun x => decide (x.crc = crcN 0 (n8 x.f.bytes))
def readE (b : List Nat) : Nat :=
 if 12000 < b.length then 2
 else match entsF (b.length + 1) b with
  | none => 7
  | some l => if errM (l.map En.f) ≠ 0 \/ archL l ≠ b then 7 else if sumsF l = false then 10 else 0
def readL (b : List Nat) : List Fl := if readE b ≠ 0 then [] else ((entsF (b.length + 1) b).getD []).map En.f
theorem read_some {b : List Nat} (h : readE b = 0) : ∃ l, entsF (b.length + 1) b = some l /\ errM (l.map En.f) = 0 /\ archL l = b /\ sumsF l = true /\ readL b = l.map En.f /\ b.length <= 12000 := by
 have hL : readL b = ((entsF (b.length + 1) b).getD []).map En.f := by unfold readL; rw [if_neg (by rw [h]; decide)]
 unfold readE at h
 split at h
 . cases h
 . rename_i hb
   cases he : entsF (b.length + 1) b with
   | none => rw [he] at h; cases h
   | some l =>
    rw [he] at h hL
    dsimp only at h
    split at h
    . cases h
    . rename_i hc
      split at h
      . cases h
      . rename_i hs
        refine ⟨l, rfl, ?_, ?_, ?_, hL, by omega⟩
        . by_cases e : errM (l.map En.f) = 0
          . exact e
          . exact absurd (.inl e) hc
        . by_cases e : archL l = b
          . exact e
          . exact absurd (.inr e) hc
        . cases e : sumsF l
          . exact absurd e hs
          . rfl
theorem read_arch (l : List En) (h : ∀ x ∈ l, EOk x) (hc : errM (l.map En.f) = 0) (hs : sumsF l = true) (hn : (archL l).length <= 12000) : readE (archL l) = 0 /\ readL (archL l) = l.map En.f := by
 have he : entsF ((archL l).length + 1) (archL l) = some l := by
  have := ents_arch l h [] (arch_few l)
  rwa [List.append_nil] at this
 have h0 : readE (archL l) = 0 := by
  unfold readE
  rw [if_neg (by omega), he]
  dsimp only
  rw [if_neg (by intro hh; rcases hh with hh | hh; exact hh hc; exact hh rfl), if_neg (by rw [hs]; decide)]
 refine ⟨h0, ?_⟩
 unfold readL
 rw [if_neg (by rw [h0]; decide), he]
 rfl
theorem read_torn {b : List Nat} (hn : b.length <= 12000) (h : ∀ l, entsF (b.length + 1) b = some l -> archL l ≠ b) : readE b = 7 := by
 unfold readE
 rw [if_neg (by omega)]
 cases he : entsF (b.length + 1) b with
 | none => rfl
 | some l =>
  dsimp only
  rw [if_pos (.inr (h l he))]
theorem read_less (l : List En) (h : ∀ x ∈ l, EOk x) (hn : (archL l).length <= 12000) (b : List Nat) (z : Nat) (hb : archL l = b ++ [z]) : readE b = 7 := by
 have hl := congrArg List.length hb
 rw [List.length_append, List.length_singleton] at hl
 refine read_torn (by omega) (fun m hm e => ?_)
 have h1 := entsF_more hm [z]
 rw [<- hb] at h1
 have h2 := ents_arch l h [] (F := b.length + 1) (by have := arch_least l; omega)
 rw [List.append_nil] at h2
 rw [h2] at h1
 cases h1
 have := congrArg List.length e
 omega
theorem read_more (l : List En) (h : ∀ x ∈ l, EOk x) (t : List Nat) (ht : t ≠ []) (hn : (archL l).length + t.length <= 12000) : readE (archL l ++ t) = 7 := by
 refine read_torn (by rw [List.length_append]; omega) (fun m hm e => ?_)
 have h2 := ents_arch l h t (F := (archL l ++ t).length + 1) (by have := arch_few l; rw [List.length_append]; omega)
 rw [h2] at hm
 cases hm
 have := congrArg List.length e
 rw [List.length_append] at this
 have : t.length ≠ 0 := fun h => ht (List.length_eq_zero_iff.1 h)
 omega
end Go.Proofs.YtcdnbiiaoaeflafGreatDoor
