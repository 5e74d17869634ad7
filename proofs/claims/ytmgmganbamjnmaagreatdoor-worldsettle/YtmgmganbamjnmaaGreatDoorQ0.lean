/-
  Names, of lists alone: what stands between slashes, which parts may stand, where a text leads, what lies under what.
-/
import Derived.Lib.SplitLaws
import Derived.Lib.Strings
import Derived.Lib.Join
import Derived.Lib.SlTrimSet
namespace Go.Proofs.YtmgmganbamjnmaaGreatDoor
open Go
set_option linter.unusedVariables false

/-- bytes as a text -/
def B (l : List UInt8) : ByteArray := ⟨l.toArray⟩
theorem B_data (s : ByteArray) : B s.data.toList = s := by cases s; rfl
theorem data_B (l : List UInt8) : (B l).data.toList = l := rfl
theorem B_size (l : List UInt8) : (B l).size = l.length := by simp [B, ByteArray.size]
theorem size_len (s : ByteArray) : s.size = s.data.toList.length := (Array.length_toList).symm
theorem B_inj {a b : List UInt8} (h : B a = B b) : a = b := by
  have := congrArg (fun s => s.data.toList) h
  exact this
theorem B_eq {a b : List UInt8} : B a = B b ↔ a = b := ⟨B_inj, fun h => by rw [h]⟩
theorem B_app (a b : List UInt8) : (B a).append (B b) = B (a ++ b) := by simp [B, ByteArray.append]

/-- what stands between slashes -/
def spl : List UInt8 → List (List UInt8)
  | [] => [[]]
  | c :: r => if c = 47 then [] :: spl r else
    match spl r with
    | [] => [[c]]
    | p :: ps => (c :: p) :: ps

theorem spl_ne (l : List UInt8) : spl l ≠ [] := by
  cases l with
  | nil => simp [spl]
  | cons c r =>
    simp only [spl]
    split
    · simp
    · split <;> simp

theorem spl_cons_ne {c : UInt8} {r : List UInt8} (h : c ≠ 47) : ∃ p ps, spl r = p :: ps ∧ spl (c :: r) = (c :: p) :: ps := by
  cases hs : spl r with
  | nil => exact absurd hs (spl_ne r)
  | cons p ps => exact ⟨p, ps, rfl, by simp [spl, h, hs]⟩

/-- what stands between slashes, with slashes between, is the whole -/
def jn (ps : List (List UInt8)) : List UInt8 := Lib.join ps [47]
theorem jn_nil : jn [] = [] := rfl
theorem jn_one (p : List UInt8) : jn [p] = p := Lib.join_one _ _
theorem jn_two (p q : List UInt8) (r : List (List UInt8)) : jn (p :: q :: r) = p ++ 47 :: jn (q :: r) := by
  unfold jn
  rw [Lib.join_cons, Lib.join_cons]
  simp [Lib.joinTail]
theorem jn_app (a b : List (List UInt8)) (ha : a ≠ []) (hb : b ≠ []) : jn (a ++ b) = jn a ++ 47 :: jn b := by
  induction a with
  | nil => exact absurd rfl ha
  | cons p r ih =>
    cases r with
    | nil =>
      cases b with
      | nil => exact absurd rfl hb
      | cons q b => rw [List.singleton_append, jn_two, jn_one]
    | cons q r =>
      have h := ih (by simp)
      rw [List.cons_append, List.cons_append, jn_two, ← List.cons_append, h, jn_two]
      simp

theorem jn_spl : ∀ l : List UInt8, jn (spl l) = l
  | [] => by simp [spl, jn_one]
  | c :: r => by
    have ih := jn_spl r
    by_cases h : c = 47
    · subst h
      cases hs : spl r with
      | nil => exact absurd hs (spl_ne r)
      | cons p ps =>
        rw [show spl (47 :: r) = [] :: spl r from by simp [spl], hs, jn_two, ← hs, ih]
        rfl
    · obtain ⟨p, ps, h1, h2⟩ := spl_cons_ne (r := r) h
      rw [h2]
      rw [h1] at ih
      cases ps with
      | nil => rw [jn_one] at ih ⊢; rw [ih]
      | cons q ps => rw [jn_two] at ih ⊢; rw [← ih]; simp

theorem spl_len (l : List UInt8) : (spl l).length = l.count 47 + 1 := by
  induction l with
  | nil => simp [spl]
  | cons c r ih =>
    by_cases h : c = 47
    · subst h; simp [spl, ih]
    · obtain ⟨p, ps, h1, h2⟩ := spl_cons_ne (r := r) h
      rw [h2, List.count_cons_of_ne (by simpa using h), ← ih, h1]
      simp

/-- a part has no slash -/
theorem spl_no (l : List UInt8) : ∀ p ∈ spl l, (47 : UInt8) ∉ p := by
  induction l with
  | nil => intro p hp; simp [spl] at hp; subst hp; simp
  | cons c r ih =>
    by_cases h : c = 47
    · subst h
      intro p hp
      rw [show spl (47 :: r) = [] :: spl r from by simp [spl]] at hp
      rcases List.mem_cons.1 hp with h1 | h1
      · subst h1; simp
      · exact ih p h1
    · obtain ⟨q, qs, h1, h2⟩ := spl_cons_ne (r := r) h
      intro p hp
      rw [h2] at hp
      rcases List.mem_cons.1 hp with h3 | h3
      · subst h3
        have := ih q (by rw [h1]; simp)
        simp [this, Ne.symm h]
      · exact ih p (by rw [h1]; simp [h3])

/-- no part is longer than the whole -/
theorem spl_le (l : List UInt8) : ∀ p ∈ spl l, p.length ≤ l.length := by
  induction l with
  | nil => intro p hp; simp [spl] at hp; subst hp; simp
  | cons c r ih =>
    by_cases h : c = 47
    · subst h
      intro p hp
      rw [show spl (47 :: r) = [] :: spl r from by simp [spl]] at hp
      rcases List.mem_cons.1 hp with h1 | h1
      · subst h1; simp
      · have := ih p h1; simp; omega
    · obtain ⟨q, qs, h1, h2⟩ := spl_cons_ne (r := r) h
      intro p hp
      rw [h2] at hp
      rcases List.mem_cons.1 hp with h3 | h3
      · subst h3
        have := ih q (by rw [h1]; simp)
        simp; omega
      · have := ih p (by rw [h1]; simp [h3]); simp; omega

theorem spl_plain {p : List UInt8} (h : (47 : UInt8) ∉ p) : spl p = [p] := by
  induction p with
  | nil => simp [spl]
  | cons c r ih =>
    simp only [List.mem_cons, not_or] at h
    have := ih h.2
    simp [spl, this, Ne.symm h.1]

theorem spl_app {p : List UInt8} (h : (47 : UInt8) ∉ p) (r : List UInt8) : spl (p ++ 47 :: r) = p :: spl r := by
  induction p with
  | nil => simp [spl]
  | cons c p ih =>
    simp only [List.mem_cons, not_or] at h
    have := ih h.2
    simp [spl, this, Ne.symm h.1]

/-- parts without slashes, slashes between them: these parts -/
theorem spl_jn : ∀ ps : List (List UInt8), ps ≠ [] → (∀ p ∈ ps, (47 : UInt8) ∉ p) → spl (jn ps) = ps
  | [], h, _ => absurd rfl h
  | [p], _, h => by rw [jn_one]; exact spl_plain (h p (by simp))
  | p :: q :: r, _, h => by
    rw [jn_two, spl_app (h p (by simp)), spl_jn (q :: r) (by simp) (fun x hx => h x (by simp at hx ⊢; exact .inr hx))]

/-- the library's split at a slash -/
theorem splitK_spl : ∀ (l : List UInt8), Lib.splitK [47] 0 (Lib.count l [47]) l = spl l
  | [] => by
    rw [Lib.count_one]
    simp [spl, Lib.splitK]
  | c :: r => by
    have ih := splitK_spl r
    by_cases h : c = 47
    · subst h
      rw [Lib.count_cons_eq, Nat.add_comm]
      have hix : Lib.index (47 :: r) [47] = 0 := by rw [Lib.index]; simp [List.isPrefixOf]
      rw [Lib.splitK, hix]
      simp [spl, ih]
    · rw [Lib.count_cons_ne _ _ _ h]
      obtain ⟨p, ps, h1, h2⟩ := spl_cons_ne (r := r) h
      rw [h2]
      have hix : Lib.index (c :: r) [47] = if Lib.index r [47] == -1 then -1 else Lib.index r [47] + 1 := by
        rw [Lib.index]
        have hp : ([47] : List UInt8).isPrefixOf (c :: r) = false := by simp [List.isPrefixOf, Ne.symm h]
        rw [hp]
        simp
      rw [h1] at ih
      cases hk : Lib.count r [47] with
      | zero =>
        rw [hk] at ih
        simp only [Lib.splitK] at ih ⊢
        injection ih with i1 i2
        rw [i1, ← i2]
      | succ k =>
        rw [hk] at ih
        simp only [Lib.splitK] at ih ⊢
        by_cases hm : Lib.index r [47] = -1
        · rw [if_pos (by rw [hix, if_pos (by simp [hm])]; rfl)]
          rw [if_pos (by simp [hm])] at ih
          injection ih with i1 i2
          rw [i1, ← i2]
        · have hge := Lib.index_ge r [47]
          obtain ⟨j, hj⟩ : ∃ j : Nat, Lib.index r [47] = j := ⟨(Lib.index r [47]).toNat, by omega⟩
          have hix' : Lib.index (c :: r) [47] = ((j + 1 : Nat) : Int) := by rw [hix, if_neg (by simp [hm]), hj]; omega
          rw [hj] at ih
          rw [hix']
          rw [if_neg (by simp)] at ih
          rw [if_neg (by simp; omega)]
          injection ih with i1 i2
          simp only [Int.toNat_natCast, Nat.add_zero, List.take_succ_cons] at i1 ⊢
          rw [i1]
          congr 1

/-- the library's split of a text at a slash, as texts -/
theorem splitB_spl (s : ByteArray) : Lib.splitB ⟨#[47]⟩ 0 (Lib.countB s ⟨#[47]⟩) s = (spl s.data.toList).map B := by
  have h := Lib.splitB_data ⟨#[47]⟩ 0 (Lib.countB s ⟨#[47]⟩) s
  have h2 : Lib.countB s ⟨#[47]⟩ = Lib.count s.data.toList [47] := rfl
  have h3 : (⟨#[47]⟩ : ByteArray).data.toList = [47] := rfl
  rw [h2, h3, splitK_spl] at h
  rw [h2, ← h, List.map_map]
  have : (B ∘ fun x : ByteArray => x.data.toList) = id := by funext x; exact B_data x
  rw [this, List.map_id]
theorem countB_spl (s : ByteArray) : Lib.countB s ⟨#[47]⟩ + 1 = (spl s.data.toList).length := by
  rw [spl_len]
  have h2 : Lib.countB s ⟨#[47]⟩ = Lib.count s.data.toList [47] := rfl
  rw [h2, Lib.count_one]

/-! ### parts that may stand -/
def okB (c : UInt8) : Bool := (97 ≤ c && c ≤ 122) || (65 ≤ c && c ≤ 90) || (48 ≤ c && c ≤ 57) || c == 46 || c == 95 || c == 45
def okP (p : List UInt8) : Bool := p != [] && p != [46] && p != [46, 46] && p.all okB
/-- what is wrong with a name: too many bytes, a part that may not stand -/
def errN (l : List UInt8) : Nat := if 40 < l.length then 2 else if (spl l).all okP then 0 else 1
theorem errN_le (l : List UInt8) : errN l ≤ 2 := by
  unfold errN
  split
  · omega
  · split <;> omega
theorem errN_ok {l : List UInt8} (h : errN l = 0) : l.length ≤ 40 ∧ (spl l).all okP = true := by
  unfold errN at h
  split at h
  · omega
  · split at h
    · exact ⟨by omega, by assumption⟩
    · omega
theorem errN_of {l : List UInt8} (h : l.length ≤ 40) (h2 : (spl l).all okP = true) : errN l = 0 := by
  unfold errN
  rw [if_neg (by omega), if_pos h2]
theorem errN_nil : errN [] = 1 := by decide
theorem errN_ne {l : List UInt8} (h : errN l = 0) : l ≠ [] := by
  intro e
  rw [e, errN_nil] at h
  omega

/-- the bytes that may stand, as the document's reader lists them -/
def cutset : List UInt8 := [97, 98, 99, 100, 101, 102, 103, 104, 105, 106, 107, 108, 109, 110, 111, 112, 113, 114, 115, 116, 117, 118, 119, 120, 121, 122, 65, 66, 67, 68, 69, 70, 71, 72, 73, 74, 75, 76, 77, 78, 79, 80, 81, 82, 83, 84, 85, 86, 87, 88, 89, 90, 48, 49, 50, 51, 52, 53, 54, 55, 56, 57, 46, 95, 45]
theorem okB_cut : ∀ c : UInt8, cutset.contains c = okB c := by
  have h : ∀ n : Fin 256, cutset.contains (UInt8.ofNat n.val) = okB (UInt8.ofNat n.val) := by decide +kernel
  intro c
  have := h ⟨c.toNat, c.toNat_lt⟩
  simpa using this
theorem dw_nil {f : UInt8 → Bool} {l : List UInt8} : l.dropWhile f = [] ↔ ∀ x ∈ l, f x = true := by
  induction l with
  | nil => simp
  | cons c r ih =>
    rw [List.dropWhile_cons]
    split
    · rename_i h; rw [ih]; simp [h]
    · rename_i h; simp [h]
theorem trim_nil {l : List UInt8} : Lib.trimS l cutset = [] ↔ l.all okB = true := by
  have e : (fun b => cutset.contains b) = okB := by funext c; exact okB_cut c
  unfold Lib.trimS Lib.trimLeftS Lib.trimRightS
  rw [e]
  constructor
  · intro h
    rw [dw_nil] at h
    have h2 : l.reverse.dropWhile okB = [] := by
      cases hd : l.reverse.dropWhile okB with
      | nil => rfl
      | cons x xs =>
        have hx : ¬ okB x = true := by
          have := List.head_dropWhile_not okB (l := l.reverse) (by rw [hd]; simp)
          simpa [hd] using this
        exact absurd (h x (by rw [hd]; simp)) hx
    rw [dw_nil] at h2
    rw [List.all_eq_true]
    intro x hx
    exact h2 x (by simpa using hx)
  · intro h
    have h2 : l.reverse.dropWhile okB = [] := by
      rw [dw_nil]
      intro x hx
      exact List.all_eq_true.1 h x (by simpa using hx)
    rw [h2]
    rfl

/-! ### where a text leads -/
def walkF (own : Nat) : List (List UInt8) → List (List UInt8) → Option (List (List UInt8))
  | acc, [] => some acc
  | acc, p :: r => if p = [] ∨ p = [46] then walkF own acc r else if p = [46, 46] then (if acc.length ≤ own then none else walkF own acc.dropLast r) else walkF own (acc ++ [p]) r
/-- the parts of the folder; its error -/
def ownF (f : List UInt8) : List (List UInt8) := if f = [] then [] else spl f
def errF (f : List UInt8) : Nat := if f = [] then 0 else errN f
/-- what is joined, and what is wrong -/
def joinF (f s : List UInt8) : List UInt8 × Nat :=
  if 160 < f.length + s.length then ([], 2) else
  if errF f ≠ 0 then ([], errF f) else
  match walkF (ownF f).length (ownF f) (spl s) with
  | none => ([], 1)
  | some ps => if errN (jn ps) ≠ 0 then ([], errN (jn ps)) else (jn ps, 0)

theorem walkF_pre (own : Nat) (a : List (List UInt8)) (ha : a.length = own) : ∀ (ps acc r : List (List UInt8)), (∃ t, acc = a ++ t) → walkF own acc ps = some r → ∃ t, r = a ++ t
  | [], acc, r, h, hw => by simp [walkF] at hw; rw [← hw]; exact h
  | p :: ps, acc, r, ⟨t, h⟩, hw => by
    simp only [walkF] at hw
    split at hw
    · exact walkF_pre own a ha ps acc r ⟨t, h⟩ hw
    · split at hw
      · split at hw
        · exact absurd hw (by simp)
        · rename_i hl
          refine walkF_pre own a ha ps _ r ?_ hw
          subst h
          have : t ≠ [] := by intro e; subst e; simp [ha] at hl
          exact ⟨t.dropLast, by rw [List.dropLast_append_of_ne_nil this]⟩
      · exact walkF_pre own a ha ps _ r ⟨t ++ [p], by rw [h, List.append_assoc]⟩ hw

/-- parts that may stand lead to themselves -/
theorem walkF_ok (own : Nat) : ∀ (ps acc : List (List UInt8)), ps.all okP = true → walkF own acc ps = some (acc ++ ps)
  | [], acc, _ => by simp [walkF]
  | p :: ps, acc, h => by
    simp only [List.all_cons, Bool.and_eq_true] at h
    have hp := h.1
    simp only [okP, Bool.and_eq_true, bne_iff_ne] at hp
    simp only [walkF]
    rw [if_neg (by simp [hp.1.1.1, hp.1.1.2]), if_neg hp.1.2, walkF_ok own ps _ h.2]
    simp

theorem joinF_err {f s : List UInt8} (h : (joinF f s).2 = 0) : f.length + s.length ≤ 160 ∧ errF f = 0 ∧ ∃ ps, walkF (ownF f).length (ownF f) (spl s) = some ps ∧ errN (jn ps) = 0 ∧ joinF f s = (jn ps, 0) := by
  unfold joinF at h ⊢
  split at h
  · exact absurd h (by simp)
  · rename_i h1
    split at h
    · rename_i h2; exact absurd h h2
    · rename_i h2
      rw [if_neg h1, if_neg h2]
      simp only [ne_eq, Decidable.not_not] at h2
      split at h
      · exact absurd h (by simp)
      · rename_i ps hw
        split at h
        · rename_i h3; exact absurd h h3
        · rename_i h3
          rw [hw]
          refine ⟨by omega, h2, ps, rfl, by simpa using h3, ?_⟩
          simp only [if_neg h3]
theorem joinF_le (f s : List UInt8) : (joinF f s).2 ≤ 2 := by
  unfold joinF
  split
  · simp
  · split
    · unfold errF; simp only; split
      · omega
      · exact errN_le _
    · split
      · simp
      · split
        · exact errN_le _
        · simp
theorem joinF_nil {f s : List UInt8} (h : (joinF f s).2 ≠ 0) : (joinF f s).1 = [] := by
  revert h
  unfold joinF
  split
  · simp
  · split
    · simp
    · split
      · simp
      · split <;> simp

/-- what is joined is a name -/
theorem joinF_name {f s : List UInt8} (h : (joinF f s).2 = 0) : errN (joinF f s).1 = 0 := by
  obtain ⟨_, _, ps, _, h3, h4⟩ := joinF_err h
  rw [h4]
  exact h3
/-- a name joined to nothing is itself -/
theorem joinF_self {t : List UInt8} (h : errN t = 0) : joinF [] t = (t, 0) := by
  obtain ⟨h1, h2⟩ := errN_ok h
  unfold joinF
  rw [if_neg (by simp; omega), if_neg (by simp [errF])]
  simp only [ownF, if_true]
  rw [walkF_ok _ _ _ h2]
  simp only [List.nil_append, jn_spl]
  rw [if_neg (by simp [h])]
/-- what is joined to a folder is it or lies under it -/
theorem joinF_under {f s : List UInt8} (hf : f ≠ []) (h : (joinF f s).2 = 0) : (joinF f s).1 = f ∨ (f ++ [47]).isPrefixOf (joinF f s).1 = true := by
  obtain ⟨h1, h2, ps, hw, h3, h4⟩ := joinF_err h
  rw [h4]
  have ho : ownF f = spl f := by simp [ownF, hf]
  rw [ho] at hw
  obtain ⟨t, ht⟩ := walkF_pre _ (spl f) rfl _ _ _ ⟨[], by simp⟩ hw
  subst ht
  cases t with
  | nil => left; simp [jn_spl]
  | cons x t =>
    right
    show (f ++ [47]).isPrefixOf (jn (spl f ++ x :: t)) = true
    rw [jn_app _ _ (spl_ne f) (by simp), jn_spl, List.isPrefixOf_iff_prefix]
    exact ⟨jn (x :: t), by simp⟩

/-! ### what lies under what -/
def under (s f : List UInt8) : Bool := (f ++ [47]).isPrefixOf s
theorem under_self (s : List UInt8) : under s s = false := by
  cases h : under s s with
  | false => rfl
  | true =>
    rw [under, List.isPrefixOf_iff_prefix] at h
    have := h.length_le
    simp at this
    omega
theorem under_trans {a b c : List UInt8} (h1 : under a b = true) (h2 : under b c = true) : under a c = true := by
  rw [under, List.isPrefixOf_iff_prefix] at h1 h2 ⊢
  exact h2.trans ((List.prefix_append b [47]).trans h1)
theorem under_back {a b : List UInt8} (h1 : under a b = true) : under b a = false := by
  cases h : under b a with
  | false => rfl
  | true =>
    have := under_trans h1 h
    rw [under_self] at this
    exact this.symm
/-- as the law says it -/
theorem under_is (s f : List UInt8) : under s f = (decide (f.length < s.length) && (s.take f.length == f) && (s[f.length]? == some 47)) := by
  rw [Bool.eq_iff_iff]
  simp only [under, List.isPrefixOf_iff_prefix, Bool.and_eq_true, decide_eq_true_eq, beq_iff_eq]
  constructor
  · rintro ⟨t, rfl⟩
    simp
  · rintro ⟨⟨h1, h2⟩, h3⟩
    refine ⟨s.drop (f.length + 1), ?_⟩
    have hd : s.drop f.length = 47 :: s.drop (f.length + 1) := by
      rw [List.drop_eq_getElem_cons h1]
      rw [List.getElem?_eq_getElem h1] at h3
      injection h3 with h3
      rw [h3]
    conv => rhs; rw [← List.take_append_drop f.length s, h2, hd]
    simp
end Go.Proofs.YtmgmganbamjnmaaGreatDoor
