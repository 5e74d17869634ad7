/-
  Names that rise; what is shown, and what others lack; of lists alone.
-/
import Derived.Test.YtmgmganbamjnmaaGreatDoorS8
namespace Go.Proofs.YtmgmganbamjnmaaGreatDoor
open Go.RowKit
set_option linter.unusedVariables false
set_option maxRecDepth 100000
/-- the names rise -/
def NRise (l : List Fl) : Prop := ∀ (i j : Nat) (x y : Fl), l[i]? = some x → l[j]? = some y → i < j → cmpB x.name y.name < 0
def lookF (n : List UInt8) (l : List Fl) : Option Fl := l.find? fun y => y.name == n
/-- does b lack it? -/
def lackF (b : List Fl) (f : Fl) : Bool := match lookF f.name b with | none => true | some y => decide (0 < nwr f y)
theorem cmpB_le_trans {a b c : List UInt8} (h : cmpB a b < 0) (k : cmpB b c < 0) : cmpB a c < 0 := cmpB_trans h k
theorem errR_zero : ∀ (l : List Fl) (p : Option Fl), errR p l = 0 → (∀ f ∈ l, errV f = 0) ∧ NRise l ∧ (∀ x, p = some x → ∀ f ∈ l, cmpB x.name f.name < 0)
  | [], p, _ => ⟨fun f hf => absurd hf List.not_mem_nil, fun i j x y h => by simp at h, fun x _ f hf => absurd hf List.not_mem_nil⟩
  | f :: r, p, h => by
    rw [errR] at h
    split at h
    · rename_i h1; omega
    · rename_i h1
      split at h
      · omega
      · rename_i h2
        obtain ⟨k1, k2, k3⟩ := errR_zero r (some f) h
        have hv : errV f = 0 := by omega
        refine ⟨?_, ?_, ?_⟩
        · intro g hg
          rcases List.mem_cons.1 hg with rfl | hg
          · exact hv
          · exact k1 g hg
        · intro i j x y hx hy hij
          match i, j, hij with
          | 0, j + 1, _ =>
            simp at hx hy
            subst hx
            exact k3 f rfl y (List.mem_of_getElem? hy)
          | i + 1, j + 1, hij =>
            simp at hx hy
            exact k2 i j x y hx hy (by omega)
        · intro x hp g hg
          subst hp
          have hxf : cmpB x.name f.name < 0 := by
            have : behind (some x) f = true := by simpa using h2
            exact of_decide_eq_true this
          rcases List.mem_cons.1 hg with rfl | hg
          · exact hxf
          · exact cmpB_trans hxf (k3 f rfl g hg)
theorem rise_tail {f : Fl} {r : List Fl} (h : NRise (f :: r)) : NRise r ∧ ∀ g ∈ r, cmpB f.name g.name < 0 := by
  constructor
  · intro i j x y hx hy hij
    exact h (i + 1) (j + 1) x y (by simpa using hx) (by simpa using hy) (by omega)
  · intro g hg
    obtain ⟨j, hj, he⟩ := List.getElem_of_mem hg
    exact h 0 (j + 1) f g rfl (by simp [List.getElem?_eq_getElem hj, he]) (by omega)
theorem errR_of : ∀ (l : List Fl) (p : Option Fl), (∀ f ∈ l, errV f = 0) → NRise l → (∀ x, p = some x → ∀ f ∈ l, cmpB x.name f.name < 0) → errR p l = 0
  | [], p, _, _, _ => rfl
  | f :: r, p, h1, h2, h3 => by
    rw [errR]
    obtain ⟨k1, k2⟩ := rise_tail h2
    rw [if_neg (by simp [h1 f (by simp)]), if_neg ?_]
    · exact errR_of r (some f) (fun g hg => h1 g (List.mem_cons_of_mem _ hg)) k1 (fun x hx g hg => by cases hx; exact k2 g hg)
    · cases p with
      | none => simp [behind]
      | some x => simp [behind]; exact h3 x rfl f (by simp)
theorem errM_zero {l : List Fl} : errM l = 0 ↔ l.length ≤ 12 ∧ (∀ f ∈ l, errV f = 0) ∧ NRise l := by
  constructor
  · intro h
    have hl := errM_len h
    unfold errM at h
    rw [if_neg (by omega)] at h
    obtain ⟨k1, k2, _⟩ := errR_zero l none h
    exact ⟨hl, k1, k2⟩
  · rintro ⟨h1, h2, h3⟩
    unfold errM
    rw [if_neg (by omega)]
    exact errR_of l none h2 h3 (fun x hx => by cases hx)

def shownL (l : List Fl) : List Fl := if errM l = 0 then l.filter (fun f => !f.gone) else []
def lessL (a b : List Fl) : List Fl := if errE a b = 0 then a.filter (lackF b) else []
end Go.Proofs.YtmgmganbamjnmaaGreatDoor

/-
  Files, of lists alone: what comes together, in whatever order; what is lacked, what is shown.
-/
namespace Go.Proofs.YtmgmganbamjnmaaGreatDoor
open Go
set_option linter.unusedVariables false

theorem look_nil (n : List UInt8) : lookF n [] = none := rfl
theorem look_cons (n : List UInt8) (x : Fl) (l : List Fl) : lookF n (x :: l) = if x.name = n then some x else lookF n l := by
  unfold lookF
  rw [List.find?_cons]
  by_cases h : x.name = n
  · simp [h]
  · have h2 : (x.name == n) = false := by simpa using h
    rw [h2, if_neg h]
theorem look_some {n : List UInt8} {l : List Fl} {f : Fl} (h : lookF n l = some f) : f.name = n ∧ f ∈ l := by
  unfold lookF at h
  exact ⟨by simpa using List.find?_some h, List.mem_of_find?_eq_some h⟩
theorem look_none {n : List UInt8} {l : List Fl} (h : ∀ f ∈ l, cmpB n f.name < 0) : lookF n l = none := by
  unfold lookF
  rw [List.find?_eq_none]
  intro y hy
  simp
  intro e
  have := h y hy
  rw [e, cmpB_self] at this
  omega
theorem rise_cons {x : Fl} {l : List Fl} (h1 : NRise l) (h2 : ∀ g ∈ l, cmpB x.name g.name < 0) : NRise (x :: l) := by
  intro i j a b ha hb hij
  match i, j, hij with
  | 0, j + 1, _ =>
    simp at ha hb
    subst ha
    exact h2 b (List.mem_of_getElem? hb)
  | i + 1, j + 1, hij =>
    simp at ha hb
    exact h1 i j a b ha hb (by omega)
theorem rise_nil : NRise [] := fun i j x y h => by simp at h
theorem look_mem {l : List Fl} (hr : NRise l) {f : Fl} (hf : f ∈ l) : lookF f.name l = some f := by
  induction l with
  | nil => cases hf
  | cons x l ih =>
    obtain ⟨h1, h2⟩ := rise_tail hr
    rw [look_cons]
    rcases List.mem_cons.1 hf with rfl | hf
    · rw [if_pos rfl]
    · rw [if_neg ?_]
      · exact ih h1 hf
      · intro e
        have := h2 f hf
        rw [e, cmpB_self] at this
        omega
theorem rise_ext : ∀ (a b : List Fl), NRise a → NRise b → (∀ n, lookF n a = lookF n b) → a = b
  | [], [], _, _, _ => rfl
  | [], y :: b, _, _, h => by have := h y.name; rw [look_nil, look_cons, if_pos rfl] at this; cases this
  | x :: a, [], _, _, h => by have := h x.name; rw [look_nil, look_cons, if_pos rfl] at this; cases this
  | x :: a, y :: b, ha, hb, h => by
    obtain ⟨a1, a2⟩ := rise_tail ha
    obtain ⟨b1, b2⟩ := rise_tail hb
    rcases cmpB_three x.name y.name with hc | hc | hc
    · have h1 := h x.name
      have h2 : lookF x.name (y :: b) = none := look_none (fun f hf => by
        rcases List.mem_cons.1 hf with rfl | hf
        · omega
        · exact cmpB_trans (by omega) (b2 f hf))
      rw [look_cons, if_pos rfl, h2] at h1
      cases h1
    · have hn := cmpB_eq hc
      have h1 := h x.name
      rw [look_cons, if_pos rfl, look_cons, if_pos hn.symm] at h1
      have hxy : x = y := Option.some.inj h1
      subst hxy
      rw [rise_ext a b a1 b1 (fun n => ?_)]
      by_cases e : x.name = n
      · subst e
        rw [look_none a2, look_none b2]
      · have := h n
        rw [look_cons, look_cons, if_neg e, if_neg e] at this
        exact this
    · have hc' : cmpB y.name x.name < 0 := by have := cmpB_anti x.name y.name; omega
      have h1 := h y.name
      have h2 : lookF y.name (x :: a) = none := look_none (fun f hf => by
        rcases List.mem_cons.1 hf with rfl | hf
        · exact hc'
        · exact cmpB_trans hc' (a2 f hf))
      rw [h2, look_cons, if_pos rfl] at h1
      cases h1

def joinO : Option Fl → Option Fl → Option Fl
  | none, y => y
  | some x, none => some x
  | some x, some y => some (pickF x y)
theorem joinO_none (x : Option Fl) : joinO x none = x := by cases x <;> rfl
theorem pick_or (x y : Fl) : pickF x y = x ∨ pickF x y = y := by
  unfold pickF
  split
  · exact .inr rfl
  · exact .inl rfl
theorem pick_name {x y : Fl} (h : x.name = y.name) : (pickF x y).name = x.name := by
  rcases pick_or x y with e | e
  · rw [e]
  · rw [e, h]
theorem mem_tog : ∀ (a b : List Fl) (f : Fl), f ∈ tog a b → f ∈ a ∨ f ∈ b
  | [], b, f, h => by rw [tog_nil] at h; exact .inr h
  | x :: a, [], f, h => by rw [tog_nil'] at h; exact .inl h
  | x :: a, y :: b, f, h => by
    rcases cmpB_three x.name y.name with hc | hc | hc
    · rw [tog_lt (by omega)] at h
      rcases List.mem_cons.1 h with rfl | h
      · exact .inl (by simp)
      · rcases mem_tog a (y :: b) f h with h | h
        · exact .inl (List.mem_cons_of_mem _ h)
        · exact .inr h
    · rw [tog_eq hc] at h
      rcases List.mem_cons.1 h with rfl | h
      · rcases pick_or x y with e | e
        · rw [e]; exact .inl (by simp)
        · rw [e]; exact .inr (by simp)
      · rcases mem_tog a b f h with h | h
        · exact .inl (List.mem_cons_of_mem _ h)
        · exact .inr (List.mem_cons_of_mem _ h)
    · rw [tog_gt (by omega)] at h
      rcases List.mem_cons.1 h with rfl | h
      · exact .inr (by simp)
      · rcases mem_tog (x :: a) b f h with h | h
        · exact .inl h
        · exact .inr (List.mem_cons_of_mem _ h)
termination_by a b => a.length + b.length
theorem rise_tog : ∀ (a b : List Fl), NRise a → NRise b → NRise (tog a b)
  | [], b, _, hb => by rw [tog_nil]; exact hb
  | x :: a, [], ha, _ => by rw [tog_nil']; exact ha
  | x :: a, y :: b, ha, hb => by
    obtain ⟨a1, a2⟩ := rise_tail ha
    obtain ⟨b1, b2⟩ := rise_tail hb
    rcases cmpB_three x.name y.name with hc | hc | hc
    · rw [tog_lt (by omega)]
      refine rise_cons (rise_tog a (y :: b) a1 hb) (fun g hg => ?_)
      rcases mem_tog _ _ g hg with h | h
      · exact a2 g h
      · rcases List.mem_cons.1 h with rfl | h
        · omega
        · exact cmpB_trans (by omega) (b2 g h)
    · have hn := cmpB_eq hc
      rw [tog_eq hc]
      refine rise_cons (rise_tog a b a1 b1) (fun g hg => ?_)
      rw [pick_name hn]
      rcases mem_tog _ _ g hg with h | h
      · exact a2 g h
      · rw [hn]; exact b2 g h
    · have hc' : cmpB y.name x.name < 0 := by have := cmpB_anti x.name y.name; omega
      rw [tog_gt (by omega)]
      refine rise_cons (rise_tog (x :: a) b ha b1) (fun g hg => ?_)
      rcases mem_tog _ _ g hg with h | h
      · rcases List.mem_cons.1 h with rfl | h
        · exact hc'
        · exact cmpB_trans hc' (a2 g h)
      · exact b2 g h
termination_by a b => a.length + b.length
theorem look_tog : ∀ (a b : List Fl), NRise a → NRise b → ∀ n, lookF n (tog a b) = joinO (lookF n a) (lookF n b)
  | [], b, _, _, n => by rw [tog_nil, look_nil]; rfl
  | x :: a, [], _, _, n => by rw [tog_nil', look_nil, joinO_none]
  | x :: a, y :: b, ha, hb, n => by
    obtain ⟨a1, a2⟩ := rise_tail ha
    obtain ⟨b1, b2⟩ := rise_tail hb
    rcases cmpB_three x.name y.name with hc | hc | hc
    · rw [tog_lt (by omega), look_cons, look_tog a (y :: b) a1 hb n, look_cons n x a]
      by_cases e : x.name = n
      · rw [if_pos e, if_pos e]
        have h2 : lookF n (y :: b) = none := look_none (fun f hf => by
          rw [← e]
          rcases List.mem_cons.1 hf with rfl | hf
          · omega
          · exact cmpB_trans (by omega) (b2 f hf))
        rw [h2]
        rfl
      · rw [if_neg e, if_neg e]
    · have hn := cmpB_eq hc
      rw [tog_eq hc, look_cons, look_tog a b a1 b1 n, look_cons n x a, look_cons n y b, pick_name hn, ← hn]
      by_cases e : x.name = n
      · rw [if_pos e, if_pos e, if_pos e]; rfl
      · rw [if_neg e, if_neg e, if_neg e]
    · have hc' : cmpB y.name x.name < 0 := by have := cmpB_anti x.name y.name; omega
      rw [tog_gt (by omega), look_cons, look_tog (x :: a) b ha b1 n, look_cons n y b]
      by_cases e : y.name = n
      · rw [if_pos e, if_pos e]
        have h2 : lookF n (x :: a) = none := look_none (fun f hf => by
          rw [← e]
          rcases List.mem_cons.1 hf with rfl | hf
          · exact hc'
          · exact cmpB_trans hc' (a2 f hf))
        rw [h2]
        rfl
      · rw [if_neg e, if_neg e]
termination_by a b => a.length + b.length

theorem pick_comm {x y : Fl} (h : x.name = y.name) : pickF x y = pickF y x := by
  unfold pickF
  have ha := nwr_ord.anti x y
  rcases nwr_ord.three x y with h1 | h1 | h1
  · rw [if_pos (by omega), if_neg (by omega)]
  · rw [if_neg (by omega), if_neg (by omega)]; exact nwr_zero h1 h
  · rw [if_neg (by omega), if_pos (by omega)]
theorem pick_self (x y : Fl) (h : x.name = y.name) : pickF (pickF x y) x = pickF x y := by
  rcases pick_or x y with e | e
  · rw [e]; unfold pickF; rw [nwr_self, if_neg (by omega)]
  · rw [e, ← pick_comm h, e]
theorem pick_assoc {x y z : Fl} (h1 : x.name = y.name) (h2 : y.name = z.name) : pickF (pickF x y) z = pickF x (pickF y z) := by
  have a1 := nwr_ord.anti x y
  have a2 := nwr_ord.anti y z
  have a3 := nwr_ord.anti x z
  unfold pickF
  by_cases c1 : 0 < nwr y x
  · rw [if_pos c1]
    by_cases c2 : 0 < nwr z y
    · rw [if_pos c2]
      have : 0 < nwr z x := by
        have t := @Ord3.trans _ _ nwr_ord x y z (by omega) (by omega)
        rcases nwr_ord.three x z with e | e | e
        · omega
        · have := @Ord3.zero _ _ nwr_ord x z y e
          have := nwr_ord.anti z y
          omega
        · omega
      rw [if_pos this]
    · rw [if_neg c2, if_pos c1]
  · rw [if_neg c1]
    by_cases c2 : 0 < nwr z y
    · rw [if_pos c2]
    · rw [if_neg c2, if_neg c1]
      have : ¬ 0 < nwr z x := by
        have t := @Ord3.trans _ _ nwr_ord z y x (by omega) (by omega)
        omega
      rw [if_neg this]
theorem joinO_comm {n : List UInt8} {a b : List Fl} : joinO (lookF n a) (lookF n b) = joinO (lookF n b) (lookF n a) := by
  cases ha : lookF n a with
  | none => rw [joinO_none]; rfl
  | some x =>
    cases hb : lookF n b with
    | none => rfl
    | some y => exact congrArg some (pick_comm ((look_some ha).1.trans (look_some hb).1.symm))
theorem tog_comm {a b : List Fl} (ha : NRise a) (hb : NRise b) : tog a b = tog b a :=
  rise_ext _ _ (rise_tog a b ha hb) (rise_tog b a hb ha) (fun n => by rw [look_tog a b ha hb, look_tog b a hb ha, joinO_comm])
theorem tog_again {a b : List Fl} (ha : NRise a) (hb : NRise b) : tog (tog a b) a = tog a b := by
  have hr := rise_tog a b ha hb
  refine rise_ext _ _ (rise_tog _ a hr ha) hr (fun n => ?_)
  rw [look_tog _ a hr ha, look_tog a b ha hb]
  cases h1 : lookF n a with
  | none => rw [joinO_none]
  | some x =>
    cases h2 : lookF n b with
    | none => exact congrArg some (by have := pick_self x x rfl; rcases pick_or x x with e | e <;> exact e)
    | some y => exact congrArg some (pick_self x y ((look_some h1).1.trans (look_some h2).1.symm))
theorem tog_assoc {a b c : List Fl} (ha : NRise a) (hb : NRise b) (hc : NRise c) : tog (tog a b) c = tog a (tog b c) := by
  have h1 := rise_tog a b ha hb
  have h2 := rise_tog b c hb hc
  refine rise_ext _ _ (rise_tog _ c h1 hc) (rise_tog a _ ha h2) (fun n => ?_)
  rw [look_tog _ c h1 hc, look_tog a _ ha h2, look_tog a b ha hb, look_tog b c hb hc]
  cases k1 : lookF n a with
  | none => rfl
  | some x =>
    cases k2 : lookF n b with
    | none => rfl
    | some y =>
      cases k3 : lookF n c with
      | none => rfl
      | some z => exact congrArg some (pick_assoc ((look_some k1).1.trans (look_some k2).1.symm) ((look_some k2).1.trans (look_some k3).1.symm))
theorem rise_filter {l : List Fl} (p : Fl → Bool) (h : NRise l) : NRise (l.filter p) := by
  induction l with
  | nil => exact h
  | cons x l ih =>
    obtain ⟨h1, h2⟩ := rise_tail h
    rw [List.filter_cons]
    split
    · exact rise_cons (ih h1) (fun g hg => h2 g (List.mem_filter.1 hg).1)
    · exact ih h1
theorem look_filter {l : List Fl} (p : Fl → Bool) (h : NRise l) (n : List UInt8) : lookF n (l.filter p) = (lookF n l).filter p := by
  induction l with
  | nil => rfl
  | cons x l ih =>
    obtain ⟨h1, h2⟩ := rise_tail h
    rw [List.filter_cons, look_cons]
    by_cases e : x.name = n
    · rw [if_pos e]
      by_cases hp : p x = true
      · rw [if_pos hp, look_cons, if_pos e]; simp [Option.filter, hp]
      · have hn : lookF n l = none := look_none (fun f hf => by rw [← e]; exact h2 f hf)
        rw [if_neg hp, ih h1, hn]; simp [Option.filter, hp]
    · rw [if_neg e]
      by_cases hp : p x = true
      · rw [if_pos hp, look_cons, if_neg e]; exact ih h1
      · rw [if_neg hp]; exact ih h1
/-- what one lacks of another one brings it up to both -/
theorem tog_less {a b : List Fl} (ha : NRise a) (hb : NRise b) : tog a (b.filter (lackF a)) = tog a b := by
  have hf := rise_filter (lackF a) hb
  refine rise_ext _ _ (rise_tog a _ ha hf) (rise_tog a b ha hb) (fun n => ?_)
  rw [look_tog a _ ha hf, look_tog a b ha hb, look_filter _ hb]
  cases h2 : lookF n b with
  | none => rfl
  | some y =>
    have hy := (look_some h2).1
    cases h1 : lookF n a with
    | none =>
      have : lackF a y = true := by unfold lackF; rw [hy, h1]
      simp [Option.filter, this, joinO]
    | some x =>
      have : lackF a y = decide (0 < nwr y x) := by unfold lackF; rw [hy, h1]
      by_cases c : 0 < nwr y x
      · simp [Option.filter, this, joinO, c]
      · simp [Option.filter, this, joinO, c, pickF]
theorem errM_filter {l : List Fl} (p : Fl → Bool) (h : errM l = 0) : errM (l.filter p) = 0 := by
  obtain ⟨h1, h2, h3⟩ := errM_zero.1 h
  exact errM_zero.2 ⟨Nat.le_trans (List.length_filter_le _ _) h1, fun f hf => h2 f (List.mem_filter.1 hf).1, rise_filter p h3⟩
theorem errM_tog {a b : List Fl} (ha : errM a = 0) (hb : errM b = 0) (hl : (tog a b).length ≤ 12) : errM (tog a b) = 0 := by
  obtain ⟨_, a2, a3⟩ := errM_zero.1 ha
  obtain ⟨_, b2, b3⟩ := errM_zero.1 hb
  refine errM_zero.2 ⟨hl, fun f hf => ?_, rise_tog a b a3 b3⟩
  rcases mem_tog a b f hf with h | h
  · exact a2 f h
  · exact b2 f h
theorem bothE_zero {a b : List Fl} : bothE a b = 0 ↔ errM a = 0 ∧ errM b = 0 ∧ (tog a b).length ≤ 12 := by
  constructor
  · intro h
    by_cases he : errE a b = 0
    · obtain ⟨h1, h2⟩ := errE_zero.1 he
      refine ⟨h1, h2, ?_⟩
      by_cases hl : 12 < (tog a b).length
      · rw [bothE_full he hl] at h; cases h
      · omega
    · rw [bothE_bad he] at h; exact absurd h he
  · rintro ⟨h1, h2, h3⟩
    exact bothE_ok (errE_zero.2 ⟨h1, h2⟩) (by omega)
theorem both_comm (a b : List Fl) : (bothE a b = 0 ↔ bothE b a = 0) ∧ bothL a b = bothL b a := by
  have h : bothE a b = 0 ↔ bothE b a = 0 := by
    rw [bothE_zero, bothE_zero]
    constructor
    · rintro ⟨h1, h2, h3⟩
      exact ⟨h2, h1, by rw [tog_comm (errM_zero.1 h2).2.2 (errM_zero.1 h1).2.2]; exact h3⟩
    · rintro ⟨h1, h2, h3⟩
      exact ⟨h2, h1, by rw [tog_comm (errM_zero.1 h2).2.2 (errM_zero.1 h1).2.2]; exact h3⟩
  refine ⟨h, ?_⟩
  by_cases e : bothE a b = 0
  · rw [bothL_ok e, bothL_ok (h.1 e)]
    obtain ⟨h1, h2, h3⟩ := bothE_zero.1 e
    exact tog_comm (errM_zero.1 h1).2.2 (errM_zero.1 h2).2.2
  · rw [bothL_bad e, bothL_bad (fun k => e (h.2 k))]
/-- twice is once; what one lacks brings it up to both -/
theorem both_twice {a b : List Fl} (h : bothE a b = 0) : bothE (bothL a b) a = 0 ∧ bothL (bothL a b) a = bothL a b ∧ errE b a = 0 ∧ bothE a (lessL b a) = 0 ∧ bothL a (lessL b a) = bothL a b := by
  obtain ⟨h1, h2, h3⟩ := bothE_zero.1 h
  have r1 := (errM_zero.1 h1).2.2
  have r2 := (errM_zero.1 h2).2.2
  rw [bothL_ok h]
  have e1 : bothE (tog a b) a = 0 := bothE_zero.2 ⟨errM_tog h1 h2 h3, h1, by rw [tog_again r1 r2]; exact h3⟩
  have e2 : errE b a = 0 := errE_zero.2 ⟨h2, h1⟩
  have e3 : lessL b a = b.filter (lackF a) := by unfold lessL; rw [if_pos e2]
  have e4 : bothE a (lessL b a) = 0 := by rw [e3]; exact bothE_zero.2 ⟨h1, errM_filter _ h2, by rw [tog_less r1 r2]; exact h3⟩
  refine ⟨e1, ?_, e2, e4, ?_⟩
  · rw [bothL_ok e1, tog_again r1 r2]
  · rw [bothL_ok e4, e3, tog_less r1 r2]
theorem both_assoc {a b c : List Fl} (h : bothE a b = 0) (h1 : bothE (bothL a b) c = 0) (h2 : bothE b c = 0) : bothE a (bothL b c) = 0 ∧ bothL a (bothL b c) = bothL (bothL a b) c := by
  obtain ⟨k1, k2, k3⟩ := bothE_zero.1 h
  obtain ⟨_, k4, k5⟩ := bothE_zero.1 h2
  have r1 := (errM_zero.1 k1).2.2
  have r2 := (errM_zero.1 k2).2.2
  have r3 := (errM_zero.1 k4).2.2
  rw [bothL_ok h] at h1 ⊢
  rw [bothL_ok h2]
  have k6 := (bothE_zero.1 h1).2.2
  have e : bothE a (tog b c) = 0 := bothE_zero.2 ⟨k1, errM_tog k2 k4 k5, by rw [← tog_assoc r1 r2 r3]; exact k6⟩
  exact ⟨e, by rw [bothL_ok e, bothL_ok h1, tog_assoc r1 r2 r3]⟩
/-- nobody lacks anything of what they have -/
theorem both_lacks {a b : List Fl} (h : bothE a b = 0) : errE a (bothL a b) = 0 ∧ errE b (bothL a b) = 0 ∧ errE (bothL a b) (bothL a b) = 0 ∧ lessL a (bothL a b) = [] ∧ lessL b (bothL a b) = [] ∧ lessL (bothL a b) (bothL a b) = [] := by
  obtain ⟨h1, h2, h3⟩ := bothE_zero.1 h
  have r1 := (errM_zero.1 h1).2.2
  have r2 := (errM_zero.1 h2).2.2
  rw [bothL_ok h]
  have ht := errM_tog h1 h2 h3
  have rt := (errM_zero.1 ht).2.2
  have e1 : errE a (tog a b) = 0 := errE_zero.2 ⟨h1, ht⟩
  have e2 : errE b (tog a b) = 0 := errE_zero.2 ⟨h2, ht⟩
  have e3 : errE (tog a b) (tog a b) = 0 := errE_zero.2 ⟨ht, ht⟩
  refine ⟨e1, e2, e3, ?_, ?_, ?_⟩
  · unfold lessL
    rw [if_pos e1, List.filter_eq_nil_iff]
    intro f hf
    have hl := look_tog a b r1 r2 f.name
    rw [look_mem r1 hf] at hl
    unfold lackF
    rw [hl]
    cases k : lookF f.name b with
    | none => simp [joinO, nwr_self]
    | some y =>
      simp only [joinO]
      unfold pickF
      have := nwr_ord.anti f y
      split
      · simp; omega
      · simp [nwr_self]
  · unfold lessL
    rw [if_pos e2, List.filter_eq_nil_iff]
    intro f hf
    have hl := look_tog a b r1 r2 f.name
    rw [look_mem r2 hf] at hl
    unfold lackF
    rw [hl]
    cases k : lookF f.name a with
    | none => simp [joinO, nwr_self]
    | some x =>
      simp only [joinO]
      unfold pickF
      split
      · simp [nwr_self]
      · simp; omega
  · unfold lessL
    rw [if_pos e3, List.filter_eq_nil_iff]
    intro f hf
    unfold lackF
    rw [look_mem rt hf]
    simp [nwr_self]
/-- what is shown is shown again -/
theorem shown_again {l : List Fl} (h : errM l = 0) : errM (shownL l) = 0 ∧ shownL (shownL l) = shownL l ∧ (shownL l).length ≤ l.length := by
  have e : shownL l = l.filter (fun f => !f.gone) := by unfold shownL; rw [if_pos h]
  rw [e]
  have h2 := errM_filter (fun f => !f.gone) h
  refine ⟨h2, ?_, List.length_filter_le _ _⟩
  unfold shownL
  rw [if_pos h2, List.filter_filter]
  congr 1
  funext f
  simp
theorem bothL_err {a b : List Fl} (h : bothE a b = 0) : errM (bothL a b) = 0 := by
  obtain ⟨h1, h2, h3⟩ := bothE_zero.1 h
  rw [bothL_ok h]
  exact errM_tog h1 h2 h3
end Go.Proofs.YtmgmganbamjnmaaGreatDoor
