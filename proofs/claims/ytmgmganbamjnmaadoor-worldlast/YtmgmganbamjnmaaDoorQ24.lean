/-
  Names that rise; what is shown, and what others lack; of lists alone.
-/
import Derived.Test.YtmgmganbamjnmaaDoorQ11
import Derived.Test.YtmgmganbamjnmaaDoorQ12
import Derived.Test.YtmgmganbamjnmaaDoorQ9
import Derived.Shelf.Abstract
namespace Go.Proofs.YtmgmganbamjnmaaDoor
open Go.RowKit
set_option linter.unusedVariables false
set_option maxRecDepth 100000
/-- the names rise -/
def NRise (l : List Fl) : Prop := ∀ (i j : Nat) (x y : Fl), l[i]? = some x → l[j]? = some y → i < j → cmpB x.name y.name < 0
def lookF (n : List UInt8) (l : List Fl) : Option Fl := l.find? fun y => y.name == n
/-- does b lack it? -/
def lackF (b : List Fl) (f : Fl) : Bool := match lookF f.name b with | none => true | some y => decide (0 < nwr f y)
theorem cmpB_le_trans {a b c : List UInt8} (h : cmpB a b < 0) (k : cmpB b c < 0) : cmpB a c < 0 := cmpB_trans h k
theorem errR_zero : ∀ (l : List Fl) (p : Option Fl), errR p l = 0 → (∀ f ∈ l, errV f = 0) ∧ NRise l ∧ (∀ x, p = some x → ∀ f ∈ l, cmpB x.name f.name < 0)
  | [], p, _ => ⟨fun f hf => absurd hf List.not_mem_nil, fun i j x y h => by simp at h, fun x _ f hf => absurd hf List.not_mem_nil⟩
  | f :: r, p, h => by
    rw [errR] at h
    split at h
    · rename_i h1; omega
    · rename_i h1
      split at h
      · omega
      · rename_i h2
        obtain ⟨k1, k2, k3⟩ := errR_zero r (some f) h
        have hv : errV f = 0 := by omega
        refine ⟨?_, ?_, ?_⟩
        · intro g hg
          rcases List.mem_cons.1 hg with rfl | hg
          · exact hv
          · exact k1 g hg
        · intro i j x y hx hy hij
          match i, j, hij with
          | 0, j + 1, _ =>
            simp at hx hy
            subst hx
            exact k3 f rfl y (List.mem_of_getElem? hy)
          | i + 1, j + 1, hij =>
            simp at hx hy
            exact k2 i j x y hx hy (by omega)
        · intro x hp g hg
          subst hp
          have hxf : cmpB x.name f.name < 0 := by
            have : behind (some x) f = true := by simpa using h2
            exact of_decide_eq_true this
          rcases List.mem_cons.1 hg with rfl | hg
          · exact hxf
          · exact cmpB_trans hxf (k3 f rfl g hg)
theorem rise_tail {f : Fl} {r : List Fl} (h : NRise (f :: r)) : NRise r ∧ ∀ g ∈ r, cmpB f.name g.name < 0 := by
  constructor
  · intro i j x y hx hy hij
    exact h (i + 1) (j + 1) x y (by simpa using hx) (by simpa using hy) (by omega)
  · intro g hg
    obtain ⟨j, hj, he⟩ := List.getElem_of_mem hg
    exact h 0 (j + 1) f g rfl (by simp [List.getElem?_eq_getElem hj, he]) (by omega)
theorem errR_of : ∀ (l : List Fl) (p : Option Fl), (∀ f ∈ l, errV f = 0) → NRise l → (∀ x, p = some x → ∀ f ∈ l, cmpB x.name f.name < 0) → errR p l = 0
  | [], p, _, _, _ => rfl
  | f :: r, p, h1, h2, h3 => by
    rw [errR]
    obtain ⟨k1, k2⟩ := rise_tail h2
    rw [if_neg (by simp [h1 f (by simp)]), if_neg ?_]
    · exact errR_of r (some f) (fun g hg => h1 g (List.mem_cons_of_mem _ hg)) k1 (fun x hx g hg => by cases hx; exact k2 g hg)
    · cases p with
      | none => simp [behind]
      | some x => simp [behind]; exact h3 x rfl f (by simp)
theorem errM_zero {l : List Fl} : errM l = 0 ↔ l.length ≤ 12 ∧ (∀ f ∈ l, errV f = 0) ∧ NRise l := by
  constructor
  · intro h
    have hl := errM_len h
    unfold errM at h
    rw [if_neg (by omega)] at h
    obtain ⟨k1, k2, _⟩ := errR_zero l none h
    exact ⟨hl, k1, k2⟩
  · rintro ⟨h1, h2, h3⟩
    unfold errM
    rw [if_neg (by omega)]
    exact errR_of l none h2 h3 (fun x hx => by cases hx)

def shownL (l : List Fl) : List Fl := if errM l = 0 then l.filter (fun f => !f.gone) else []
def lessL (a b : List Fl) : List Fl := if errE a b = 0 then a.filter (lackF b) else []
end Go.Proofs.YtmgmganbamjnmaaDoor

/-
  The library's slices.IndexFunc and slices.ContainsFunc over files, asked by any function.
-/
namespace Go.Proofs.YtmgmganbamjnmaaDoor
open Go.RowKit
set_option linter.unusedVariables false
set_option linter.unusedSimpArgs false
set_option maxRecDepth 100000
/-- a function of files, in memory -/
structure FnIs (w : World) (kf : Nat) (cp : Value) (p : Fl → Bool) : Prop where
  en : ∀ (args : Array Value) (w : World), (callFunc kf args).run Tryd.prog w = .ok (.enter kf args) w
  is : ∀ (y : Fv) (W : World), Below w.heap.size w W → Calls Tryd.prog kf #[y.val, cp] W fun e w' => e = .returned (.bool (p y.f)) ∧ Below W.heap.size W w'
/-- where the first one lies -/
def Found (p : Fl → Bool) (l : List Fl) (r : Int) : Prop := (r = -1 ∧ ∀ f ∈ l, p f = false) ∨ ∃ (i : Nat) (f : Fl), r = (i : Int) ∧ l[i]? = some f ∧ p f = true ∧ ∀ j g, j < i → l[j]? = some g → p g = false
set_option maxHeartbeats 2000000 in
theorem indexFn_any {kf : Nat} {cp : Value} {p : Fl → Bool} (bd : Option Addr) (d : Nat) (ys : List Fv) (w : World) (k : FsIn w bd d ys) (m : Nat) (hm : ys.length = m) (hf : FnIs w kf cp p) :
    Calls Tryd.prog 13 #[.slice bd m d, .func (.func kf) #[] #[cp]] w fun e w' => ∃ r : Int, e = .returned (.int .i64 r) ∧ Found p (fls ys) r ∧ Below w.heap.size w w' := by
  have HK := hide k
  have HM := hide hm
  have hlim := k.lim
  rw [hm] at hlim
  have HP := hide hf.is
  have hen := hf.en
  clear k hm hf
  go_enter Tryd.func13, Tryd.ntmps13
  go_wp2
  go_loopw [5, 8] (fun _ i wr => ∃ k : Nat, k ≤ m ∧ i = .int .i64 (k : Int) ∧ Hid (∀ (j : Nat) (g : Fl), j < k → (fls ys)[j]? = some g → p g = false) ∧ Hid (Below w.heap.size w wr)) (fun _ i _ => m - (intOf i).toNat)
  case atStart => exact ⟨0, Nat.zero_le _, rfl, hide (fun j g hj => by omega), Below.refl _ _⟩
  case round =>
    obtain ⟨k, hk, rfl, HL, HB⟩ := hrel
    by_cases hlt : k < m
    · obtain ⟨y, hy, hym⟩ := get_of (xs := ys) (k := k) (by rw [unhide HM]; exact hlt)
      obtain ⟨b, o, hA, hb, c0, c1, c2, c3, c4⟩ := (unhide HK).get (unhide HB) hy
      have hyf : (fls ys)[k]? = some y.f := by simp [fls, hy]
      have HYF := hide hyf
      have HPY := hide (unhide HP y wr (unhide HB))
      rw [val_is] at HPY
      have hys : y.sl = .slice y.a y.f.bytes.length y.c := rfl
      rw [hys] at c1
      obtain ⟨q, hq⟩ : ∃ q, p y.f = q := ⟨_, rfl⟩
      rw [hq] at HPY
      have HQ := hide hq
      clear hyf hys hq hy hym
      subst hA
      generalize B y.f.name = t at *
      generalize y.f.bytes.length = n2 at *
      generalize y.f.stamp = s2 at *
      generalize y.f.node = d2 at *
      generalize y.f.gone = g2 at *
      go_wp2_with fail
      refine (unhide HPY).mono ?_
      rintro e w1 ⟨rfl, hb1⟩
      have HB1 := hide ((unhide HB).trans (hb1.mono (unhide HB).size))
      clear hb1
      cases q with
      | true =>
        go_wp2
        go_ret
        exact ⟨k, rfl, .inr ⟨k, y.f, rfl, unhide HYF, unhide HQ, unhide HL⟩, unhide HB1⟩
      | false =>
        have HL2 : Hid (∀ (j : Nat) (g : Fl), j < k + 1 → (fls ys)[j]? = some g → p g = false) := hide (fun j g hj hg => by
          by_cases hjk : j < k
          · exact unhide HL j g hjk hg
          · obtain rfl : j = k := by omega
            rw [unhide HYF] at hg
            cases hg
            exact unhide HQ)
        go_wp2
        go_roundw
        case rel => exact ⟨k + 1, by omega, by go_num, HL2, unhide HB1⟩
        case measure => simp [intOf]; omega
    · obtain rfl : m = k := by omega
      have HF : Hid (∀ f ∈ fls ys, p f = false) := hide (fun f hf => by
        obtain ⟨j, hj⟩ := List.getElem?_of_mem hf
        have hjl := (List.getElem?_eq_some_iff.1 hj).1
        exact unhide HL j f (by simp [fls] at hjl; rw [unhide HM] at hjl; exact hjl) hj)
      go_wp2
      go_ret
      exact ⟨-1, rfl, .inl ⟨rfl, unhide HF⟩, unhide HB⟩
theorem index_l {w : World} {v : Value} {l : List Fl} {kf : Nat} {cp : Value} {p : Fl → Bool} (h : LIn w v l) (hf : FnIs w kf cp p) :
    Calls Tryd.prog 13 #[v, .func (.func kf) #[] #[cp]] w fun e w' => ∃ r : Int, e = .returned (.int .i64 r) ∧ Found p l r ∧ Below w.heap.size w w' := by
  obtain ⟨ad, c, out, rfl, h2, h3⟩ := h
  have := indexFn_any ad c out w h2 _ (fls_len h3) hf
  rw [h3] at this
  exact this
theorem contains_l {w : World} {v : Value} {l : List Fl} {kf : Nat} {cp : Value} {p : Fl → Bool} (h : LIn w v l) (hf : FnIs w kf cp p) :
    Calls Tryd.prog 50 #[v, .func (.func kf) #[] #[cp]] w fun e w' => e = .returned (.bool (l.any p)) ∧ Below w.heap.size w w' := by
  have HI := hide (index_l h hf)
  obtain ⟨a, c, hv⟩ := h.shape
  obtain ⟨n, hn⟩ : ∃ n, l.length = n := ⟨_, rfl⟩
  rw [hn] at hv
  subst hv
  obtain ⟨Q, hQ⟩ : ∃ Q, l.any p = Q := ⟨_, rfl⟩
  rw [hQ]
  have HQ := hide hQ
  clear h hf hn hQ
  go_enter Tryd.func50, Tryd.ntmps50
  go_wp2_with fail
  refine (unhide HI).mono ?_
  rintro e w1 ⟨r, rfl, hr, hB⟩
  have HB := hide hB
  rcases hr with ⟨rfl, hr⟩ | ⟨i, f, rfl, h1, h2, _⟩
  · have e : l.any p = false := by rw [List.any_eq_false]; intro x hx; rw [hr x hx]; decide
    obtain rfl : Q = false := (unhide HQ).symm.trans e
    clear hB hr e
    go_wp2
    go_ret
    exact ⟨rfl, unhide HB⟩
  · have e : l.any p = true := List.any_eq_true.2 ⟨f, List.mem_of_getElem? h1, h2⟩
    obtain rfl : Q = true := (unhide HQ).symm.trans e
    have hi : (0 : Int) ≤ (i : Int) := by omega
    clear hB h1 h2 e
    go_wp2
    go_ret
    exact ⟨rfl, unhide HB⟩
end Go.Proofs.YtmgmganbamjnmaaDoor
