/-
  The library's slices.IndexFunc and slices.ContainsFunc over files, asked by a function that looks at their bytes too.
-/
import Derived.Test.YtnhddmganijilaiDoorQ28
namespace Go.Proofs.YtnhddmganijilaiDoor
open Go.RowKit
set_option linter.unusedVariables false
set_option linter.unusedSimpArgs false
set_option maxRecDepth 100000
structure FnF (w : World) (kf : Nat) (cp : Value) (p : Fl → Bool) : Prop where
  en : ∀ (args : Array Value) (w : World), (callFunc kf args).run Tryd.prog w = .ok (.enter kf args) w
  is : ∀ (y : Fv) (W : World), Below w.heap.size w W → FvIn W y → Calls Tryd.prog kf #[y.val, cp] W fun e w' => e = .returned (.bool (p y.f)) ∧ Below W.heap.size W w'
set_option maxHeartbeats 2000000 in
theorem indexFF_any {kf : Nat} {cp : Value} {p : Fl → Bool} (bd : Option Addr) (d : Nat) (ys : List Fv) (w : World) (k : FsIn w bd d ys) (m : Nat) (hm : ys.length = m) (hf : FnF w kf cp p) :
    Calls Tryd.prog 38 #[.slice bd m d, .func (.func kf) #[] #[cp]] w fun e w' => ∃ r : Int, e = .returned (.int .i64 r) ∧ Found p (fls ys) r ∧ Below w.heap.size w w' := by
  have HK := hide k
  have HM := hide hm
  have hlim := k.lim
  rw [hm] at hlim
  have HP := hide hf.is
  have hen := hf.en
  clear k hm hf
  go_enter Tryd.func38, Tryd.ntmps38
  go_wp2
  go_loopw [5, 8] (fun _ i wr => ∃ k : Nat, k ≤ m ∧ i = .int .i64 (k : Int) ∧ Hid (∀ (j : Nat) (g : Fl), j < k → (fls ys)[j]? = some g → p g = false) ∧ Hid (Below w.heap.size w wr)) (fun _ i _ => m - (intOf i).toNat)
  case atStart => exact ⟨0, Nat.zero_le _, rfl, hide (fun j g hj => by omega), Below.refl _ _⟩
  case round =>
    obtain ⟨k, hk, rfl, HL, HB⟩ := hrel
    by_cases hlt : k < m
    · obtain ⟨y, hy, hym⟩ := get_of (xs := ys) (k := k) (by rw [unhide HM]; exact hlt)
      obtain ⟨b, o, hA, hb, c0, c1, c2, c3, c4⟩ := (unhide HK).get (unhide HB) hy
      have hyf : (fls ys)[k]? = some y.f := by simp [fls, hy]
      have HYF := hide hyf
      have HPY := hide (unhide HP y wr (unhide HB) (((unhide HK).all y hym).below (unhide HB) (Nat.le_refl _)))
      rw [val_is] at HPY
      have hys : y.sl = .slice y.a y.f.bytes.length y.c := rfl
      rw [hys] at c1
      obtain ⟨q, hq⟩ : ∃ q, p y.f = q := ⟨_, rfl⟩
      rw [hq] at HPY
      have HQ := hide hq
      clear hyf hys hq hy hym
      subst hA
      generalize B y.f.name = t at *
      generalize y.f.bytes.length = n2 at *
      generalize y.f.stamp = s2 at *
      generalize y.f.node = d2 at *
      generalize y.f.gone = g2 at *
      go_wp2_with fail
      refine (unhide HPY).mono ?_
      rintro e w1 ⟨rfl, hb1⟩
      have HB1 := hide ((unhide HB).trans (hb1.mono (unhide HB).size))
      clear hb1
      cases q with
      | true =>
        go_wp2
        go_ret
        exact ⟨k, rfl, .inr ⟨k, y.f, rfl, unhide HYF, unhide HQ, unhide HL⟩, unhide HB1⟩
      | false =>
        have HL2 : Hid (∀ (j : Nat) (g : Fl), j < k + 1 → (fls ys)[j]? = some g → p g = false) := hide (fun j g hj hg => by
          by_cases hjk : j < k
          · exact unhide HL j g hjk hg
          · obtain rfl : j = k := by omega
            rw [unhide HYF] at hg
            cases hg
            exact unhide HQ)
        go_wp2
        go_roundw
        case rel => exact ⟨k + 1, by omega, by go_num, HL2, unhide HB1⟩
        case measure => simp [intOf]; omega
    · obtain rfl : m = k := by omega
      have HF : Hid (∀ f ∈ fls ys, p f = false) := hide (fun f hf => by
        obtain ⟨j, hj⟩ := List.getElem?_of_mem hf
        have hjl := (List.getElem?_eq_some_iff.1 hj).1
        exact unhide HL j f (by simp [fls] at hjl; rw [unhide HM] at hjl; exact hjl) hj)
      go_wp2
      go_ret
      exact ⟨-1, rfl, .inl ⟨rfl, unhide HF⟩, unhide HB⟩
theorem indexF_l {w : World} {v : Value} {l : List Fl} {kf : Nat} {cp : Value} {p : Fl → Bool} (h : LIn w v l) (hf : FnF w kf cp p) :
    Calls Tryd.prog 38 #[v, .func (.func kf) #[] #[cp]] w fun e w' => ∃ r : Int, e = .returned (.int .i64 r) ∧ Found p l r ∧ Below w.heap.size w w' := by
  obtain ⟨ad, c, out, rfl, h2, h3⟩ := h
  have := indexFF_any ad c out w h2 _ (fls_len h3) hf
  rw [h3] at this
  exact this
theorem containsF_l {w : World} {v : Value} {l : List Fl} {kf : Nat} {cp : Value} {p : Fl → Bool} (h : LIn w v l) (hf : FnF w kf cp p) :
    Calls Tryd.prog 16 #[v, .func (.func kf) #[] #[cp]] w fun e w' => e = .returned (.bool (l.any p)) ∧ Below w.heap.size w w' := by
  have HI := hide (indexF_l h hf)
  obtain ⟨a, c, hv⟩ := h.shape
  obtain ⟨n, hn⟩ : ∃ n, l.length = n := ⟨_, rfl⟩
  rw [hn] at hv
  subst hv
  obtain ⟨Q, hQ⟩ : ∃ Q, l.any p = Q := ⟨_, rfl⟩
  rw [hQ]
  have HQ := hide hQ
  clear h hf hn hQ
  go_enter Tryd.func16, Tryd.ntmps16
  go_wp2_with fail
  refine (unhide HI).mono ?_
  rintro e w1 ⟨r, rfl, hr, hB⟩
  have HB := hide hB
  rcases hr with ⟨rfl, hr⟩ | ⟨i, f, rfl, h1, h2, _⟩
  · have e : l.any p = false := by rw [List.any_eq_false]; intro x hx; rw [hr x hx]; decide
    obtain rfl : Q = false := (unhide HQ).symm.trans e
    clear hB hr e
    go_wp2
    go_ret
    exact ⟨rfl, unhide HB⟩
  · have e : l.any p = true := List.any_eq_true.2 ⟨f, List.mem_of_getElem? h1, h2⟩
    obtain rfl : Q = true := (unhide HQ).symm.trans e
    have hi : (0 : Int) ≤ (i : Int) := by omega
    clear hB h1 h2 e
    go_wp2
    go_ret
    exact ⟨rfl, unhide HB⟩
end Go.Proofs.YtnhddmganijilaiDoor
