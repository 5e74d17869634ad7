/-
  A plan put behind a row; how many bits that takes.
-/
import Derived.Test.YtfoaaamcpknjnadGreatQ42
namespace Go.Proofs.YtfoaaamcpknjnadGreat
open Go.RowKit
set_option linter.unusedVariables false
set_option maxRecDepth 100000

theorem tok_kp {w w' : World} {a : Option Addr} {ts : List Tk} (h : TokIn w a ts) (hs : w.heap.size ≤ w'.heap.size) (hk : ∀ b o, a = some ⟨b, o, none⟩ → ts ≠ [] → b < w.heap.size → w'.heap[b]? = w.heap[b]?) : TokIn w' a ts := by
  by_cases e : ts = []
  · exact .inl e
  · rcases h with h | ⟨b, o, rfl, hb, hT⟩
    · exact absurd h e
    · have hbl := hk b o rfl e hb
      refine .inr ⟨b, o, rfl, by omega, fun j hj => ?_⟩
      obtain ⟨h1, h2, h3⟩ := hT j hj
      exact ⟨(World.cell?_of_block (w := w) (a := ⟨b, _, none⟩) hbl).trans h1, (World.cell?_of_block (w := w) (a := ⟨b, _, none⟩) hbl).trans h2, (World.cell?_of_block (w := w) (a := ⟨b, _, none⟩) hbl).trans h3⟩
theorem row_kp {w w' : World} {b o : Nat} {l : List Int} (h : Row .i64 w b o l) (hk : w'.heap[b]? = w.heap[b]?) : Row .i64 w' b o l := fun j hj => (World.cell?_of_block (w := w) (a := ⟨b, _, none⟩) hk).trans (h j hj)

/-- a plan in memory: tokens, lengths of symbols, lengths of how far -/
structure PlanIs (w : World) (a : Option Addr) (len b1 n1 b2 n2 : Nat) (ts : List Tk) (l1 l2 : List Int) : Prop where
  tl : ts.length = len
  tm : len ≤ 3000
  tv : ∀ t ∈ ts, VT t
  tok : TokIn w a ts
  d : Dyn ts l1 l2
  k1 : l1.length = n1
  k2 : l2.length = n2
  m1 : b1 < w.heap.size
  m2 : b2 < w.heap.size
  r1 : Row .i64 w b1 0 l1
  r2 : Row .i64 w b2 0 l2
theorem PlanIs.keep {w w' : World} {a : Option Addr} {len b1 n1 b2 n2 : Nat} {ts : List Tk} {l1 l2 : List Int} (h : PlanIs w a len b1 n1 b2 n2 ts l1 l2) (hs : w.heap.size ≤ w'.heap.size) (hk : ∀ b o, a = some ⟨b, o, none⟩ → ts ≠ [] → b < w.heap.size → w'.heap[b]? = w.heap[b]?) (e1 : w'.heap[b1]? = w.heap[b1]?) (e2 : w'.heap[b2]? = w.heap[b2]?) : PlanIs w' a len b1 n1 b2 n2 ts l1 l2 :=
  ⟨h.tl, h.tm, h.tv, tok_kp h.tok hs hk, h.d, h.k1, h.k2, Nat.lt_of_lt_of_le h.m1 hs, Nat.lt_of_lt_of_le h.m2 hs, row_kp h.r1 e1, row_kp h.r2 e2⟩
theorem PlanIs.below {w w' : World} {a : Option Addr} {len b1 n1 b2 n2 : Nat} {ts : List Tk} {l1 l2 : List Int} (h : PlanIs w a len b1 n1 b2 n2 ts l1 l2) (hB : Below w.heap.size w w') : PlanIs w' a len b1 n1 b2 n2 ts l1 l2 :=
  h.keep hB.size (fun b o _ _ hb => hB.block b hb) (hB.block _ h.m1) (hB.block _ h.m2)

theorem plan_in {l1 l2 : List Int} {ts : List Tk} (d : Dyn ts l1 l2) : ∀ x ∈ l1 ++ l2, 0 ≤ x ∧ x ≤ 15 := by
  intro x hx
  rcases List.mem_append.1 hx with h | h
  · exact good_mem d.ga x h
  · exact good_mem d.gb x h
theorem own_of {all : List Int} (hl : all.length ≤ 1000) (hx : ∀ x ∈ all, 0 ≤ x ∧ x ≤ 15) (h : ∃ s, IsLens (runC (lenIs all)) 7 s) : Own all (ownD all) := by
  refine own_ok hl hx ?_
  exact Classical.epsilon_spec (p := fun s => IsLens (runC (lenIs all)) 7 s) h

set_option maxHeartbeats 1000000 in
theorem planPut_any (No : Nat → Prop) (B rb : Nat) (a : Option Addr) (len cap b1 n1 c1 b2 n2 c2 : Nat) (ts : List Tk) (l1 l2 : List Int) (S : List Bool) (w : World) (h : RIs No B w rb S) (hP : PlanIs w a len b1 n1 b2 n2 ts l1 l2) (hTn : ∀ b o, a = some ⟨b, o, none⟩ → ts ≠ [] → No b) (hn1 : No b1) (hn2 : No b2) (hNo : ∀ g, w.heap.size ≤ g → ¬ No g) (hS : S.length + 60 * len ≤ 277000) :
    Calls Tryz.prog 67 #[.agg #[.slice a len cap, .slice (some ⟨b1, 0, none⟩) n1 c1, .slice (some ⟨b2, 0, none⟩) n2 c2], .pointer (some ⟨rb, 0, none⟩)] w fun e w' => e = .returned (.tuple #[]) ∧ Own (l1 ++ l2) (ownD (l1 ++ l2)) ∧ Rp No B w rb (S ++ planB l1 l2 ts) w' := by
  obtain ⟨No1, hNo1⟩ : ∃ No1 : Nat → Prop, No1 = fun g => No g ∨ g = w.heap.size := ⟨_, rfl⟩
  have hbox : No1 w.heap.size := by rw [hNo1]; exact .inr rfl
  have hle : ∀ g, No g → No1 g := fun g e => by rw [hNo1]; exact .inl e
  have hno1 : ∀ g, w.heap.size < g → ¬ No1 g := by
    intro g hg e
    rw [hNo1] at e
    rcases e with e | e
    · exact hNo g (by omega) e
    · omega
  have hr1 : ∀ X : Obj, RIs No1 B (w.alloc X) rb S := fun X => h.grow ((Below.refl w.heap.size w).alloc (Nat.le_refl _) X) (fun g e => by
    rw [hNo1] at e
    rcases e with e | e
    · exact .inl e
    · exact .inr (by omega))
  have k1 := hP.k1
  have k2 := hP.k2
  have d := hP.d
  have la := d.la
  have la2 := d.la2
  have lb := d.lb
  have lb2 := d.lb2
  have HPL := hide (fun X : Obj => putLengths_any No1 B rb b1 n1 c1 b2 n2 c2 l1 l2 S (w.alloc X) (hr1 X) k1 k2 (by omega) (by omega) (by omega) (by omega) (by have := hP.m1; simp; omega) (by have := hP.m2; simp; omega) (hP.r1.alloc hP.m1 X) (hP.r2.alloc hP.m2 X) (plan_in d) (by omega) (fun g hg => hno1 g (by simp at hg; omega)))
  have HPK := hide (fun (X : Obj) (w1 : World) (S1 : List Bool) (hR : Rp No1 B (w.alloc X) rb S1 w1) => (hP.below ((Below.refl w.heap.size w).alloc (Nat.le_refl _) X)).keep hR.below.size (fun b o ea hne hb => hR.kp b hb (hle b (hTn b o ea hne))) (hR.kp b1 (by have := hP.m1; simp; omega) (hle _ hn1)) (hR.kp b2 (by have := hP.m2; simp; omega) (hle _ hn2)))
  have HTN : Hid (∀ b o, a = some ⟨b, o, none⟩ → ts ≠ [] → No1 b) := fun b o e hne => hle b (hTn b o e hne)
  have HN1 := hide hno1
  have HLE := hide hle
  have HBX := hide hbox
  have HB1 := hide (hle _ hn1)
  have HB2 := hide (hle _ hn2)
  have HG : Hid (Good l1 ∧ Good l2 ∧ Has l1 l2 (itsOf ts) ∧ 1 ≤ l1.length ∧ 1 ≤ l2.length) := ⟨d.ga, d.gb, d.has, by omega, by omega⟩
  have hPE : S ++ planB l1 l2 ts = S ++ headB l1 l2 (ownD (l1 ++ l2)) ++ putIs l1 l2 (itsOf ts) := by unfold planB; rw [List.append_assoc]
  rw [hPE]
  have hHL : Hid (Own (l1 ++ l2) (ownD (l1 ++ l2)) → (headB l1 l2 (ownD (l1 ++ l2))).length ≤ 2400) := fun ho => by
    have := headB_len ho
    omega
  obtain ⟨HD, hHD⟩ : ∃ HD, headB l1 l2 (ownD (l1 ++ l2)) = HD := ⟨_, rfl⟩
  rw [hHD] at HPL hHL ⊢
  have hrb := h.lt
  have hba := h.base
  clear hNo1 hbox hle hno1 hr1 k1 k2 d la la2 lb lb2 hPE hHD hTn hn1 hn2 hP h
  go_enter Tryz.func67, Tryz.ntmps67
  go_wp2_with fail
  refine (unhide HPL _).mono ?_
  rintro e w1 ⟨rfl, hOw, hR⟩
  have hH := unhide hHL hOw
  have HOw := hide hOw
  clear hOw hHL
  have hz := hR.below.size
  simp only [World.size_alloc] at hz
  have hP1 := unhide HPK _ w1 _ hR
  have x0 : w1.cell? ⟨w.heap.size, 0, none⟩ = some (.slice a len cap) := hR.kp.cell (by simp) (unhide HBX) (by simp)
  have x1 : w1.cell? ⟨w.heap.size, 1, none⟩ = some (.slice (some ⟨b1, 0, none⟩) n1 c1) := hR.kp.cell (by simp) (unhide HBX) (by simp)
  have x2 : w1.cell? ⟨w.heap.size, 2, none⟩ = some (.slice (some ⟨b2, 0, none⟩) n2 c2) := hR.kp.cell (by simp) (unhide HBX) (by simp)
  have hgd := unhide HG
  have HPT := hide (fun k => putter_any b1 0 n1 c1 b2 0 n2 c2 rb l1 l2 (w1.drewN k) hP1.k1 hP1.k2 (by rw [← hP1.k1]; exact hgd.2.2.2.1) (by rw [← hP1.k2]; exact hgd.2.2.2.2) hP1.m1 hP1.m2 hP1.r1 hP1.r2 hgd.1 hgd.2.1)
  have HPS := hide (fun (w3 : World) (gc gl gr hc hl hr : Nat) hB3 hC1 hC2 => pass_put No1 B rb a len cap ts (S ++ HD) b1 0 n1 c1 b2 0 n2 c2 l1 l2 gc gl gr hc hl hr w1 w1 w3 hR.is (Nat.le_refl _) hB3 hC1 hC2 (.inl (unhide HB1)) (.inl (unhide HB2)) hP1.k1 hP1.k2 hgd.1 hgd.2.1 hgd.2.2.1 hP1.tl hP1.tm hP1.tv hP1.tok (unhide HTN) (fun g hg => unhide HN1 g (by omega)) (by rw [List.length_append]; omega))
  have HR := hide hR
  clear hR hP1 hgd
  go_wp2
  go_region_with (first | (go_at_call 63; refine (unhide HPT _).mono ?_; rintro e w3 ⟨gc, gl, gr, hc, hl, hr, rfl, hC1, hC2, hB3⟩; have HC1 := hide hC1; have HC2 := hide hC2; have HB3 := hide hB3; have y0 : w3.cell? ⟨w.heap.size, 0, none⟩ = some (.slice a len cap) := (hB3.cell (p := ⟨w.heap.size, 0, none⟩) hz).trans x0; clear hC1 hC2 hB3) | (go_at_call 62; refine (unhide HPS w3 gc gl gr hc hl hr ((below_drewN (Below.refl _ _) _).trans (unhide HB3)) (unhide HC1) (unhide HC2)).mono ?_; rintro e w4 ⟨rfl, hR4⟩; have HR4 := hide hR4; clear hR4))
  all_goals try go_wp2
  all_goals go_end0
  all_goals refine ⟨rfl, unhide HOw, ?_⟩
  all_goals (
    have hR1 := unhide HR
    have hR4 := unhide HR4
    have hbx : Below B w (w.alloc (.cells #[.slice a len cap, .slice (some ⟨b1, 0, none⟩) n1 c1, .slice (some ⟨b2, 0, none⟩) n2 c2] 127)) := (Below.refl B w).alloc (by omega) _
    exact ⟨hR4.is.grow (Below.refl _ _) (fun g e => .inl (unhide HLE g e)), hbx.trans (hR1.below.trans hR4.below), fun g hg hn => (hR4.kp g (by omega) (unhide HLE g hn)).trans ((hR1.kp g (by simp; omega) (unhide HLE g hn)).trans (Below.heap_alloc w _ g hg))⟩)
end Go.Proofs.YtfoaaamcpknjnadGreat

/-
  How many bits a plan takes; the plan by the shortest codes.
-/
namespace Go.Proofs.YtfoaaamcpknjnadGreat
open Go.RowKit
set_option linter.unusedVariables false
set_option maxRecDepth 100000

theorem RIs.empty {No : Nat → Prop} {B : Nat} {w : World} {b : Nat} (hb : B ≤ b) (hn : ¬ No b) (h : w.heap[b]? = some (.cells #[.slice none 0 0, .int .i64 0] 61 (0, 0))) : RIs No B w b [] :=
  ⟨hb, hn, .slice none 0 0, [], h, World.ownsRow_nil _ _ _ _, (fun g e => by cases e), (fun j => by simp), rfl⟩
theorem planB_len {ts : List Tk} {l1 l2 : List Int} (d : Dyn ts l1 l2) (hv : ∀ t ∈ ts, VT t) (ho : Own (l1 ++ l2) (ownD (l1 ++ l2))) : (planB l1 l2 ts).length ≤ 2300 + 60 * ts.length := by
  have h1 := headB_len ho
  have h2 := putIs_len l1 l2 d.ga d.gb (itsOf ts) d.has (itsOf_vi hv)
  have h3 := itsOf_len ts
  have h4 := d.la2
  have h5 := d.lb2
  unfold planB
  rw [List.length_append]
  omega

set_option maxHeartbeats 1000000 in
theorem planBits_any (a : Option Addr) (len cap b1 n1 c1 b2 n2 c2 : Nat) (ts : List Tk) (l1 l2 : List Int) (w : World) (hP : PlanIs w a len b1 n1 b2 n2 ts l1 l2) :
    Calls Tryz.prog 66 #[.agg #[.slice a len cap, .slice (some ⟨b1, 0, none⟩) n1 c1, .slice (some ⟨b2, 0, none⟩) n2 c2]] w fun e w' => e = .returned (.int .i64 ((planB l1 l2 ts).length : Nat)) ∧ Own (l1 ++ l2) (ownD (l1 ++ l2)) ∧ Below w.heap.size w w' := by
  have tm := hP.tm
  have m1 := hP.m1
  have m2 := hP.m2
  have hB0 : ∀ X Y : Obj, Below w.heap.size w ((w.alloc X).alloc Y) := fun X Y => ((Below.refl w.heap.size w).alloc (Nat.le_refl _) X).alloc (by simp) Y
  have hR0 : ∀ X : Obj, RIs (fun g => g < w.heap.size + 1) (w.heap.size + 1) ((w.alloc X).alloc (.cells #[.slice none 0 0, .int .i64 0] 61)) (w.heap.size + 1) [] := fun X => RIs.empty (Nat.le_refl _) (by simp) (by
    have e : w.heap.size + 1 = (w.alloc X).heap.size := by simp
    rw [e]
    exact heap_alloc_new _ _)
  have HPP := hide (fun X : Obj => planPut_any (fun g => g < w.heap.size + 1) (w.heap.size + 1) (w.heap.size + 1) a len cap b1 n1 c1 b2 n2 c2 ts l1 l2 [] ((w.alloc X).alloc (.cells #[.slice none 0 0, .int .i64 0] 61)) (hR0 X) (hP.below (hB0 _ _)) (fun b o ea hne => by
      rcases hP.tok with h | ⟨b', o', e1, h2, _⟩
      · exact absurd h hne
      · rw [e1] at ea; cases ea; omega) (by omega) (by omega) (fun g hg => by simp at hg; omega) (by simp; omega))
  have HLB := hide (fun ho => planB_len hP.d hP.tv ho)
  have HTL := hide hP.tl
  have HB0 := hide hB0
  clear hB0 hR0 hP m1 m2
  obtain ⟨PB, hPB⟩ : ∃ PB, planB l1 l2 ts = PB := ⟨_, rfl⟩
  rw [hPB] at HPP HLB ⊢
  clear hPB
  go_enter Tryz.func66, Tryz.ntmps66
  go_wp2_with fail
  refine (unhide HPP _).mono ?_
  rintro e w1 ⟨rfl, hOw, hR⟩
  have hlb := unhide HLB hOw
  rw [unhide HTL] at hlb
  have HOw := hide hOw
  have HBF : Hid (Below w.heap.size w w1) := hide ((unhide HB0 _ _).trans (hR.below.mono (by omega)))
  have hris := hR.is
  rw [List.nil_append] at hris
  obtain ⟨ov, bs, h1, h2, h3, h4, h5⟩ := hris.ex
  have c0 : w1.cell? ⟨w.heap.size + 1, 0, none⟩ = some ov := heap_row h1
  have c1' : w1.cell? ⟨w.heap.size + 1, 1, none⟩ = some (.int .i64 (freeN PB.length : Nat)) := heap_row h1
  obtain ⟨a', cc, hv⟩ : ∃ a c, ov = .slice a bs.length c := own_slice' h2
  have hRl := congrArg List.length h5
  rw [rowB_length, padB_length] at hRl
  have hfl := freeN_lt PB.length
  subst hv
  obtain ⟨PL, hPL⟩ : ∃ PL, PB.length = PL := ⟨_, rfl⟩
  obtain ⟨L, hL⟩ : ∃ L, bs.length = L := ⟨_, rfl⟩
  obtain ⟨fr, hfr⟩ : ∃ fr, freeN PL = fr := ⟨_, rfl⟩
  rw [hPL] at hRl hfl hlb c1'
  rw [hL] at hRl c0
  rw [hfr] at hRl hfl c1'
  have HPLen := hide hPL
  clear h1 h2 h3 h4 h5 hris hR hOw hPL hL hfr
  go_wp2
  go_quiet (fail)
  go_wp2
  go_ret
  refine ⟨?_, unhide HOw, below_drewN (unhide HBF) _⟩
  rw [unhide HPLen]
  go_num

theorem three_set {w : World} {g : Nat} {T : TypeId} {x y z : Value} (h : w.heap[g]? = some (.cells #[x, y, z] T (0, 0))) (u v t : Value) :
    (((w.setCell ⟨g, 0, none⟩ u).setCell ⟨g, 1, none⟩ v).setCell ⟨g, 2, none⟩ t).heap[g]? = some (.cells #[u, v, t] T (0, 0)) ∧ (∀ j, j < w.heap.size → j ≠ g → (((w.setCell ⟨g, 0, none⟩ u).setCell ⟨g, 1, none⟩ v).setCell ⟨g, 2, none⟩ t).heap[j]? = w.heap[j]?) ∧ (((w.setCell ⟨g, 0, none⟩ u).setCell ⟨g, 1, none⟩ v).setCell ⟨g, 2, none⟩ t).heap.size = w.heap.size ∧ ∀ {B : Nat} {w0 : World}, Below B w0 w → B ≤ g → Below B w0 (((w.setCell ⟨g, 0, none⟩ u).setCell ⟨g, 1, none⟩ v).setCell ⟨g, 2, none⟩ t) := by
  have g1 := grown_setCell w g 0 u
  have g2 := grown_setCell (w.setCell ⟨g, 0, none⟩ u) g 1 v
  have g3 := grown_setCell ((w.setCell ⟨g, 0, none⟩ u).setCell ⟨g, 1, none⟩ v) g 2 t
  have gg := grown_trans (grown_trans g1 g2) g3
  have hlt : g < w.heap.size := (Array.getElem?_eq_some_iff.1 h).1
  refine ⟨?_, fun j hj2 hj => gg.block j hj2 (fun e => hj (Option.some.inj e)), by simp, fun hB hb => hB.grown gg (by omega) (fun j e => by rw [← Option.some.inj e]; exact hb)⟩
  · rw [heap_setCell_same _ _ 2 _ _ _ (heap_setCell_same _ _ 1 _ _ _ (heap_setCell_same _ _ 0 _ _ _ h))]
    rfl

end Go.Proofs.YtfoaaamcpknjnadGreat

/-
  The plan by the shortest codes.
-/
namespace Go.Proofs.YtfoaaamcpknjnadGreat
open Go.RowKit
set_option linter.unusedVariables false
set_option maxRecDepth 100000

/-- lengths of the shortest code, made behind W2 -/
structure ShA (W2 : World) (l : List Int) (m least g : Nat) (w' : World) : Prop where
  lens : IsLens l m (lensD l m)
  lo : W2.heap.size ≤ g
  hi : g < w'.heap.size
  row : Row .i64 w' g 0 (trimL (lensD l m) least)
  bel : Below W2.heap.size W2 w'
theorem ShA.keep {W2 : World} {l : List Int} {m least g : Nat} {W w' : World} (h : ShA W2 l m least g W) (hB : Below W.heap.size W w') : ShA W2 l m least g w' :=
  ⟨h.lens, h.lo, Nat.lt_of_lt_of_le h.hi hB.size, h.row.below hB h.hi, h.bel.trans (hB.mono h.bel.size)⟩

set_option maxHeartbeats 2000000 in
theorem shortest_any (a : Option Addr) (len cap : Nat) (ts : List Tk) (w : World) (hl : ts.length = len) (hlen : len ≤ 3000) (hV : ∀ t ∈ ts, VT t) (hT : TokIn w a ts) :
    Calls Tryz.prog 64 #[.slice a len cap] w fun e w' => ∃ b1 n1 b2 n2, e = .returned (.agg #[.slice a len cap, .slice (some ⟨b1, 0, none⟩) n1 286, .slice (some ⟨b2, 0, none⟩) n2 30]) ∧ PlanIs w' a len b1 n1 b2 n2 ts (symD ts) (farD ts) ∧ w.heap.size ≤ b1 ∧ w.heap.size ≤ b2 ∧ Below w.heap.size w w' := by
  have HCT := hide (fun X : Obj => count_tok a len cap ts (w.alloc X) hl hlen hV (hT.alloc X))
  have hgA := symC_good (ts := ts) (by omega)
  have hgB := farC_good (ts := ts) (by omega)
  have hlA := symC_len (itsOf ts)
  have hlB := farC_len (itsOf ts)
  have HD : Hid (IsLens (symC (itsOf ts)) 15 (lensD (symC (itsOf ts)) 15) → IsLens (farC (itsOf ts)) 15 (lensD (farC (itsOf ts)) 15) → Dyn ts (symD ts) (farD ts)) := fun h1 h2 => dyn_ok hV (by omega) h1 h2
  have HTL := hide hl
  have HTV := hide hV
  have HTK := hide hT
  obtain ⟨n1, hn1⟩ : ∃ n1, trimF (lensD (symC (itsOf ts)) 15) 257 286 = n1 := ⟨_, rfl⟩
  obtain ⟨n2, hn2⟩ : ∃ n2, trimF (lensD (farC (itsOf ts)) 15) 1 30 = n2 := ⟨_, rfl⟩
  have HN1 := hide hn1
  have HN2 := hide hn2
  have hsD : trimL (lensD (symC (itsOf ts)) 15) 257 = symD ts := rfl
  have hfD : trimL (lensD (farC (itsOf ts)) 15) 1 = farD ts := rfl
  have HLL : Hid (∀ A1 A2, IsLens (symC (itsOf ts)) 15 A1 → IsLens (farC (itsOf ts)) 15 A2 → A1.length = 286 ∧ A2.length = 30) := fun A1 A2 h1 h2 => ⟨by have := (lens_good hgA h1).2.1; omega, by have := (lens_good hgB h2).2.1; omega⟩
  obtain ⟨FA, hFA⟩ : ∃ FA, symC (itsOf ts) = FA := ⟨_, rfl⟩
  obtain ⟨FB, hFB⟩ : ∃ FB, farC (itsOf ts) = FB := ⟨_, rfl⟩
  rw [hFA] at HCT hgA hlA HD HN1 hsD HLL
  rw [hFB] at HCT hgB hlB HD HN2 hfD HLL
  have HGA := hide hgA
  have HGB := hide hgB
  have HSD := hide hsD
  have HFD := hide hfD
  clear hT hV hl hgA hgB hn1 hn2 hsD hfD hFA hFB
  have hi1 : (Tryz.prog.info? 155).map (·.size) = some (iv FA).toArray.size := by rw [info286]; simp [hlA]
  have hi2 : (Tryz.prog.info? 156).map (·.size) = some (iv FB).toArray.size := by rw [info30]; simp [hlB]
  go_enter Tryz.func64, Tryz.ntmps64
  go_wp2_with fail
  refine (unhide HCT _).mono ?_
  rintro e w1 ⟨rfl, hB1⟩
  have hz1 := hB1.size
  simp only [World.size_alloc] at hz1
  have hbl : w1.heap[w.heap.size]? = some (.cells #[.slice none 0 0, .slice none 0 0, .slice none 0 0] 127 (0, 0)) := (hB1.block _ (by simp)).trans (heap_alloc_new _ _)
  have HBL := hide hbl
  have HB1 : Hid (Below w.heap.size w w1) := hide (((Below.refl w.heap.size w).alloc (Nat.le_refl _) _).trans (hB1.mono (by simp)))
  clear hB1 hbl
  have A1 : ((w1.alloc (.cells (iv (List.replicate 286 0)).toArray 155)).alloc (.cells (iv (List.replicate 30 0)).toArray 156)).heap[w1.heap.size]? = some (.cells (iv (List.replicate 286 0)).toArray 155 (0, 0)) := (Below.heap_alloc _ _ _ (by simp)).trans (heap_alloc_new _ _)
  have A2 : (((w1.alloc (.cells (iv (List.replicate 286 0)).toArray 155)).alloc (.cells (iv (List.replicate 30 0)).toArray 156)).setRow w1.heap.size (iv FA).toArray).heap[w1.heap.size + 1]? = some (.cells (iv (List.replicate 30 0)).toArray 156 (0, 0)) := by
    rw [Go.setRow_other _ _ _ _ (by omega)]
    have e : w1.heap.size + 1 = (w1.alloc (.cells (iv (List.replicate 286 0)).toArray 155)).heap.size := by simp
    rw [e]
    exact heap_alloc_new _ _
  have HA1 := hide A1
  have HA2 := hide A2
  have HT := hide (fun x y => two_arrays w w1 x y 155 156 FA FB (unhide HB1) (by simp))
  have HT1 := hide (fun x y => two_arrays w1 w1 x y 155 156 FA FB (Below.refl _ _) (by simp))
  clear A1 A2
  go_upto_region 2 with (first | refine wpList_store_row rfl 155 (.tmp 3) (.tmp 8) rfl w1.heap.size _ rfl rfl 155 (iv (List.replicate 286 0)).toArray (unhide HA1) hi1 (by simp [hlA]) (iv_all_one FA) ?_ | refine wpList_store_row rfl 156 (.tmp 4) (.tmp 9) rfl (w1.heap.size + 1) _ rfl rfl 156 (iv (List.replicate 30 0)).toArray (unhide HA2) hi2 (by simp [hlB]) (iv_all_one FB) ?_)
  simp only [Act.put]
  generalize hW2 : World.setRow (World.setRow (World.alloc (World.alloc _ _) _) _ _) _ _ = W2
  have t1 : ARow 155 W2 w1.heap.size FA := by rw [← hW2]; exact (unhide HT _ _).1
  have t2 : ARow 156 W2 (w1.heap.size + 1) FB := by rw [← hW2]; exact (unhide HT _ _).2.1
  have t3 : Below w.heap.size w W2 := by rw [← hW2]; exact (unhide HT _ _).2.2
  have t4 : W2.heap[w.heap.size]? = some (.cells #[.slice none 0 0, .slice none 0 0, .slice none 0 0] 127 (0, 0)) := by rw [← hW2]; exact ((unhide HT1 _ _).2.2.block _ (by omega)).trans (unhide HBL)
  have hzW := t3.size
  have l1 := t1.lt
  have l2 := t2.lt
  have HL1 := hide (fun (W : World) (hB : Below W2.heap.size W2 W) => lengthsOf_any (some ⟨w1.heap.size, 0, none⟩) 286 286 FA 15 257 W hlA (.inr ⟨_, 0, rfl, Nat.lt_of_lt_of_le l1 hB.size, t1.row.below hB l1⟩) (unhide HGA) (by decide) n1 HN1)
  have HL2 := hide (fun (W : World) (hB : Below W2.heap.size W2 W) => lengthsOf_any (some ⟨w1.heap.size + 1, 0, none⟩) 30 30 FB 15 1 W hlB (.inr ⟨_, 0, rfl, Nat.lt_of_lt_of_le l2 hB.size, t2.row.below hB l2⟩) (unhide HGB) (by decide) n2 HN2)
  have HT3 := hide t3
  have HT4 := hide t4
  have lw : w.heap.size < W2.heap.size := by omega
  clear hW2 HT HT1 HA1 HA2 t1 t2 t3 t4 l1 l2
  have HA0 := hide (fun (W : World) (hB : Below W2.heap.size W2 W) => (unhide HL1 W hB).mono (fun e w' (h : ∃ g, e = .returned (.slice (some ⟨g, 0, none⟩) n1 286) ∧ IsLens FA 15 (lensD FA 15) ∧ W.heap.size ≤ g ∧ g < w'.heap.size ∧ Row .i64 w' g 0 (trimL (lensD FA 15) 257) ∧ Below W.heap.size W w') => (show (∃ g, e = .returned (.slice (some ⟨g, 0, none⟩) n1 286) ∧ ShA W2 FA 15 257 g w' ∧ Below W.heap.size W w') from by
    obtain ⟨g, e1, h2, h3, h4, h5, h6⟩ := h
    exact ⟨g, e1, ⟨h2, Nat.le_trans hB.size h3, h4, h5, hB.trans (h6.mono hB.size)⟩, h6⟩)))
  have HB0 := hide (fun (W : World) (hB : Below W2.heap.size W2 W) => (unhide HL2 W hB).mono (fun e w' (h : ∃ g, e = .returned (.slice (some ⟨g, 0, none⟩) n2 30) ∧ IsLens FB 15 (lensD FB 15) ∧ W.heap.size ≤ g ∧ g < w'.heap.size ∧ Row .i64 w' g 0 (trimL (lensD FB 15) 1) ∧ Below W.heap.size W w') => (show (∃ g, e = .returned (.slice (some ⟨g, 0, none⟩) n2 30) ∧ ShA W2 FB 15 1 g w' ∧ Below W.heap.size W w') from by
    obtain ⟨g, e1, h2, h3, h4, h5, h6⟩ := h
    exact ⟨g, e1, ⟨h2, Nat.le_trans hB.size h3, h4, h5, hB.trans (h6.mono hB.size)⟩, h6⟩)))
  have HAf := hide (fun (k : Nat) => unhide HA0 (W2.drewN k) (below_drewN (Below.refl _ _) k))
  have HBf := hide (fun (k : Nat) => unhide HB0 (W2.drewN k) (below_drewN (Below.refl _ _) k))
  have HAs := hide (fun (W : World) (g : Nat) (h : ShA W2 FB 15 1 g W) => unhide HA0 W h.bel)
  have HBs := hide (fun (W : World) (g : Nat) (h : ShA W2 FA 15 257 g W) => unhide HB0 W h.bel)
  have HCS : Hid (∀ W', Below W2.heap.size W2 W' → (W'.cell? ⟨w.heap.size, 0, none⟩ = some (.slice none 0 0) ∧ W'.cell? ⟨w.heap.size, 1, none⟩ = some (.slice none 0 0) ∧ W'.cell? ⟨w.heap.size, 2, none⟩ = some (.slice none 0 0)) ∧ W'.frozen? ⟨w.heap.size, 0, none⟩ = false ∧ W'.frozen? ⟨w.heap.size, 1, none⟩ = false ∧ W'.frozen? ⟨w.heap.size, 2, none⟩ = false) := fun W' hB => by
    have d : W'.heap[w.heap.size]? = some (.cells #[.slice none 0 0, .slice none 0 0, .slice none 0 0] 127 (0, 0)) := (hB.block _ lw).trans (unhide HT4)
    exact ⟨⟨heap_row d, heap_row d, heap_row d⟩, frozen_of_row W' w.heap.size 0 _ _ d, frozen_of_row W' w.heap.size 1 _ _ d, frozen_of_row W' w.heap.size 2 _ _ d⟩
  have HZ : Hid (∀ W' ga gb, ShA W2 FA 15 257 ga W' → ShA W2 FB 15 1 gb W' → W'.heap[w.heap.size]? = some (.cells #[.slice none 0 0, .slice none 0 0, .slice none 0 0] 127 (0, 0)) ∧ PlanIs W' a len ga n1 gb n2 ts (symD ts) (farD ts) ∧ w.heap.size ≤ ga ∧ w.heap.size ≤ gb ∧ Below w.heap.size w W' ∧ w.heap.size ≠ ga ∧ w.heap.size ≠ gb) := fun W' ga gb hA hB => by
    have e1 := hA.lo
    have e2 := hB.lo
    have ll := unhide HLL _ _ hA.lens hB.lens
    have bw : Below w.heap.size w W' := (unhide HT3).trans (hA.bel.mono (by omega))
    have rA := hA.row
    have rB := hB.row
    rw [unhide HSD] at rA
    rw [unhide HFD] at rB
    refine ⟨(hA.bel.block _ lw).trans (unhide HT4), ⟨unhide HTL, hlen, unhide HTV, (unhide HTK).below bw (Nat.le_refl _), unhide HD hA.lens hB.lens, ?_, ?_, hA.hi, hB.hi, rA, rB⟩, by omega, by omega, bw, by omega, by omega⟩
    · rw [← unhide HSD, trimL_length, ll.1]; exact unhide HN1
    · rw [← unhide HFD, trimL_length, ll.2]; exact unhide HN2
  clear HL1 HL2 HA0 HB0 HT3 HT4 HLL HD
  generalize hp2 : w1.heap.size + 1 = p2 at *
  generalize hp1 : w1.heap.size = p1 at *
  clear hp1 hp2
  go_region_with (first | (go_at_call 87; refine (unhide HAs _ _ (unhide SB)).mono ?_; rintro e wz ⟨ga, rfl, hza, hzb⟩; have SA := hide hza; have SZ := hide ((unhide SB).keep hzb); obtain ⟨⟨k0, k1, k2⟩, k3, k4, k5⟩ := unhide HCS wz hza.bel; clear hza hzb SB) | (go_at_call 87; refine (unhide HBs _ _ (unhide SA)).mono ?_; rintro e wz ⟨gb, rfl, hza, hzb⟩; have SZ := hide hza; have SY := hide ((unhide SA).keep hzb); obtain ⟨⟨k0, k1, k2⟩, k3, k4, k5⟩ := unhide HCS wz hza.bel; clear hza hzb SA) | (go_at_call 87; refine (unhide HAf _).mono ?_; rintro e wa ⟨ga, rfl, hza, hzb⟩; have SA := hide hza; clear hza hzb) | (go_at_call 87; refine (unhide HBf _).mono ?_; rintro e wb ⟨gb, rfl, hza, hzb⟩; have SB := hide hza; clear hza hzb))
  all_goals try go_wp2
  obtain ⟨z0, z1, z2, z3, z4, z5, z6⟩ := unhide HZ wz ga gb (unhide SY) (unhide SZ)
  obtain ⟨t1, t2, t3, t4⟩ := three_set z0 (.slice a len cap) (.slice (some ⟨ga, 0, none⟩) n1 286) (.slice (some ⟨gb, 0, none⟩) n2 30)
  refine bodyPost_ret (v := .agg #[.slice a len cap, .slice (some ⟨ga, 0, none⟩) n1 286, .slice (some ⟨gb, 0, none⟩) n2 30]) ?_ rfl ⟨ga, n1, gb, n2, rfl, z1.keep (by omega) (fun b o ea hne hb => ?_) (t2 ga z1.m1 (fun e => z5 e.symm)) (t2 gb z1.m2 (fun e => z6 e.symm)), z2, z3, t4 z4 (Nat.le_refl _)⟩
  · exact results_cell_row rfl _ _ _ _ _ _ _ rfl t1 Tryz.underlying127 rfl (by kernel_rfl)
  · rcases unhide HTK with h | ⟨b', o', e', hb', _⟩
    · exact absurd h hne
    · rw [e'] at ea
      cases ea
      exact t2 b hb (by omega)
end Go.Proofs.YtfoaaamcpknjnadGreat
