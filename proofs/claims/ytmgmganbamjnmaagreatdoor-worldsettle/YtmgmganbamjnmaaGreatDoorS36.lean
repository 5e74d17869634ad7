/-
  Worlds, of lists alone: who put a file; what is settled.
-/
import Derived.Test.YtmgmganbamjnmaaGreatDoorS24
import Derived.Test.YtmgmganbamjnmaaGreatDoorS35
import Derived.Test.YtmgmganbamjnmaaGreatDoorS28
namespace Go.Proofs.YtmgmganbamjnmaaGreatDoor
open Go.RowKit
set_option linter.unusedVariables false
set_option linter.unusedSimpArgs false

/-- a happening that was answered so may have put this file -/
def PutBy (x : Hp) (f : Fl) : Prop := x.kind = (if f.gone then 2 else 1) ∧ x.name = f.name ∧ x.node = f.node ∧ (f.gone = true ∨ x.bytes = f.bytes)
def From (xs : List Hp) (S : List Nat) (f : Fl) : Prop := ∃ (i : Nat) (x : Hp), xs[i]? = some x ∧ S[i]? = some 0 ∧ PutBy x f
def AllW (P : Fl → Prop) (W : Wd) : Prop := (∀ l ∈ W.nodes, ∀ f ∈ l, P f) ∧ ∀ m ∈ W.net, ∀ f ∈ m.files, P f
theorem mem_both {a b : List Fl} {f : Fl} (h : f ∈ bothL a b) : f ∈ a ∨ f ∈ b := by
  unfold bothL at h
  split at h
  · exact mem_tog a b f h
  · cases h
theorem putF_by {x : Hp} {c : Int} (h : x.kind = 1 ∨ x.kind = 2) : PutBy x (putF x c) := by
  unfold putF
  rcases h with h | h
  · rw [if_neg (by rw [h]; decide)]
    exact ⟨by simp [h], rfl, rfl, .inr rfl⟩
  · rw [if_pos h]
    exact ⟨by simp [h], rfl, rfl, .inl rfl⟩
theorem all_node {P : Fl → Prop} {W : Wd} (h : AllW P W) (k : Nat) : ∀ f ∈ W.nodes.getD k [], P f := by
  intro f hf
  cases hk : W.nodes[k]? with
  | none => simp [List.getD, hk] at hf
  | some l =>
    have e : W.nodes.getD k [] = l := by simp [List.getD, hk]
    rw [e] at hf
    exact h.1 l (List.mem_of_getElem? hk) f hf
theorem all_msg {P : Fl → Prop} {W : Wd} (h : AllW P W) (k : Int) : ∀ f ∈ (msgAt W k).files, P f := by
  intro f hf
  unfold msgAt at hf
  cases hk : W.net[k.toNat]? with
  | none => simp [List.getD, hk] at hf
  | some l =>
    have e : W.net.getD k.toNat ⟨0, []⟩ = l := by simp [List.getD, hk]
    rw [e] at hf
    exact h.2 l (List.mem_of_getElem? hk) f hf
theorem all_keep {P : Fl → Prop} {W : Wd} (h : AllW P W) {k : Nat} {l : List Fl} (hl : ∀ f ∈ l, P f) : AllW P (keepW k l W) := by
  refine ⟨fun a ha => ?_, h.2⟩
  rcases List.mem_or_eq_of_mem_set ha with q | q
  · exact h.1 a q
  · rw [q]; exact hl
theorem all_drop {P : Fl → Prop} {W : Wd} (h : AllW P W) {p : Nat} : AllW P (dropW p W) := ⟨h.1, fun m hm => h.2 m ((List.eraseIdx_sublist _ _).subset hm)⟩
theorem do_all {P : Fl → Prop} {W : Wd} {x : Hp} (h : AllW P W) (hE : doE W x = 0) (hp : x.kind = 1 ∨ x.kind = 2 → ∀ c, P (putF x c)) : AllW P (doW W x) := by
  rw [(doE_zero hE).2.2]
  unfold cgC
  split
  · rename_i hk
    exact all_keep h (fun f hf => by
      rcases mem_both hf with q | q
      · exact all_node h _ f q
      · rw [List.mem_singleton.1 q]; exact hp hk _)
  · split
    · refine ⟨h.1, fun m hm => ?_⟩
      rcases List.mem_append.1 hm with q | q
      · exact h.2 m q
      · rw [List.mem_singleton.1 q]; exact all_node h _
    · unfold netC
      split
      · exact all_drop h
      · split
        · refine ⟨h.1, fun m hm => ?_⟩
          rcases List.mem_append.1 hm with q | q
          · exact h.2 m q
          · rw [List.mem_singleton.1 q]; exact all_msg h _
        · exact all_drop (all_keep h (fun f hf => by
            rcases mem_both hf with q | q
            · exact all_node h _ f q
            · exact all_msg h _ f q))
theorem run_all {P : Fl → Prop} : ∀ (xs : List Hp) (W : Wd), AllW P W → (∀ (i : Nat) (x : Hp), xs[i]? = some x → (runS W xs)[i]? = some 0 → x.kind = 1 ∨ x.kind = 2 → ∀ c, P (putF x c)) → AllW P (runW W xs)
  | [], W, h, _ => h
  | x :: r, W, h, hp => by
    unfold runW
    refine run_all r _ ?_ (fun i y hy hs => hp (i + 1) y (by simpa using hy) (by simpa [runS] using hs))
    split
    · rename_i h0
      exact do_all h h0 (hp 0 x rfl (by simp [runS, h0]))
    · exact h
theorem run_ok : ∀ (xs : List Hp) (W : Wd), WdOk W → WdOk (runW W xs)
  | [], W, h => h
  | x :: r, W, h => by
    unfold runW
    refine run_ok r _ ?_
    split
    · rename_i h0; exact do_ok h0
    · exact h
theorem runS_len : ∀ (xs : List Hp) (W : Wd), (runS W xs).length = xs.length
  | [], W => rfl
  | x :: r, W => by simp [runS, runS_len r]
theorem errM_nil : errM [] = 0 := by decide
theorem new_ok {n : Int} (h : newE n = 0) : WdOk (newW n) := by
  have hn : 1 ≤ n ∧ n ≤ 4 := by
    unfold newE at h
    split at h
    · cases h
    · omega
  obtain ⟨m, rfl⟩ : ∃ m : Nat, n = m := ⟨n.toNat, by omega⟩
  unfold newW
  rw [if_pos h]
  rw [Int.toNat_natCast]
  rw [← errWd_zero]
  have : m = 1 ∨ m = 2 ∨ m = 3 ∨ m = 4 := by omega
  rcases this with rfl | rfl | rfl | rfl <;> decide
theorem new_all {P : Fl → Prop} {n : Int} : AllW P (newW n) := by
  unfold newW
  split
  · refine ⟨fun l hl => ?_, fun m hm => by cases hm⟩
    rw [(List.mem_replicate.1 hl).2]
    intro f hf
    cases hf
  · exact ⟨fun l hl => absurd hl (List.not_mem_nil), fun m hm => absurd hm (List.not_mem_nil)⟩
theorem runE_zero {n : Int} {xs : List Hp} (h : runE n xs = 0) : newE n = 0 ∧ runR n xs = runW (newW n) xs ∧ runT n xs = runS (newW n) xs ∧ xs.length ≤ 40 := by
  have h0 := h
  unfold runE at h
  split at h
  · rename_i q; exact absurd h q
  · rename_i q
    split at h
    · cases h
    · exact ⟨by simpa using q, by unfold runR; rw [if_pos h0], by unfold runT; rw [if_pos h0], by omega⟩
theorem run_right {n : Int} {xs : List Hp} (h : runE n xs = 0) : WdOk (runR n xs) ∧ (runT n xs).length = xs.length ∧ AllW (From xs (runT n xs)) (runR n xs) := by
  obtain ⟨h1, h2, h3, _⟩ := runE_zero h
  rw [h2, h3]
  exact ⟨run_ok xs _ (new_ok h1), runS_len xs _, run_all xs _ new_all (fun i x hx hs hk c => ⟨i, x, hx, hs, putF_by hk⟩)⟩
theorem mem_set {f : Fl} : ∀ (ls : List (List Fl)) (a : List Fl), f ∈ setL a ls → f ∈ a ∨ ∃ l ∈ ls, f ∈ l
  | [], a, h => .inl h
  | l :: r, a, h => by
    unfold setL at h
    rcases mem_set r _ h with q | ⟨m, q1, q2⟩
    · rcases mem_both q with q | q
      · exact .inl q
      · exact .inr ⟨l, List.mem_cons_self, q⟩
    · exact .inr ⟨m, List.mem_cons_of_mem _ q1, q2⟩
theorem set_err : ∀ (ls : List (List Fl)) (a : List Fl), errM a = 0 → (∀ l ∈ ls, errM l = 0) → (setE a ls = 0 ∧ errM (setL a ls) = 0) ∨ setE a ls = 11
  | [], a, h, _ => .inl ⟨rfl, h⟩
  | l :: r, a, h, hl => by
    unfold setE setL
    rcases bothE_full2 h (hl l List.mem_cons_self) with q | q
    · rw [if_neg (by simp [q])]
      exact set_err r _ (bothL_err q) (fun m hm => hl m (List.mem_cons_of_mem _ hm))
    · exact .inr (by rw [if_pos (by rw [q]; decide), q])
theorem tog_none (l : List Fl) : tog [] l = l := by cases l <;> simp [tog]
theorem both_nil {l : List Fl} (h : errM l = 0) : bothE [] l = 0 ∧ bothL [] l = l := by
  have h0 : bothE [] l = 0 := bothE_zero.2 ⟨errM_nil, h, by rw [tog_none]; exact (errM_zero.1 h).1⟩
  exact ⟨h0, by rw [bothL_ok h0, tog_none]⟩
theorem both_self {l : List Fl} (h : errM l = 0) : bothE l l = 0 ∧ bothL l l = l := by
  obtain ⟨h1, h2⟩ := both_nil h
  have := both_again h1
  rw [h2] at this
  exact this
theorem set_same {l : List Fl} (h : errM l = 0) : ∀ (cs : List Int), setE l (cs.map fun _ => l) = 0 ∧ setL l (cs.map fun _ => l) = l
  | [] => ⟨rfl, rfl⟩
  | c :: r => by
    obtain ⟨h1, h2⟩ := both_self h
    simp only [List.map_cons, setE, setL, h1, h2]
    exact ⟨by simpa using (set_same h r).1, (set_same h r).2⟩
theorem set_same0 {l : List Fl} (h : errM l = 0) (cs : List Int) (hc : 1 ≤ cs.length) : setE [] (cs.map fun _ => l) = 0 ∧ setL [] (cs.map fun _ => l) = l := by
  obtain ⟨h1, h2⟩ := both_nil h
  cases cs with
  | nil => simp at hc
  | cons c r =>
    simp only [List.map_cons, setE, setL, h1, h2]
    exact ⟨by simpa using (set_same h r).1, (set_same h r).2⟩
/-- a right world settles, or has too many files; what is settled stays as it is -/
theorem stl_right {W : Wd} (h : WdOk W) : stlE W = 11 ∨ (stlE W = 0 ∧ ∃ L, stlW W = ⟨W.clock.map fun _ => L, W.clock.map fun c => rsd c L, []⟩ ∧ stlE (stlW W) = 0 ∧ stlW (stlW W) = stlW W ∧ (∀ f ∈ L, ∃ l ∈ W.nodes, f ∈ l)) := by
  have h0 := errWd_zero.2 h
  have hn : ∀ l ∈ W.nodes, errM l = 0 := fun l hl => by
    obtain ⟨k, hk⟩ := List.getElem?_of_mem hl
    have := node_ok h k
    rwa [show W.nodes.getD k [] = l by simp [List.getD, hk]] at this
  have e1 : stlE W = setE [] W.nodes := by unfold stlE; rw [if_neg (by simp [h0])]
  rcases set_err W.nodes [] errM_nil hn with ⟨q1, q2⟩ | q
  · refine .inr ⟨by rw [e1, q1], setL [] W.nodes, ?_⟩
    have e2 : stlW W = ⟨W.clock.map fun _ => setL [] W.nodes, W.clock.map fun c => rsd c (setL [] W.nodes), []⟩ := by unfold stlW; rw [if_pos (by rw [e1, q1])]
    refine ⟨e2, ?_⟩
    have hm : ∀ f ∈ setL [] W.nodes, ∃ l ∈ W.nodes, f ∈ l := fun f hf => by
      rcases mem_set _ _ hf with q | q
      · cases q
      · exact q
    generalize setL [] W.nodes = L at *
    have hc1 : 1 ≤ W.clock.length := by rw [h.cl]; exact h.lo
    have hok : errWd (stlW W) = 0 := by
      rw [errWd_zero, e2]
      refine ⟨by simpa using hc1, by simp [h.cl]; exact h.hi, by simp, by simp, ?_, fun m hm => by cases hm⟩
      intro k l c hl hc
      simp only [List.getElem?_map, Option.map_eq_some_iff] at hl hc
      obtain ⟨c0, h1, rfl⟩ := hl
      obtain ⟨c1, h2, rfl⟩ := hc
      obtain ⟨l', c', n1, n2, n3⟩ := h.node (k := k) (by have := (List.getElem?_eq_some_iff.1 h2).1; rw [h.cl] at this; exact this)
      rw [h2] at n2
      cases n2
      exact ndok_rsd q2 n3.lo n3.hi
    obtain ⟨s1, s2⟩ := set_same0 q2 W.clock hc1
    have e3 : stlE (stlW W) = 0 := by
      unfold stlE
      rw [if_neg (by simp [hok]), e2]
      exact s1
    refine ⟨e3, ?_, hm⟩
    have e4 : ∀ V : Wd, stlE V = 0 → stlW V = ⟨V.clock.map fun _ => setL [] V.nodes, V.clock.map fun c => rsd c (setL [] V.nodes), []⟩ := fun V hV => by unfold stlW; rw [if_pos hV]
    rw [e4 _ e3, e2]
    simp only [s2, List.map_map, Wd.mk.injEq, and_true]
    exact ⟨List.map_congr_left (fun c _ => rfl), List.map_congr_left (fun c _ => by simp only [Function.comp]; exact rsd_again c L)⟩
  · exact .inl (by rw [e1, q])
end Go.Proofs.YtmgmganbamjnmaaGreatDoor

/-
  Worlds, of lists alone: what was put is not lost.
-/
namespace Go.Proofs.YtmgmganbamjnmaaGreatDoor
open Go.RowKit
set_option linter.unusedVariables false
set_option linter.unusedSimpArgs false

/-- a list has this file, or a newer one -/
def Has (l : List Fl) (f : Fl) : Prop := ∃ g ∈ l, g.name = f.name ∧ nwr f g ≤ 0
theorem newer_trans {a b c : List Fl} (h : Newer1 a b) (k : Newer1 b c) : Newer1 a c := fun f hf => by
  obtain ⟨g, h1, h2, h3⟩ := h f hf
  obtain ⟨g', k1, k2, k3⟩ := k g h1
  exact ⟨g', k1, k2.trans h2, nwr_ord.trans h3 k3⟩
theorem Has.newer {l l' : List Fl} {f : Fl} (h : Has l f) (hn : Newer1 l l') : Has l' f := by
  obtain ⟨g, h1, h2, h3⟩ := h
  obtain ⟨g', k1, k2, k3⟩ := hn g h1
  exact ⟨g', k1, k2.trans h2, nwr_ord.trans h3 k3⟩
/-- its node has it, or a newer one -/
def Kept (W : Wd) (f : Fl) : Prop := ∃ (j : Nat) (l : List Fl), f.node = (j : Int) ∧ W.nodes[j]? = some l ∧ Has l f
theorem Kept.gw {W V : Wd} {kd : Int} {f : Fl} (h : Kept W f) (g : Gw W V kd) : Kept V f := by
  obtain ⟨j, l, h1, h2, h3⟩ := h
  have hj := (List.getElem?_eq_some_iff.1 h2).1
  have hv : j < V.nodes.length := by rw [g.len]; exact hj
  exact ⟨j, _, h1, List.getElem?_eq_getElem hv, h3.newer (g.new j _ _ h2 (List.getElem?_eq_getElem hv))⟩
theorem set_newer : ∀ (ls : List (List Fl)) (a : List Fl), setE a ls = 0 → Newer1 a (setL a ls) ∧ ∀ l ∈ ls, Newer1 l (setL a ls)
  | [], a, _ => ⟨newer_refl a, fun l hl => by cases hl⟩
  | l :: r, a, h => by
    unfold setE at h
    unfold setL
    by_cases h0 : bothE a l = 0
    · rw [if_neg (by simp [h0])] at h
      obtain ⟨h1, h2⟩ := newer_both h0
      obtain ⟨k1, k2⟩ := set_newer r _ h
      refine ⟨newer_trans h1 k1, fun m hm => ?_⟩
      rcases List.mem_cons.1 hm with rfl | hm
      · exact newer_trans h2 k1
      · exact k2 m hm
    · rw [if_pos h0] at h; exact absurd h h0
theorem stl_zero {W : Wd} (h : stlE W = 0) : setE [] W.nodes = 0 ∧ stlW W = ⟨W.clock.map fun _ => setL [] W.nodes, W.clock.map fun c => rsd c (setL [] W.nodes), []⟩ := by
  have h2 := h
  unfold stlE at h2
  by_cases h0 : errWd W = 0
  · rw [if_neg (by simp [h0])] at h2
    exact ⟨h2, by unfold stlW; rw [if_pos h]⟩
  · rw [if_pos h0] at h2; exact absurd h2 h0
theorem Kept.settled {W : Wd} {f : Fl} (h : Kept W f) (hs : stlE W = 0) {l : List Fl} (hl : l ∈ (stlW W).nodes) : Has l f := by
  obtain ⟨h1, h2⟩ := stl_zero hs
  rw [h2] at hl
  simp only [List.mem_map] at hl
  obtain ⟨c, _, rfl⟩ := hl
  obtain ⟨j, m, _, k2, k3⟩ := h
  exact k3.newer ((set_newer _ _ h1).2 m (List.mem_of_getElem? k2))
theorem putF_name (x : Hp) (c : Int) : (putF x c).name = x.name := by unfold putF; split <;> rfl
theorem putF_node (x : Hp) (c : Int) : (putF x c).node = x.node := by unfold putF; split <;> rfl
theorem putF_stamp (x : Hp) (c : Int) : (putF x c).stamp = c + 1 := by unfold putF; split <;> rfl
theorem putF_gone (x : Hp) (c : Int) : (putF x c).gone = decide (x.kind = 2) := by
  unfold putF
  by_cases h : x.kind = 2
  · rw [if_pos h]; simp [h]
  · rw [if_neg h]; simp [h]
theorem nwr_up {p y : Fl} (h : y.stamp < p.stamp) : nwr p y = 1 := by
  have e : cmpI p.stamp y.stamp = 1 := by unfold cmpI; rw [if_neg (by omega), if_pos h]
  unfold nwr nz
  rw [e, if_pos (by decide)]
/-- what was put is there -/
theorem do_put {W : Wd} {x : Hp} (h : doE W x = 0) (hk : x.kind = 1 ∨ x.kind = 2) : ∃ (j : Nat) (c : Int) (L : List Fl), x.node = (j : Int) ∧ j < W.nodes.length ∧ (doW W x).nodes[j]? = some L ∧ lookF x.name L = some (putF x c) ∧ NRise L ∧ (∀ f ∈ L, lookF f.name L = some f) := by
  obtain ⟨hok, hE, hV⟩ := doE_zero h
  rw [hV]
  unfold cgE at hE
  unfold cgC
  rw [if_pos hk] at hE ⊢
  obtain ⟨hp, _, hb⟩ := fileE_zero hE
  obtain ⟨h1, h2⟩ := isP_true.1 hp
  obtain ⟨j, hj⟩ : ∃ j : Nat, x.node = (j : Int) := ⟨x.node.toNat, by omega⟩
  have hjl : j < W.nodes.length := by omega
  obtain ⟨l, c, e1, e2, hn⟩ := hok.node hjl
  have ej : x.node.toNat = j := by omega
  rw [ej] at hb
  have g1 : W.nodes.getD j [] = l := by simp [List.getD, e1]
  have g2 : W.clock.getD j 0 = c := by simp [List.getD, e2]
  rw [g1, g2] at hb
  obtain ⟨m1, m2, _⟩ := bothE_zero.1 hb
  have r1 := (errM_zero.1 m1).2.2
  have r2 := (errM_zero.1 m2).2.2
  have hr : NRise (bothL l [putF x c]) := by rw [bothL_ok hb]; exact rise_tog _ _ r1 r2
  refine ⟨j, c, bothL l [putF x c], hj, hjl, ?_, ?_, hr, fun f hf => look_mem hr hf⟩
  · show (W.nodes.set _ _)[j]? = _
    rw [ej, g1, g2, List.getElem?_set_self hjl]
  · rw [bothL_ok hb, look_tog _ _ r1 r2, look_cons, if_pos (putF_name x c)]
    cases hl : lookF x.name l with
    | none => rfl
    | some y =>
      have := hn.st y (look_some hl).2
      show some (pickF y (putF x c)) = _
      unfold pickF
      rw [nwr_up (p := putF x c) (y := y) (by rw [putF_stamp]; omega), if_pos (by decide)]
theorem found_look {L : List Fl} {n : List UInt8} {r : Int} {f : Fl} (h : Found (fun g => g.name == n) L r) (hl : lookF n L = some f) (hr : NRise L) : ∃ i : Nat, r = (i : Int) ∧ L[i]? = some f ∧ i < L.length := by
  rcases h with ⟨_, h⟩ | ⟨i, g, h1, h2, h3, _⟩
  · have h2 := h f (look_some hl).2
    simp only [(look_some hl).1, beq_self_eq_true] at h2
    cases h2
  · have e : g.name = n := by simpa using h3
    have := look_mem hr (List.mem_of_getElem? h2)
    rw [e, hl] at this
    cases this
    exact ⟨i, h1, h2, (List.getElem?_eq_some_iff.1 h2).1⟩
theorem found_has {L : List Fl} {r : Int} {f : Fl} (h : Found (fun g => g.name == f.name) L r) (hf : Has L f) (hr : NRise L) : ∃ (i : Nat) (g : Fl), r = (i : Int) ∧ L[i]? = some g ∧ i < L.length ∧ nwr f g ≤ 0 := by
  obtain ⟨g, h1, h2, h3⟩ := hf
  have hl := look_mem hr h1
  rw [h2] at hl
  obtain ⟨i, k1, k2, k3⟩ := found_look h hl hr
  exact ⟨i, g, k1, k2, k3, h3⟩
theorem errN_nn {n : List UInt8} (h : errN n = 0) : n ≠ [] := by
  rintro rfl
  revert h
  decide
theorem errM_ne {l : List Fl} (h : errM l = 0) : ∀ f ∈ l, f.name ≠ [] := by
  intro f hf
  have h2 := (errM_zero.1 h).2.1 f hf
  unfold errV at h2
  split at h2
  · rename_i h3; exact absurd h2 h3
  · rename_i h3
    exact errN_nn (by simpa using h3)
theorem node_rise {W : Wd} (h : WdOk W) {j : Nat} {l : List Fl} (hl : W.nodes[j]? = some l) : errM l = 0 ∧ NRise l := by
  have := node_ok h j
  rw [show W.nodes.getD j [] = l by simp [List.getD, hl]] at this
  exact ⟨this, (errM_zero.1 this).2.2⟩
end Go.Proofs.YtmgmganbamjnmaaGreatDoor
