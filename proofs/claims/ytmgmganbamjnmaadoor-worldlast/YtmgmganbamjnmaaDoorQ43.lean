/-
  Worlds, of lists alone: who put a file; what is settled.
-/
import Derived.Test.YtmgmganbamjnmaaDoorQ39
import Derived.Test.YtmgmganbamjnmaaDoorQ35
namespace Go.Proofs.YtmgmganbamjnmaaDoor
open Go.RowKit
set_option linter.unusedVariables false
set_option linter.unusedSimpArgs false

/-- a happening that was answered so may have put this file -/
def PutBy (x : Hp) (f : Fl) : Prop := x.kind = (if f.gone then 2 else 1) ∧ x.name = f.name ∧ x.node = f.node ∧ (f.gone = true ∨ x.bytes = f.bytes)
def From (xs : List Hp) (S : List Nat) (f : Fl) : Prop := ∃ (i : Nat) (x : Hp), xs[i]? = some x ∧ S[i]? = some 0 ∧ PutBy x f
def AllW (P : Fl → Prop) (W : Wd) : Prop := (∀ l ∈ W.nodes, ∀ f ∈ l, P f) ∧ ∀ m ∈ W.net, ∀ f ∈ m.files, P f
theorem mem_both {a b : List Fl} {f : Fl} (h : f ∈ bothL a b) : f ∈ a ∨ f ∈ b := by
  unfold bothL at h
  split at h
  · exact mem_tog a b f h
  · cases h
theorem putF_by {x : Hp} {c : Int} (h : x.kind = 1 ∨ x.kind = 2) : PutBy x (putF x c) := by
  unfold putF
  rcases h with h | h
  · rw [if_neg (by rw [h]; decide)]
    exact ⟨by simp [h], rfl, rfl, .inr rfl⟩
  · rw [if_pos h]
    exact ⟨by simp [h], rfl, rfl, .inl rfl⟩
theorem all_node {P : Fl → Prop} {W : Wd} (h : AllW P W) (k : Nat) : ∀ f ∈ W.nodes.getD k [], P f := by
  intro f hf
  cases hk : W.nodes[k]? with
  | none => simp [List.getD, hk] at hf
  | some l =>
    have e : W.nodes.getD k [] = l := by simp [List.getD, hk]
    rw [e] at hf
    exact h.1 l (List.mem_of_getElem? hk) f hf
theorem all_msg {P : Fl → Prop} {W : Wd} (h : AllW P W) (k : Int) : ∀ f ∈ (msgAt W k).files, P f := by
  intro f hf
  unfold msgAt at hf
  cases hk : W.net[k.toNat]? with
  | none => simp [List.getD, hk] at hf
  | some l =>
    have e : W.net.getD k.toNat ⟨0, []⟩ = l := by simp [List.getD, hk]
    rw [e] at hf
    exact h.2 l (List.mem_of_getElem? hk) f hf
theorem all_keep {P : Fl → Prop} {W : Wd} (h : AllW P W) {k : Nat} {l : List Fl} (hl : ∀ f ∈ l, P f) : AllW P (keepW k l W) := by
  refine ⟨fun a ha => ?_, h.2⟩
  rcases List.mem_or_eq_of_mem_set ha with q | q
  · exact h.1 a q
  · rw [q]; exact hl
theorem all_drop {P : Fl → Prop} {W : Wd} (h : AllW P W) {p : Nat} : AllW P (dropW p W) := ⟨h.1, fun m hm => h.2 m ((List.eraseIdx_sublist _ _).subset hm)⟩
theorem do_all {P : Fl → Prop} {W : Wd} {x : Hp} (h : AllW P W) (hE : doE W x = 0) (hp : x.kind = 1 ∨ x.kind = 2 → ∀ c, P (putF x c)) : AllW P (doW W x) := by
  rw [(doE_zero hE).2.2]
  unfold cgC
  split
  · rename_i hk
    exact all_keep h (fun f hf => by
      rcases mem_both hf with q | q
      · exact all_node h _ f q
      · rw [List.mem_singleton.1 q]; exact hp hk _)
  · split
    · refine ⟨h.1, fun m hm => ?_⟩
      rcases List.mem_append.1 hm with q | q
      · exact h.2 m q
      · rw [List.mem_singleton.1 q]; exact all_node h _
    · unfold netC
      split
      · exact all_drop h
      · split
        · refine ⟨h.1, fun m hm => ?_⟩
          rcases List.mem_append.1 hm with q | q
          · exact h.2 m q
          · rw [List.mem_singleton.1 q]; exact all_msg h _
        · exact all_drop (all_keep h (fun f hf => by
            rcases mem_both hf with q | q
            · exact all_node h _ f q
            · exact all_msg h _ f q))
theorem run_all {P : Fl → Prop} : ∀ (xs : List Hp) (W : Wd), AllW P W → (∀ (i : Nat) (x : Hp), xs[i]? = some x → (runS W xs)[i]? = some 0 → x.kind = 1 ∨ x.kind = 2 → ∀ c, P (putF x c)) → AllW P (runW W xs)
  | [], W, h, _ => h
  | x :: r, W, h, hp => by
    unfold runW
    refine run_all r _ ?_ (fun i y hy hs => hp (i + 1) y (by simpa using hy) (by simpa [runS] using hs))
    split
    · rename_i h0
      exact do_all h h0 (hp 0 x rfl (by simp [runS, h0]))
    · exact h
theorem run_ok : ∀ (xs : List Hp) (W : Wd), WdOk W → WdOk (runW W xs)
  | [], W, h => h
  | x :: r, W, h => by
    unfold runW
    refine run_ok r _ ?_
    split
    · rename_i h0; exact do_ok h0
    · exact h
theorem runS_len : ∀ (xs : List Hp) (W : Wd), (runS W xs).length = xs.length
  | [], W => rfl
  | x :: r, W => by simp [runS, runS_len r]
theorem errM_nil : errM [] = 0 := by decide
theorem new_ok {n : Int} (h : newE n = 0) : WdOk (newW n) := by
  have hn : 1 ≤ n ∧ n ≤ 4 := by
    unfold newE at h
    split at h
    · cases h
    · omega
  obtain ⟨m, rfl⟩ : ∃ m : Nat, n = m := ⟨n.toNat, by omega⟩
  unfold newW
  rw [if_pos h]
  rw [Int.toNat_natCast]
  rw [← errWd_zero]
  have : m = 1 ∨ m = 2 ∨ m = 3 ∨ m = 4 := by omega
  rcases this with rfl | rfl | rfl | rfl <;> decide
theorem new_all {P : Fl → Prop} {n : Int} : AllW P (newW n) := by
  unfold newW
  split
  · refine ⟨fun l hl => ?_, fun m hm => by cases hm⟩
    rw [(List.mem_replicate.1 hl).2]
    intro f hf
    cases hf
  · exact ⟨fun l hl => absurd hl (List.not_mem_nil), fun m hm => absurd hm (List.not_mem_nil)⟩
theorem runE_zero {n : Int} {xs : List Hp} (h : runE n xs = 0) : newE n = 0 ∧ runR n xs = runW (newW n) xs ∧ runT n xs = runS (newW n) xs ∧ xs.length ≤ 40 := by
  have h0 := h
  unfold runE at h
  split at h
  · rename_i q; exact absurd h q
  · rename_i q
    split at h
    · cases h
    · exact ⟨by simpa using q, by unfold runR; rw [if_pos h0], by unfold runT; rw [if_pos h0], by omega⟩
theorem run_right {n : Int} {xs : List Hp} (h : runE n xs = 0) : WdOk (runR n xs) ∧ (runT n xs).length = xs.length ∧ AllW (From xs (runT n xs)) (runR n xs) := by
  obtain ⟨h1, h2, h3, _⟩ := runE_zero h
  rw [h2, h3]
  exact ⟨run_ok xs _ (new_ok h1), runS_len xs _, run_all xs _ new_all (fun i x hx hs hk c => ⟨i, x, hx, hs, putF_by hk⟩)⟩
theorem mem_set {f : Fl} : ∀ (ls : List (List Fl)) (a : List Fl), f ∈ setL a ls → f ∈ a ∨ ∃ l ∈ ls, f ∈ l
  | [], a, h => .inl h
  | l :: r, a, h => by
    unfold setL at h
    rcases mem_set r _ h with q | ⟨m, q1, q2⟩
    · rcases mem_both q with q | q
      · exact .inl q
      · exact .inr ⟨l, List.mem_cons_self, q⟩
    · exact .inr ⟨m, List.mem_cons_of_mem _ q1, q2⟩
theorem set_err : ∀ (ls : List (List Fl)) (a : List Fl), errM a = 0 → (∀ l ∈ ls, errM l = 0) → (setE a ls = 0 ∧ errM (setL a ls) = 0) ∨ setE a ls = 11
  | [], a, h, _ => .inl ⟨rfl, h⟩
  | l :: r, a, h, hl => by
    unfold setE setL
    rcases bothE_full2 h (hl l List.mem_cons_self) with q | q
    · rw [if_neg (by simp [q])]
      exact set_err r _ (bothL_err q) (fun m hm => hl m (List.mem_cons_of_mem _ hm))
    · exact .inr (by rw [if_pos (by rw [q]; decide), q])
theorem tog_none (l : List Fl) : tog [] l = l := by cases l <;> simp [tog]
theorem both_nil {l : List Fl} (h : errM l = 0) : bothE [] l = 0 ∧ bothL [] l = l := by
  have h0 : bothE [] l = 0 := bothE_zero.2 ⟨errM_nil, h, by rw [tog_none]; exact (errM_zero.1 h).1⟩
  exact ⟨h0, by rw [bothL_ok h0, tog_none]⟩
theorem both_self {l : List Fl} (h : errM l = 0) : bothE l l = 0 ∧ bothL l l = l := by
  obtain ⟨h1, h2⟩ := both_nil h
  have := both_again h1
  rw [h2] at this
  exact this
theorem set_same {l : List Fl} (h : errM l = 0) : ∀ (cs : List Int), setE l (cs.map fun _ => l) = 0 ∧ setL l (cs.map fun _ => l) = l
  | [] => ⟨rfl, rfl⟩
  | c :: r => by
    obtain ⟨h1, h2⟩ := both_self h
    simp only [List.map_cons, setE, setL, h1, h2]
    exact ⟨by simpa using (set_same h r).1, (set_same h r).2⟩
theorem set_same0 {l : List Fl} (h : errM l = 0) (cs : List Int) (hc : 1 ≤ cs.length) : setE [] (cs.map fun _ => l) = 0 ∧ setL [] (cs.map fun _ => l) = l := by
  obtain ⟨h1, h2⟩ := both_nil h
  cases cs with
  | nil => simp at hc
  | cons c r =>
    simp only [List.map_cons, setE, setL, h1, h2]
    exact ⟨by simpa using (set_same h r).1, (set_same h r).2⟩
/-- a right world settles, or has too many files; what is settled stays as it is -/
theorem stl_right {W : Wd} (h : WdOk W) : stlE W = 11 ∨ (stlE W = 0 ∧ ∃ L, stlW W = ⟨W.clock.map fun _ => L, W.clock.map fun c => rsd c L, []⟩ ∧ stlE (stlW W) = 0 ∧ stlW (stlW W) = stlW W ∧ (∀ f ∈ L, ∃ l ∈ W.nodes, f ∈ l)) := by
  have h0 := errWd_zero.2 h
  have hn : ∀ l ∈ W.nodes, errM l = 0 := fun l hl => by
    obtain ⟨k, hk⟩ := List.getElem?_of_mem hl
    have := node_ok h k
    rwa [show W.nodes.getD k [] = l by simp [List.getD, hk]] at this
  have e1 : stlE W = setE [] W.nodes := by unfold stlE; rw [if_neg (by simp [h0])]
  rcases set_err W.nodes [] errM_nil hn with ⟨q1, q2⟩ | q
  · refine .inr ⟨by rw [e1, q1], setL [] W.nodes, ?_⟩
    have e2 : stlW W = ⟨W.clock.map fun _ => setL [] W.nodes, W.clock.map fun c => rsd c (setL [] W.nodes), []⟩ := by unfold stlW; rw [if_pos (by rw [e1, q1])]
    refine ⟨e2, ?_⟩
    have hm : ∀ f ∈ setL [] W.nodes, ∃ l ∈ W.nodes, f ∈ l := fun f hf => by
      rcases mem_set _ _ hf with q | q
      · cases q
      · exact q
    generalize setL [] W.nodes = L at *
    have hc1 : 1 ≤ W.clock.length := by rw [h.cl]; exact h.lo
    have hok : errWd (stlW W) = 0 := by
      rw [errWd_zero, e2]
      refine ⟨by simpa using hc1, by simp [h.cl]; exact h.hi, by simp, by simp, ?_, fun m hm => by cases hm⟩
      intro k l c hl hc
      simp only [List.getElem?_map, Option.map_eq_some_iff] at hl hc
      obtain ⟨c0, h1, rfl⟩ := hl
      obtain ⟨c1, h2, rfl⟩ := hc
      obtain ⟨l', c', n1, n2, n3⟩ := h.node (k := k) (by have := (List.getElem?_eq_some_iff.1 h2).1; rw [h.cl] at this; exact this)
      rw [h2] at n2
      cases n2
      exact ndok_rsd q2 n3.lo n3.hi
    obtain ⟨s1, s2⟩ := set_same0 q2 W.clock hc1
    have e3 : stlE (stlW W) = 0 := by
      unfold stlE
      rw [if_neg (by simp [hok]), e2]
      exact s1
    refine ⟨e3, ?_, hm⟩
    have e4 : ∀ V : Wd, stlE V = 0 → stlW V = ⟨V.clock.map fun _ => setL [] V.nodes, V.clock.map fun c => rsd c (setL [] V.nodes), []⟩ := fun V hV => by unfold stlW; rw [if_pos hV]
    rw [e4 _ e3, e2]
    simp only [s2, List.map_map, Wd.mk.injEq, and_true]
    exact ⟨List.map_congr_left (fun c _ => rfl), List.map_congr_left (fun c _ => by simp only [Function.comp]; exact rsd_again c L)⟩
  · exact .inl (by rw [e1, q])
end Go.Proofs.YtmgmganbamjnmaaDoor
