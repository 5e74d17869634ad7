/-
  'm[k] = append(m[k], x)' on a map of slices of the call's own, where the entry is asked for once.
-/
import Derived.Maps.GroupsBeside
import Derived.WideKeyEntry
import Derived.WideKeyPair
namespace Go.Proofs.Ytoiioemkibfdcac
open Go.RowKit Go.Maps Go.WideElems Go.MapKept Go.ChangeMaps
set_option linter.unusedVariables false

theorem find_same {H : Type} {P : Program} {k : TypeId} (K : Keyed P k) {R : Value → Option (DataW H × List MemPlace)} {es : Array MapEntry} {clock : Nat} (F : Fit P k R es clock) {x : Value} {lx : Lit} (hx : keyOf P k x = some lx) (w w' : World) {r : Option (Nat × Value)}
    (h : (Instr.findKey k x es.toList).run P w = .ok r w) : (Instr.findKey k x es.toList).run P w' = .ok r w' := by
  rcases K.find w hx es.toList F.keys with ⟨h1, h2⟩ | ⟨j, e0, h1, h2, h3⟩ <;> rcases K.find w' hx es.toList F.keys with ⟨i1, i2⟩ | ⟨i, e1, i1, i2, i3⟩
  · rw [h1] at h
    cases h
    exact i1
  · exact absurd i3 (h2 e1 (List.mem_of_getElem? i2))
  · exact absurd h3 (i2 e0 (List.mem_of_getElem? h2))
  · have e : i = j := by
      by_cases c : i = j
      · exact c
      · exact absurd (i3.trans h3.symm) (other_key F h2 i2 c)
    subst e
    rw [h2] at i2
    cases i2
    rw [h1] at h
    cases h
    exact i1

theorem setBlock_twice (w : World) (b : Nat) (x y : Obj) : setBlock (setBlock w b x) b y = setBlock w b y := by
  simp [setBlock]
theorem setBlock_grown {w : World} {b : Nat} {es : Array MapEntry} {clock : Nat} (hb : w.heap[b]? = some (.map es clock)) (es' : Array MapEntry) (clock' : Nat) : w.grownBy (setBlock w b (.map es' clock')) (some b) :=
  ⟨rfl, rfl, rfl, by simp [setBlock], fun i _ hi => heap_setBlock_other hb _ (fun e1 => hi (by rw [e1]))⟩

/-- what asking for the entry leaves: the way back -/
def EntryBack {H : Type} (w w1 : World) (P : Program) (t k : TypeId) (base : Nat) (e : TypeId) (q : IntKind) (b n st : Nat) (D : DataW H) (kl : Lit) (v : Value) : Prop :=
  ∀ (w2 : World) (v' : Value) (zs' : List Int), w1.grownBy w2 v.ownBlock → w2.ownsInts base e q v' zs' → zs'.length ≤ n + 1 → (v'.ownBlock = v.ownBlock ∨ ∃ g, v'.ownBlock = some g ∧ w1.heap.size ≤ g) →
    ∃ w3, (Instr.entryStore t (.map (some b)) (goInt st) v').run P w2 = .ok () w3 ∧ w3.ownsGroups P k base e q b (n + 1) (D.put kl (rowDatum q v' zs')) ∧ w2.grownBy w3 (some b) ∧
      (∀ No : Nat → Prop, w.Shuns b No → (∀ g, v'.ownBlock = some g → ¬ No g) → w3.Shuns b No)

theorem entry_groups {H : Type} {P : Program} {w : World} {t E k e : TypeId} {q : IntKind} {base b n : Nat} {D : DataW H} {key : Value} {kl : Lit} (h : w.ownsGroups P k base e q b n D) (K : Keyed P k) (ht : P.underlying t = some (.map k E)) (hz : ∀ u : World, (zeroValue E).run P u = .ok (.slice none 0 0) u) (hn : n < maxLen) (hkey : keyOf P k key = some kl) :
    ∃ (v : Value) (zs : List Int) (st : Nat) (w1 : World), (Instr.mapEntry t (.map (some b)) key).run P w = .ok (.tuple #[v, goInt st]) w1 ∧ w.grownBy w1 (some b) ∧ w1.heap.size = w.heap.size ∧ D.atKey kl .nil = rowDatum q v zs ∧ w1.ownsInts base e q v zs ∧ zs.length ≤ n ∧ (∀ No : Nat → Prop, w.Shuns b No → ∀ g, v.ownBlock = some g → ¬ No g) ∧
      EntryBack w w1 P t k base e q b n st D kl v := by
  obtain ⟨v, zs, hrun, hat, hoi, hzl, hback⟩ := h.at K ht (hz w) hn hkey
  obtain ⟨es, clock, hb, F, hs, _, hbb, _⟩ := h
  have hblt : b < w.heap.size := (Array.getElem?_eq_some_iff.1 hb).1
  have hvb : v.ownBlock = none ∨ v.ownBlock ≠ some b := by
    cases hv : v.ownBlock with
    | none => exact .inl rfl
    | some g =>
      refine .inr (fun e1 => ?_)
      have := (hoi.1.lt g hv).1
      cases e1
      omega
  obtain ⟨s1, s2, _⟩ := F.stamped
  -- from what the entry's asking leaves to the end, once for both ways
  have finish : ∀ (es1 : Array MapEntry) (clock1 st : Nat),
      (∀ (w2 : World) (val : Value), w2.heap[b]? = some (.map es1 clock1) → ∃ es' clock', (Instr.entryStore t (.map (some b)) (goInt st) val).run P w2 = .ok () (setBlock w2 b (.map es' clock')) ∧
        ∀ u : World, u.heap[b]? = some (.map es clock) → (Instr.mapUpdate t (.map (some b)) key val).run P u = .ok () (setBlock u b (.map es' clock'))) →
      EntryBack w (setBlock w b (.map es1 clock1)) P t k base e q b n st D kl v := by
    intro es1 clock1 st hst w2 v' zs' hg ho' hl' hloc
    have hsz1 : (setBlock w b (.map es1 clock1)).heap.size = w.heap.size := by simp [setBlock]
    have hb2 : w2.heap[b]? = some (.map es1 clock1) := by
      rw [hg.block b (by rw [hsz1]; exact hblt) (fun e1 => by
        rcases hvb with h1 | h1
        · rw [h1] at e1; cases e1
        · exact h1 e1.symm)]
      exact heap_setBlock_same hb _
    obtain ⟨es', clock', hE, hU⟩ := hst w2 v' hb2
    have hb2' : (setBlock w2 b (.map es clock)).heap[b]? = some (.map es clock) := heap_setBlock_same hb2 _
    have hg2' := setBlock_grown hb2 es clock
    have hgw : w.grownBy (setBlock w2 b (.map es clock)) v.ownBlock := by
      refine ⟨hg.os, hg.tape, hg.output, ?_, ?_⟩
      · have := hg.size
        rw [hsz1] at this
        exact Nat.le_trans this hg2'.size
      · intro i hi hr
        by_cases c : i = b
        · subst c
          rw [hb2', hb]
        · rw [hg2'.block i (by have := hg.size; rw [hsz1] at this; omega) (fun e1 => c (by simpa using e1)), hg.block i (by rw [hsz1]; exact hi) hr]
          exact heap_setBlock_other hb _ c
    have ho2 : (setBlock w2 b (.map es clock)).ownsInts base e q v' zs' := ho'.kept hg2' (by
      cases hv : v'.ownBlock with
      | none => exact .inl rfl
      | some g =>
        refine .inr (fun e1 => ?_)
        have := (ho'.1.lt g hv).1
        cases e1
        omega)
    obtain ⟨w3, hrun3, hG3, hg3⟩ := hback _ v' zs' hgw ho2 hl' (by
      rcases hloc with h1 | ⟨g, h1, h2⟩
      · exact .inl h1
      · exact .inr ⟨g, h1, by rw [hsz1] at h2; exact h2⟩)
    have hsh := stored_who K ht hb2' F (Nat.lt_of_le_of_lt hs hn) hkey hrun3
    rw [hU _ hb2', setBlock_twice] at hrun3
    obtain rfl : setBlock w2 b (.map es' clock') = w3 := by simpa using hrun3
    refine ⟨_, hE, hG3, setBlock_grown hb2 es' clock', ?_⟩
    intro No hno hv' es2 clock2 hb3 x hx g hxg
    obtain ⟨es3, clock3, hb4, hwho⟩ := hsh
    obtain ⟨rfl, rfl⟩ : es3 = es2 ∧ clock3 = clock2 := by rw [hb4] at hb3; simpa using hb3
    rcases hwho x hx with ⟨hx0, _⟩ | ⟨_, hval⟩
    · exact hno es clock hb x hx0 g hxg
    · exact hv' g (by rw [← hval]; exact hxg)
  rcases K.find w hkey es.toList F.keys with ⟨h1, h2⟩ | ⟨j, e0, h1, h2, h3⟩
  · have hv : v = .slice none 0 0 := by
      simp [Instr.lookup, run_underlying ht, MapKept.run_getObj_map hb, K.check w _ hkey, h1, hz w, Result.andThen] at hrun
      exact hrun.symm
    refine ⟨v, zs, clock, setBlock w b (.map (es.push ⟨key, v, clock⟩) (clock + 1)), ?_, setBlock_grown hb _ _, by simp [setBlock], hat, hoi.kept (setBlock_grown hb _ _) hvb, hzl, ?_, finish _ _ _ ?_⟩
    · rw [hv]
      simp [Instr.mapEntry, run_underlying ht, MapKept.run_getObj_map hb, K.check w false hkey, h1, hz, MapKept.run_setObj_map _ hb, Result.andThen, setBlock]
    · intro No _ g hg
      rw [hv] at hg
      cases hg
    · intro w2 val hw2
      refine ⟨es.push ⟨key, val, clock⟩, clock + 1, ?_, ?_⟩
      · have hidx : (es.push ⟨key, v, clock⟩).findIdx? (fun e => ((e.born : Nat) : Int) == ((clock : Nat) : Int)) = some es.size := by
          rw [findIdx_arr]
          have := findIdx_born (l := (es.push ⟨key, v, clock⟩).toList) (j := es.size) (e0 := ⟨key, v, clock⟩) (by
            simp only [Array.toList_push, List.map_append, List.map_cons, List.map_nil]
            refine List.nodup_append.2 ⟨s2, by simp, fun a ha c hc e1 => ?_⟩
            simp only [List.mem_singleton] at hc
            obtain ⟨x, hx, rfl⟩ := List.mem_map.1 ha
            have := s1 x hx
            omega) (by simp)
          exact this
        have hmod : (es.push ⟨key, v, clock⟩).modify es.size (fun e => { e with val := val }) = es.push ⟨key, val, clock⟩ := by
          apply Array.ext'
          rw [Array.toList_modify, Array.toList_push, Array.toList_push, ← Array.length_toList, modify_last]
        simp [Instr.entryStore, MapKept.run_getObj_map hw2, asInt, asIntOf, goInt, hidx, hmod, MapKept.run_setObj_map _ hw2, Result.andThen, setBlock]
      · intro u hu
        have h1u := find_same K F hkey w u h1
        simp [Instr.mapUpdate, run_underlying ht, MapKept.run_getObj_map hu, K.check u false hkey, h1u, MapKept.run_setObj_map _ hu, Result.andThen, setBlock]
  · have hj : es[j]? = some e0 := by simpa using h2
    have hv : v = e0.val := by
      simp [Instr.lookup, run_underlying ht, MapKept.run_getObj_map hb, K.check w _ hkey, h1, Result.andThen] at hrun
      exact hrun.symm
    have hsame : es.modify j (fun e => { e with key := key }) = es := by
      apply Array.ext'
      rw [Array.toList_modify, modify_eq_set _ _ _ _ h2]
      have : ({ e0 with key := key } : MapEntry) = e0 := by rw [← h3]
      rw [this]
      exact set_self _ _ _ h2
    refine ⟨v, zs, e0.born, setBlock w b (.map es clock), ?_, setBlock_grown hb _ _, by simp [setBlock], hat, hoi.kept (setBlock_grown hb _ _) hvb, hzl, ?_, finish _ _ _ ?_⟩
    · rw [hv]
      simp [Instr.mapEntry, run_underlying ht, MapKept.run_getObj_map hb, K.check w false hkey, h1, hj, h3, K.stays w hkey, hsame, MapKept.run_setObj_map _ hb, Result.andThen, setBlock]
    · intro No hno g hg
      exact hno es clock hb e0 (List.mem_of_getElem? h2) g (by rw [← hv]; exact hg)
    · intro w2 val hw2
      refine ⟨es.modify j (fun e' => { e' with key := key, val := val }), clock, ?_, ?_⟩
      · have hidx : es.findIdx? (fun e => ((e.born : Nat) : Int) == ((e0.born : Nat) : Int)) = some j := by
          rw [findIdx_arr]
          exact findIdx_born s2 h2
        have hmod : es.modify j (fun e => { e with val := val }) = es.modify j (fun e' => { e' with key := key, val := val }) := by
          apply Array.ext'
          rw [Array.toList_modify, Array.toList_modify, modify_eq_set _ _ _ _ h2, modify_eq_set _ _ _ _ h2, ← h3]
        simp [Instr.entryStore, MapKept.run_getObj_map hw2, asInt, asIntOf, goInt, hidx, hmod, MapKept.run_setObj_map _ hw2, Result.andThen, setBlock]
      · intro u hu
        have h1u := find_same K F hkey w u h1
        simp [Instr.mapUpdate, run_underlying ht, MapKept.run_getObj_map hu, K.check u false hkey, h1u, hj, h3, K.stays u hkey, MapKept.run_setObj_map _ hu, Result.andThen, setBlock]
end Go.Proofs.Ytoiioemkibfdcac
