/-
  How a happening, and a script, that were handed in lie in memory.
-/
import Derived.Test.YtmgmganbamjnmaaDoorQ48
import Derived.Test.YtmgmganbamjnmaaDoorQ38
namespace Go.Proofs.YtmgmganbamjnmaaDoor
open Go.RowKit Go.ChangeShapes Go.WideShapes Go.ChangeAt Go.Deep
set_option linter.unusedVariables false
set_option maxRecDepth 100000

theorem cellsHap : Tryd.prog.cellsOf 41 = 5 := by kernel_rfl
theorem bytesHap : Tryd.prog.bytesOf 41 = 64 := by kernel_rfl
def hpL (x : Hp) (a : Option Addr) (c : Nat) : List Value := [.int .i64 x.kind, .int .i64 x.node, .int .i64 x.dst, .string (B x.name), .slice a x.bytes.length c]
/-- a happening that was handed in -/
theorem open_hap {H : Type} {enc : TypeId × Value → H} {w : World} {fuel : Nat} {cs : List Value} {x : DataW H × List MemPlace}
    (h : DataW.trod enc Tryd.prog w 0 (fun _ => true) true fuel 41 cs = some x) (hw : ∀ n ∈ x.1.weights Tryd.prog 41, n ≤ 140737488351232) : ∃ z a c, cs = hpL z a c ∧ HpAt w z a c := by
  obtain ⟨y0, y1, y2, y3, y4, k, hx, hlen, g0, g1, g2, g3, g4⟩ := trod_struct5 Tryd.underlying41 h
  rw [cellsHap] at hlen
  match cs, hlen with
  | [v0, v1, v2, v3, v4], _ =>
    simp only [cellsStr, cellsInt, cellsBs] at g0 g1 g2 g3 g4
    simp at g0 g1 g2 g3 g4
    have hws : ∀ n, n ∈ y3.1.weights Tryd.prog 9 ∨ n ∈ y4.1.weights Tryd.prog 37 → n ≤ 140737488351232 := by
      intro n hn
      apply hw
      rw [hx]
      simp only [DataW.weights, Tryd.underlying41]
      rcases hn with hn | hn
      · exact DataW.weights_mem_each (j := 3) rfl rfl n hn
      · exact DataW.weights_mem_each (j := 4) rfl rfl n hn
    obtain ⟨n0, e0, _, _⟩ := DataW.trod_int Tryd.underlying3 g0
    obtain ⟨n1, e1, _, _⟩ := DataW.trod_int Tryd.underlying3 g1
    obtain ⟨n2, e2, _, _⟩ := DataW.trod_int Tryd.underlying3 g2
    obtain ⟨s, e3, hs, _⟩ := DataW.trod_string Tryd.underlying9 g3
    obtain ⟨a, c, bs, e4, hB, hbl⟩ := open_bs g4 (fun n hn => hws n (.inr hn))
    simp at e0 e1 e2 e3
    subst e0
    subst e1
    subst e2
    subst e3
    subst e4
    have hsl : s.data.toList.length ≤ 140737488351232 := hws _ (.inl (by rw [hs]; simp [DataW.weights]))
    exact ⟨⟨n0, n1, n2, s.data.toList, bs⟩, a, c, by simp [hpL, B_data], ⟨hB, by simp only; omega, by simp only; omega⟩⟩
structure Hz where
  x : Hp
  a : Option Addr
  c : Nat
instance : Inhabited Hz := ⟨⟨⟨0, 0, 0, [], []⟩, none, 0⟩⟩
/-- a script that was handed in -/
theorem open_script {H : Type} {enc : TypeId × Value → H} {w : World} {fuel : Nat} {a0 : Option Addr} {l0 c0 : Nat} {d : DataW H} {p : List MemPlace}
    (h : DataW.trod enc Tryd.prog w 0 (fun _ => true) true fuel 22 [.slice a0 l0 c0] = some (d, p)) (hw : ∀ n ∈ d.weights Tryd.prog 22, n ≤ 140737488351232) : ∃ xs, xs.length = l0 ∧ HsIn w a0 c0 xs := by
  rcases open_slice Tryd.underlying22 h with ⟨hcs, _⟩ | ⟨a, len, cap, m, n, D, Pl, hcs, _, hl, hm, hmm, hx1, hx⟩
  · simp at hcs
    obtain ⟨rfl, rfl, rfl⟩ := hcs
    exact ⟨[], rfl, by simp, by omega, by simp, .inl rfl⟩
  · simp at hcs
    obtain ⟨rfl, rfl, rfl⟩ := hcs
    simp only [if_true] at hmm
    subst hmm
    have hd1 := congrArg Prod.fst hx1
    simp only at hd1
    have hcap : m * 64 ≤ 140737488351232 := by
      apply hw
      rw [hd1]
      simp only [DataW.weights, Tryd.underlying22, bytesHap]
      refine List.mem_cons.2 (.inl ?_)
      simp
      omega
    have each : ∀ i, i < l0 → ∃ z : Hz, HpAt w z.x z.a z.c ∧ ∀ k, k < 5 → w.cell? (a.add (i * 5 + k)) = (hpL z.x z.a z.c)[k]? := by
      intro i hi
      obtain ⟨cs', h1, h2⟩ := hx i (by omega)
      rw [cellsHap] at h1
      obtain ⟨_, hlen, hcell⟩ := World.cells?_some h1
      obtain ⟨z, za, zc, hz, hF⟩ := open_hap h2 (fun n hn => hw n (by
        rw [hd1]
        simp only [DataW.weights, Tryd.underlying22]
        exact List.mem_cons_of_mem _ (List.mem_append.2 (.inl (weightsAll_mem (List.mem_map.2 ⟨i, List.mem_range.2 hi, rfl⟩) _ hn)))))
      refine ⟨⟨z, za, zc⟩, hF, fun k hk => ?_⟩
      have := hcell k hk
      rw [add_add] at this
      rw [this, hz]
    obtain ⟨f, hf⟩ := choose_lt each
    refine ⟨(List.range l0).map fun i => (f i).x, by simp, by simp; omega, by omega, by simp; omega, ?_⟩
    by_cases h0 : l0 = 0
    · subst h0; exact .inl rfl
    · obtain ⟨b, o, spot⟩ := a
      have hc := (hf 0 (by omega)).2 0 (by omega)
      have hc' : w.cell? (Addr.add ⟨b, o, spot⟩ (0 * 5 + 0)) = some (.int .i64 (f 0).x.kind) := hc
      have hspot : spot = none := by simpa [Addr.add] using World.cell?_spot hc'
      subst hspot
      refine .inr ⟨b, o, rfl, ?_, fun j xx hj => ?_⟩
      · have := World.block_lt_of_cell? _ _ hc'
        simpa [Addr.add] using this
      · have hj' : j < l0 := by
          have := (List.getElem?_eq_some_iff.1 hj).1
          simpa using this
        simp [hj'] at hj
        subst hj
        have q := (hf j hj').2
        have q0 := q 0 (by decide)
        have q1 := q 1 (by decide)
        have q2 := q 2 (by decide)
        have q3 := q 3 (by decide)
        have q4 := q 4 (by decide)
        rw [add_plain] at q0 q1 q2 q3 q4
        exact ⟨(f j).a, (f j).c, q0, by rw [Nat.add_assoc]; exact q1, by rw [Nat.add_assoc]; exact q2, by rw [Nat.add_assoc]; exact q3, by rw [Nat.add_assoc]; exact q4, (hf j hj').1⟩
end Go.Proofs.YtmgmganbamjnmaaDoor
