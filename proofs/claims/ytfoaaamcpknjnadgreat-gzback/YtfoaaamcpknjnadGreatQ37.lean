/-
  'm[k] = append(m[k], x)' on a map of slices of the call's own, where the entry is asked for once.
-/
import Derived.Maps.GroupsBeside
import Derived.WideKeyEntry
import Derived.WideKeyPair
import Derived.Test.YtfoaaamcpknjnadGreatQ36
import Derived.Laws.Cover3
namespace Go.Proofs.YtfoaaamcpknjnadGreat
open Go.RowKit Go.Maps Go.WideElems Go.MapKept Go.ChangeMaps
set_option linter.unusedVariables false

theorem find_same {H : Type} {P : Program} {k : TypeId} (K : Keyed P k) {R : Value → Option (DataW H × List MemPlace)} {es : Array MapEntry} {clock : Nat} (F : Fit P k R es clock) {x : Value} {lx : Lit} (hx : keyOf P k x = some lx) (w w' : World) {r : Option (Nat × Value)}
    (h : (Instr.findKey k x es.toList).run P w = .ok r w) : (Instr.findKey k x es.toList).run P w' = .ok r w' := by
  rcases K.find w hx es.toList F.keys with ⟨h1, h2⟩ | ⟨j, e0, h1, h2, h3⟩ <;> rcases K.find w' hx es.toList F.keys with ⟨i1, i2⟩ | ⟨i, e1, i1, i2, i3⟩
  · rw [h1] at h
    cases h
    exact i1
  · exact absurd i3 (h2 e1 (List.mem_of_getElem? i2))
  · exact absurd h3 (i2 e0 (List.mem_of_getElem? h2))
  · have e : i = j := by
      by_cases c : i = j
      · exact c
      · exact absurd (i3.trans h3.symm) (other_key F h2 i2 c)
    subst e
    rw [h2] at i2
    cases i2
    rw [h1] at h
    cases h
    exact i1

theorem setBlock_twice (w : World) (b : Nat) (x y : Obj) : setBlock (setBlock w b x) b y = setBlock w b y := by
  simp [setBlock]
theorem setBlock_grown {w : World} {b : Nat} {es : Array MapEntry} {clock : Nat} (hb : w.heap[b]? = some (.map es clock)) (es' : Array MapEntry) (clock' : Nat) : w.grownBy (setBlock w b (.map es' clock')) (some b) :=
  ⟨rfl, rfl, rfl, by simp [setBlock], fun i _ hi => heap_setBlock_other hb _ (fun e1 => hi (by rw [e1]))⟩

/-- what asking for the entry leaves: the way back -/
def EntryBack {H : Type} (w w1 : World) (P : Program) (t k : TypeId) (base : Nat) (e : TypeId) (q : IntKind) (b n st : Nat) (D : DataW H) (kl : Lit) (v : Value) : Prop :=
  ∀ (w2 : World) (v' : Value) (zs' : List Int), w1.grownBy w2 v.ownBlock → w2.ownsInts base e q v' zs' → zs'.length ≤ n + 1 → (v'.ownBlock = v.ownBlock ∨ ∃ g, v'.ownBlock = some g ∧ w1.heap.size ≤ g) →
    ∃ w3, (Instr.entryStore t (.map (some b)) (goInt st) v').run P w2 = .ok () w3 ∧ w3.ownsGroups P k base e q b (n + 1) (D.put kl (rowDatum q v' zs')) ∧ w2.grownBy w3 (some b) ∧
      (∀ No : Nat → Prop, w.Shuns b No → (∀ g, v'.ownBlock = some g → ¬ No g) → w3.Shuns b No)

theorem entry_groups {H : Type} {P : Program} {w : World} {t E k e : TypeId} {q : IntKind} {base b n : Nat} {D : DataW H} {key : Value} {kl : Lit} (h : w.ownsGroups P k base e q b n D) (K : Keyed P k) (ht : P.underlying t = some (.map k E)) (hz : ∀ u : World, (zeroValue E).run P u = .ok (.slice none 0 0) u) (hn : n < maxLen) (hkey : keyOf P k key = some kl) :
    ∃ (v : Value) (zs : List Int) (st : Nat) (w1 : World), (Instr.mapEntry t (.map (some b)) key).run P w = .ok (.tuple #[v, goInt st]) w1 ∧ w.grownBy w1 (some b) ∧ w1.heap.size = w.heap.size ∧ D.atKey kl .nil = rowDatum q v zs ∧ w1.ownsInts base e q v zs ∧ zs.length ≤ n ∧ (∀ No : Nat → Prop, w.Shuns b No → ∀ g, v.ownBlock = some g → ¬ No g) ∧
      EntryBack w w1 P t k base e q b n st D kl v := by
  obtain ⟨v, zs, hrun, hat, hoi, hzl, hback⟩ := h.at K ht (hz w) hn hkey
  obtain ⟨es, clock, hb, F, hs, _, hbb, _⟩ := h
  have hblt : b < w.heap.size := (Array.getElem?_eq_some_iff.1 hb).1
  have hvb : v.ownBlock = none ∨ v.ownBlock ≠ some b := by
    cases hv : v.ownBlock with
    | none => exact .inl rfl
    | some g =>
      refine .inr (fun e1 => ?_)
      have := (hoi.1.lt g hv).1
      cases e1
      omega
  obtain ⟨s1, s2, _⟩ := F.stamped
  -- from what the entry's asking leaves to the end, once for both ways
  have finish : ∀ (es1 : Array MapEntry) (clock1 st : Nat),
      (∀ (w2 : World) (val : Value), w2.heap[b]? = some (.map es1 clock1) → ∃ es' clock', (Instr.entryStore t (.map (some b)) (goInt st) val).run P w2 = .ok () (setBlock w2 b (.map es' clock')) ∧
        ∀ u : World, u.heap[b]? = some (.map es clock) → (Instr.mapUpdate t (.map (some b)) key val).run P u = .ok () (setBlock u b (.map es' clock'))) →
      EntryBack w (setBlock w b (.map es1 clock1)) P t k base e q b n st D kl v := by
    intro es1 clock1 st hst w2 v' zs' hg ho' hl' hloc
    have hsz1 : (setBlock w b (.map es1 clock1)).heap.size = w.heap.size := by simp [setBlock]
    have hb2 : w2.heap[b]? = some (.map es1 clock1) := by
      rw [hg.block b (by rw [hsz1]; exact hblt) (fun e1 => by
        rcases hvb with h1 | h1
        · rw [h1] at e1; cases e1
        · exact h1 e1.symm)]
      exact heap_setBlock_same hb _
    obtain ⟨es', clock', hE, hU⟩ := hst w2 v' hb2
    have hb2' : (setBlock w2 b (.map es clock)).heap[b]? = some (.map es clock) := heap_setBlock_same hb2 _
    have hg2' := setBlock_grown hb2 es clock
    have hgw : w.grownBy (setBlock w2 b (.map es clock)) v.ownBlock := by
      refine ⟨hg.os, hg.tape, hg.output, ?_, ?_⟩
      · have := hg.size
        rw [hsz1] at this
        exact Nat.le_trans this hg2'.size
      · intro i hi hr
        by_cases c : i = b
        · subst c
          rw [hb2', hb]
        · rw [hg2'.block i (by have := hg.size; rw [hsz1] at this; omega) (fun e1 => c (by simpa using e1)), hg.block i (by rw [hsz1]; exact hi) hr]
          exact heap_setBlock_other hb _ c
    have ho2 : (setBlock w2 b (.map es clock)).ownsInts base e q v' zs' := ho'.kept hg2' (by
      cases hv : v'.ownBlock with
      | none => exact .inl rfl
      | some g =>
        refine .inr (fun e1 => ?_)
        have := (ho'.1.lt g hv).1
        cases e1
        omega)
    obtain ⟨w3, hrun3, hG3, hg3⟩ := hback _ v' zs' hgw ho2 hl' (by
      rcases hloc with h1 | ⟨g, h1, h2⟩
      · exact .inl h1
      · exact .inr ⟨g, h1, by rw [hsz1] at h2; exact h2⟩)
    have hsh := stored_who K ht hb2' F (Nat.lt_of_le_of_lt hs hn) hkey hrun3
    rw [hU _ hb2', setBlock_twice] at hrun3
    obtain rfl : setBlock w2 b (.map es' clock') = w3 := by simpa using hrun3
    refine ⟨_, hE, hG3, setBlock_grown hb2 es' clock', ?_⟩
    intro No hno hv' es2 clock2 hb3 x hx g hxg
    obtain ⟨es3, clock3, hb4, hwho⟩ := hsh
    obtain ⟨rfl, rfl⟩ : es3 = es2 ∧ clock3 = clock2 := by rw [hb4] at hb3; simpa using hb3
    rcases hwho x hx with ⟨hx0, _⟩ | ⟨_, hval⟩
    · exact hno es clock hb x hx0 g hxg
    · exact hv' g (by rw [← hval]; exact hxg)
  rcases K.find w hkey es.toList F.keys with ⟨h1, h2⟩ | ⟨j, e0, h1, h2, h3⟩
  · have hv : v = .slice none 0 0 := by
      simp [Instr.lookup, run_underlying ht, MapKept.run_getObj_map hb, K.check w _ hkey, h1, hz w, Result.andThen] at hrun
      exact hrun.symm
    refine ⟨v, zs, clock, setBlock w b (.map (es.push ⟨key, v, clock⟩) (clock + 1)), ?_, setBlock_grown hb _ _, by simp [setBlock], hat, hoi.kept (setBlock_grown hb _ _) hvb, hzl, ?_, finish _ _ _ ?_⟩
    · rw [hv]
      simp [Instr.mapEntry, run_underlying ht, MapKept.run_getObj_map hb, K.check w false hkey, h1, hz, MapKept.run_setObj_map _ hb, Result.andThen, setBlock]
    · intro No _ g hg
      rw [hv] at hg
      cases hg
    · intro w2 val hw2
      refine ⟨es.push ⟨key, val, clock⟩, clock + 1, ?_, ?_⟩
      · have hidx : (es.push ⟨key, v, clock⟩).findIdx? (fun e => ((e.born : Nat) : Int) == ((clock : Nat) : Int)) = some es.size := by
          rw [findIdx_arr]
          have := findIdx_born (l := (es.push ⟨key, v, clock⟩).toList) (j := es.size) (e0 := ⟨key, v, clock⟩) (by
            simp only [Array.toList_push, List.map_append, List.map_cons, List.map_nil]
            refine List.nodup_append.2 ⟨s2, by simp, fun a ha c hc e1 => ?_⟩
            simp only [List.mem_singleton] at hc
            obtain ⟨x, hx, rfl⟩ := List.mem_map.1 ha
            have := s1 x hx
            omega) (by simp)
          exact this
        have hmod : (es.push ⟨key, v, clock⟩).modify es.size (fun e => { e with val := val }) = es.push ⟨key, val, clock⟩ := by
          apply Array.ext'
          rw [Array.toList_modify, Array.toList_push, Array.toList_push, ← Array.length_toList, modify_last]
        simp [Instr.entryStore, MapKept.run_getObj_map hw2, asInt, asIntOf, goInt, hidx, hmod, MapKept.run_setObj_map _ hw2, Result.andThen, setBlock]
      · intro u hu
        have h1u := find_same K F hkey w u h1
        simp [Instr.mapUpdate, run_underlying ht, MapKept.run_getObj_map hu, K.check u false hkey, h1u, MapKept.run_setObj_map _ hu, Result.andThen, setBlock]
  · have hj : es[j]? = some e0 := by simpa using h2
    have hv : v = e0.val := by
      simp [Instr.lookup, run_underlying ht, MapKept.run_getObj_map hb, K.check w _ hkey, h1, Result.andThen] at hrun
      exact hrun.symm
    have hsame : es.modify j (fun e => { e with key := key }) = es := by
      apply Array.ext'
      rw [Array.toList_modify, modify_eq_set _ _ _ _ h2]
      have : ({ e0 with key := key } : MapEntry) = e0 := by rw [← h3]
      rw [this]
      exact set_self _ _ _ h2
    refine ⟨v, zs, e0.born, setBlock w b (.map es clock), ?_, setBlock_grown hb _ _, by simp [setBlock], hat, hoi.kept (setBlock_grown hb _ _) hvb, hzl, ?_, finish _ _ _ ?_⟩
    · rw [hv]
      simp [Instr.mapEntry, run_underlying ht, MapKept.run_getObj_map hb, K.check w false hkey, h1, hj, h3, K.stays w hkey, hsame, MapKept.run_setObj_map _ hb, Result.andThen, setBlock]
    · intro No hno g hg
      exact hno es clock hb e0 (List.mem_of_getElem? h2) g (by rw [← hv]; exact hg)
    · intro w2 val hw2
      refine ⟨es.modify j (fun e' => { e' with key := key, val := val }), clock, ?_, ?_⟩
      · have hidx : es.findIdx? (fun e => ((e.born : Nat) : Int) == ((e0.born : Nat) : Int)) = some j := by
          rw [findIdx_arr]
          exact findIdx_born s2 h2
        have hmod : es.modify j (fun e => { e with val := val }) = es.modify j (fun e' => { e' with key := key, val := val }) := by
          apply Array.ext'
          rw [Array.toList_modify, Array.toList_modify, modify_eq_set _ _ _ _ h2, modify_eq_set _ _ _ _ h2, ← h3]
        simp [Instr.entryStore, MapKept.run_getObj_map hw2, asInt, asIntOf, goInt, hidx, hmod, MapKept.run_setObj_map _ hw2, Result.andThen, setBlock]
      · intro u hu
        have h1u := find_same K F hkey w u h1
        simp [Instr.mapUpdate, run_underlying ht, MapKept.run_getObj_map hu, K.check u false hkey, h1u, hj, h3, K.stays u hkey, MapKept.run_setObj_map _ hu, Result.andThen, setBlock]
end Go.Proofs.YtfoaaamcpknjnadGreat

/-
  What the struct past answers: same.
-/
namespace Go.Proofs.YtfoaaamcpknjnadGreat
open Go.RowKit
set_option linter.unusedVariables false
set_option maxRecDepth 100000

theorem drew_two (w : World) (q r : Nat) : (w.drewN q).drewN r = w.drewN (r + q) := by
  first | rfl | (simp [World.drewN]; try omega)
theorem below_refl_drewN {B : Nat} {w : World} (q : Nat) : Below B w (w.drewN q) := below_drewN (Below.refl B w) q

set_option maxHeartbeats 800000 in
theorem same_any (p b o n cap i k nn m : Nat) (bs : List Nat) (w : World) (c0 : w.cell? ⟨p, 0, none⟩ = some (.slice (some ⟨b, o, none⟩) n cap)) (hB : Bytes w b o bs) (hl : bs.length = n) (hn : n ≤ 3000) (hx : ∀ j, bs.getD j 0 < 256) (hik : i < k) (hnm : nn < m) (hkm : k + m ≤ n) (r : Nat) (hr : Hid (r = if bs.getD (i + nn) 0 = bs.getD (k + nn) 0 then lcp bs i k m else 0)) :
    Calls Tryz.prog 109 #[.pointer (some ⟨p, 0, none⟩), .int .i64 (i : Int), .int .i64 (k : Int), .int .i64 (nn : Int), .int .i64 (m : Int)] w fun e w' => e = .returned (.int .i64 (r : Int)) ∧ ∃ q, w' = w.drewN q := by
  have HL := hide hl
  have HX := hide hx
  have HB := hide hB
  have ci := hB (i + nn) (by omega)
  have ck := hB (k + nn) (by omega)
  clear hB hx
  rw [show o + (i + nn) = o + (i + nn) from rfl] at ci
  go_enter Tryz.func109, Tryz.ntmps109
  go_wp2
  by_cases he : bs.getD (i + nn) 0 = bs.getD (k + nn) 0
  · rw [if_pos he] at hr
    have hb1 : (((bs.getD (i + nn) 0 : Nat) : Int) != ((bs.getD (k + nn) 0 : Nat) : Int)) = false := by rw [he]; simp
    clear he
    generalize bs.getD (i + nn) 0 = x at *
    generalize bs.getD (k + nn) 0 = y at *
    go_quiet (fail)
    clear ci ck hb1
    go_wp2
    go_loopw [11] (fun s wr => ∃ j q : Nat, j ≤ m ∧ s = .int .i64 (j : Int) ∧ (∀ j', j' < j → bs.getD (i + j') 0 = bs.getD (k + j') 0) ∧ wr = w.drewN q) (fun s _ => m - (intOf s).toNat)
    case atStart => exact ⟨0, nq, Nat.zero_le _, rfl, fun j' h => by omega, rfl⟩
    case round =>
      obtain ⟨j, q, hj, rfl, hs, rfl⟩ := hrel
      have HS := hide hs
      clear hs
      by_cases hlt : j < m
      · have hd : decide ((j : Int) < (m : Int)) = true := decide_eq_true (by omega)
        have ci := (unhide HB) (i + j) (by omega)
        have ck := (unhide HB) (k + j) (by omega)
        by_cases he : bs.getD (i + j) 0 = bs.getD (k + j) 0
        · have HE := hide he
          have hb1 : (((bs.getD (i + j) 0 : Nat) : Int) == ((bs.getD (k + j) 0 : Nat) : Int)) = true := by rw [he]; simp
          clear he
          generalize bs.getD (i + j) 0 = x at ci ck hb1
          generalize bs.getD (k + j) 0 = y at ci ck hb1
          go_wp2
          go_quiet (fail)
          go_wp2
          go_roundw
          case rel => exact ⟨j + 1, _, by omega, by go_num, fun j' h => by
              by_cases c : j' = j
              · subst c; exact unhide HE
              · exact unhide HS j' (by omega), rfl⟩
          case measure => simp [intOf]; omega
        · have HE := hide he
          have hb1 : (((bs.getD (i + j) 0 : Nat) : Int) == ((bs.getD (k + j) 0 : Nat) : Int)) = false := by rw [beq_eq_false_iff_ne]; omega
          clear he
          generalize bs.getD (i + j) 0 = x at ci ck hb1
          generalize bs.getD (k + j) 0 = y at ci ck hb1
          go_wp2
          go_quiet (fail)
          go_wp2
          go_ret
          exact ⟨ret_int (by rw [unhide hr, lcp_eq hj (unhide HS) (.inr (unhide HE))]), _, drew_two w q nq⟩
      · obtain rfl : m = j := by omega
        have hd : decide ((m : Int) < (m : Int)) = false := decide_eq_false (by omega)
        go_wp2
        go_quiet (fail)
        go_wp2
        go_ret
        exact ⟨ret_int (by rw [unhide hr, lcp_eq (Nat.le_refl _) (unhide HS) (.inl rfl)]), _, drew_two w q nq⟩
  · rw [if_neg he] at hr
    have hb1 : (((bs.getD (i + nn) 0 : Nat) : Int) != ((bs.getD (k + nn) 0 : Nat) : Int)) = true := by rw [bne_iff_ne]; omega
    clear he
    generalize bs.getD (i + nn) 0 = x at *
    generalize bs.getD (k + nn) 0 = y at *
    obtain rfl := unhide hr
    go_quiet (fail)
    go_wp2
    go_ret
    exact ⟨rfl, nq, rfl⟩
end Go.Proofs.YtfoaaamcpknjnadGreat

/-
  What the struct past answers: enter.
-/
namespace Go.Proofs.YtfoaaamcpknjnadGreat
open Go.RowKit
set_option linter.unusedVariables false
set_option maxRecDepth 100000

theorem zero_row (w : World) : (zeroValue 37).run Tryz.prog w = .ok (.slice none 0 0) w := by kernel_rfl

/-- behind the store of the place j, ahead of the count -/
structure Mid (No : Nat → Prop) (B : Nat) (R w3 : World) (p mb base b o n cap : Nat) (bs : List Nat) (j : Nat) : Prop where
  pst : Pst w3 p (.slice (some ⟨b, o, none⟩) n cap) mb j
  grp : Grp w3 base mb bs (j + 1)
  shun : w3.Shuns mb No
  row : Bytes w3 b o bs
  size : R.heap.size ≤ w3.heap.size
  room : base ≤ R.heap.size
  below : Below B R w3
  kp : Kp No R w3

theorem Mid.next {No : Nat → Prop} {B : Nat} {w R w3 : World} {p mb base b o n cap j : Nat} {bs : List Nat} (M : Mid No B R w3 p mb base b o n cap bs j) (G : Geo No B p mb base b bs) (hB : Below B w R) (hK : Kp No w R) (hs : w.heap.size ≤ R.heap.size) :
    Pas No (w3.setCell ⟨p, 2, none⟩ (.int .i64 ((j : Int) + 1))) p mb base b o n cap bs (j + 1) ∧ Below B w (w3.setCell ⟨p, 2, none⟩ (.int .i64 ((j : Int) + 1))) ∧ Kp No w (w3.setCell ⟨p, 2, none⟩ (.int .i64 ((j : Int) + 1))) := by
  have hg := grown_setCell w3 p 2 (.int .i64 ((j : Int) + 1))
  have hm := M.grp.lt
  have hb3 : Below B w w3 := hB.trans (M.below)
  refine ⟨⟨M.pst.set (j + 1), M.grp.kept hg (fun i e => by cases e; exact ⟨G.pb, G.pm⟩), M.shun.kept hg hm.2 (fun e => G.pm (by simpa using e.symm)), M.row.grown hg (fun e => by have := G.bB; have := G.pB; simp at e; omega), ?_⟩, ?_, ?_⟩
  · exact Nat.le_trans M.room (Nat.le_trans M.size hg.size)
  · exact hb3.grown hg (by have := hs; have := M.size; have := M.pst.lt; have := G.pB; omega) (fun i e => by cases e; exact G.pB)
  · exact (hK.trans M.kp hs).grown hg (Nat.le_trans hs M.size) (fun i e => by cases e; exact G.nop)
theorem enter_step (No : Nat → Prop) (B p mb base b o n cap j : Nat) (bs : List Nat) (R : World) (G : Geo No B p mb base b bs) (hl : bs.length = n) (hP : Pas No R p mb base b o n cap bs j) (hjn : j + 3 ≤ n) (hNo : ∀ g, R.heap.size ≤ g → ¬ No g) (x0 x1 x2 : Nat) (HX : key3 bs j = (x0, x1, x2)) :
    ∃ (v : Value) (st : Nat) (w1 : World), (Instr.mapEntry 147 (.map (some mb)) (.agg #[.int .u8 (x0 : Int), .int .u8 (x1 : Int), .int .u8 (x2 : Int)])).run Tryz.prog R = .ok (.tuple #[v, .int .i64 (st : Int)]) w1 ∧ R.grownBy w1 (some mb) ∧ w1.heap.size = R.heap.size ∧
      ∀ (W : World) (X : Nat), w1.grownBy W none → W.cell? ⟨X, 0, none⟩ = some (.int .i64 (j : Int)) → ∃ (v' : Value) (w2 w3 : World), (∀ ty, (Builtin.append_ #[37, 37] ty #[v, .slice (some ⟨X, 0, none⟩) 1 1]).run Tryz.prog W = .ok v' w2) ∧
        (Instr.entryStore 147 (.map (some mb)) (.int .i64 (st : Int)) v').run Tryz.prog w2 = .ok () w3 ∧ Mid No B R w3 p mb base b o n cap bs j := by
  obtain ⟨i0, hi, hz0, hz1, hz2⟩ := info_parts info_int
  have hn := G.len
  have ok := ok3_key G.byte j
  obtain ⟨D, hD, hA⟩ := hP.grp
  obtain ⟨v, zs, st, w1, hrun, hg1, hs1, hat, hoi, hzl, hno, hback⟩ := entry_groups hD law3 Tryz.underlying147 zero_row (by unfold maxLen; omega) (keyOf_kv ok)
  have hzs : zs = (plc bs j (key3 bs j)).map fun x : Nat => (x : Int) := row_places hoi (by rw [← hat]; exact (hA _ ok).symm)
  refine ⟨v, st, w1, ?_, hg1, hs1, ?_⟩
  · rw [show (Value.agg #[.int .u8 (x0 : Int), .int .u8 (x1 : Int), .int .u8 (x2 : Int)]) = kv (key3 bs j) by rw [HX]; rfl]
    exact hrun
  intro W X hW hX
  have hbm : base ≤ w1.heap.size := by rw [hs1]; exact hP.size
  have hoW : W.ownsInts base 3 .i64 v zs := hoi.kept hW (by cases hv : v.ownBlock with
    | none => exact .inl rfl
    | some g => exact .inr (by simp))
  obtain ⟨v', w2, hrA, hown', hgrow, _, hspot⟩ := run_append_own_at W base 37 37 3 i0 (.int .i64 0) 1 8 Tryz.underlying37 hi hz0 hz1 hz2 rfl (by decide) v zs.length _ hoW.1 ⟨X, 0, none⟩ 1 1 [.int .i64 (j : Int)] rfl (fun i u hi => new_cell hX hi) (one_cell rfl) (by unfold maxLen; omega) (by omega) (Nat.le_trans hbm hW.size)
  have hoi' : w2.ownsInts base 3 .i64 v' (zs ++ [(j : Int)]) := hoW.appended hown' (WalkArith.wf_i64 (by omega))
  have hg12 : w1.grownBy w2 v.ownBlock := ⟨hgrow.os.trans hW.os, hgrow.tape.trans hW.tape, hgrow.output.trans hW.output, Nat.le_trans hW.size hgrow.size, fun i h1 h2 => (hgrow.block i (Nat.lt_of_lt_of_le h1 hW.size) h2).trans (hW.block i h1 (by simp))⟩
  obtain ⟨w3, hrS, hG3, hg3, hsh⟩ := hback w2 v' _ hg12 hoi' (by simp; omega) (by
    rcases hspot with h | h
    · exact .inl h
    · exact .inr ⟨_, h, hW.size⟩)
  have hoi3 : w3.ownsInts base 3 .i64 v' (zs ++ [(j : Int)]) := hoi'.kept hg3 (by
    cases hv : v'.ownBlock with
    | none => exact .inl rfl
    | some g =>
      refine .inr (fun e => ?_)
      have := (hoi'.1.lt g hv).1
      have := hP.grp.lt.1
      cases e
      omega)
  -- what was written: the map, the row, new ones
  have hvlt : ∀ g, v.ownBlock = some g → base ≤ g := fun g e => (hoi.1.lt g e).1
  have hblk : ∀ g, g < R.heap.size → g ≠ mb → v.ownBlock ≠ some g → w3.heap[g]? = R.heap[g]? := by
    intro g h1 h2 h3
    have h1' : g < w1.heap.size := by rw [hs1]; exact h1
    rw [hg3.block g (Nat.lt_of_lt_of_le h1' hg12.size) (fun e => h2 (by simpa using e)), hg12.block g h1' (fun e => h3 e.symm), hg1.block g h1 (fun e => h2 (by simpa using e))]
  have hsz : R.heap.size ≤ w3.heap.size := by
    have := hg12.size
    have := hg3.size
    omega
  have hpR := hP.pst.lt
  have hpv : v.ownBlock ≠ some p := fun e => by have := hvlt p e; have := G.pb; omega
  have hbv : v.ownBlock ≠ some b := fun e => by have := hvlt b e; have := G.pb; have := G.bB; have := G.pB; omega
  refine ⟨v', w2, w3, fun ty => hrA, hrS, ?_, ?_, ?_, ?_, hsz, hP.size, ?_, ?_⟩
  · exact (hblk p hpR G.pm hpv).trans hP.pst
  · exact Grp.step G.byte hA (groups_isMap hD) hG3 hoi3 (by rw [hzs])
  · refine hsh No hP.shun ?_
    intro g hg
    rcases hspot with h | h
    · exact hno No hP.shun g (by rw [← h]; exact hg)
    · rw [h] at hg
      cases hg
      have := hW.size
      exact hNo _ (by omega)
  · intro i hi
    have hbR : b < R.heap.size := by have := G.bB; have := G.pB; omega
    have e := hblk b hbR (by have := G.bB; have := G.mB; omega) hbv
    have := hP.row i hi
    unfold World.cell? at this ⊢
    rw [e]
    exact this
  · refine ⟨hg3.os.trans (hg12.os.trans hg1.os), hg3.tape.trans (hg12.tape.trans hg1.tape), hg3.output.trans (hg12.output.trans hg1.output), hsz, ?_⟩
    intro g hg
    have := G.pB
    have := G.mB
    exact hblk g (by omega) (by omega) (fun e => by have := hvlt g e; have := G.pb; omega)
  · intro g hg hN
    exact hblk g hg (fun e => G.nom (by rw [← e]; exact hN)) (fun e => hno No hP.shun g e hN)

set_option maxHeartbeats 2000000 in
theorem enter_any (No : Nat → Prop) (B p mb base b o n cap kn k : Nat) (bs : List Nat) (w : World) (G : Geo No B p mb base b bs) (hl : bs.length = n) (hcap : n ≤ cap) (hP : Pas No w p mb base b o n cap bs kn) (hk : kn ≤ k) (hkn : k + 3 ≤ n) (hNo : ∀ g, w.heap.size ≤ g → ¬ No g) :
    Calls Tryz.prog 108 #[.pointer (some ⟨p, 0, none⟩), .int .i64 (k : Int)] w fun e w' => e = .returned (.tuple #[]) ∧ Pas No w' p mb base b o n cap bs k ∧ Below B w w' ∧ Kp No w w' := by
  have HG := hide G
  have HP := hide hP
  have HN := hide hNo
  have hn := G.len
  have hpm := G.pm
  clear G hP hNo
  go_enter Tryz.func108, Tryz.ntmps108
  go_wp2
  go_loopw [4] (fun _ wr => ∃ j : Nat, kn ≤ j ∧ j ≤ k ∧ Pas No wr p mb base b o n cap bs j ∧ Below B w wr ∧ Kp No w wr) (fun _ wr => k - ((wr.cell? ⟨p, 2, none⟩).map (fun v => (intOf v).toNat)).getD 0)
  case atStart => exact ⟨kn, Nat.le_refl _, hk, unhide HP, Below.refl _ _, Kp.refl _ _⟩
  case round =>
    obtain ⟨j, hj1, hj2, hPj, hBj, hKj⟩ := hrel
    have HPj := hide hPj
    have HBj := hide hBj
    have HKj := hide hKj
    have c2 := hPj.pst.cell2
    by_cases hlt : j < k
    · have c0 := hPj.pst.cell0
      have c1 := hPj.pst.cell1
      have b0 := hPj.row j (by omega)
      have b1 := hPj.row (j + 1) (by omega)
      have b2 := hPj.row (j + 2) (by omega)
      rw [← Nat.add_assoc] at b1 b2
      have hsz := hBj.size
      have hpl := hPj.pst.lt
      have hbl : b < wr.heap.size := Nat.lt_trans (Nat.lt_of_lt_of_le (unhide HG).bB (unhide HG).pB) hpl
      clear hPj hBj hKj
      generalize hx0 : bs.getD j 0 = x0 at b0
      generalize hx1 : bs.getD (j + 1) 0 = x1 at b1
      generalize hx2 : bs.getD (j + 2) 0 = x2 at b2
      have HX : Hid (key3 bs j = (x0, x1, x2)) := by rw [← hx0, ← hx1, ← hx2]; rfl
      clear hx0 hx1 hx2
      have hcj : ¬ cap = j := by omega
      have har : ∀ (a : Option Addr) (c : Nat) (W : World), (Instr.arrayAt 182 (.slice a (n - j) c)).run Tryz.prog W = .ok (.pointer a) W := fun a c W => run_arrayAt _ _ _ _ _ _ _ Tryz.underlying182 (by omega)
      go_wp2
      go_big_region
      clear b0 b1 b2 har
      have HPr : Hid (Pas No (wr.alloc (.cells #[.int .u8 (x0 : Int), .int .u8 (x1 : Int), .int .u8 (x2 : Int)] 182)).drew p mb base b o n cap bs j) := ((unhide HPj).grown (unhide HG) (World.grownBy_alloc wr _ none) (fun j e => by cases e)).drewN 1
      have HBr : Hid (Below B w (wr.alloc (.cells #[.int .u8 (x0 : Int), .int .u8 (x1 : Int), .int .u8 (x2 : Int)] 182)).drew) := (below_drewN ((unhide HBj).alloc (Nat.le_trans (Nat.le_trans (unhide HG).pB (Nat.le_of_lt (unhide HP).pst.lt)) hsz) (.cells #[.int .u8 (x0 : Int), .int .u8 (x1 : Int), .int .u8 (x2 : Int)] 182)) 1)
      have HKr : Hid (Kp No w (wr.alloc (.cells #[.int .u8 (x0 : Int), .int .u8 (x1 : Int), .int .u8 (x2 : Int)] 182)).drew) := ((unhide HKj).grown (grown_drew (World.grownBy_alloc wr (.cells #[.int .u8 (x0 : Int), .int .u8 (x1 : Int), .int .u8 (x2 : Int)] 182) none)) hsz (fun j e => by cases e))
      have q0 : (wr.alloc (.cells #[.int .u8 (x0 : Int), .int .u8 (x1 : Int), .int .u8 (x2 : Int)] 182)).drew.cell? ⟨wr.heap.size, 0, none⟩ = some (.int .u8 (x0 : Int)) := by simp
      have q1 : (wr.alloc (.cells #[.int .u8 (x0 : Int), .int .u8 (x1 : Int), .int .u8 (x2 : Int)] 182)).drew.cell? ⟨wr.heap.size, 1, none⟩ = some (.int .u8 (x1 : Int)) := by simp
      have q2 : (wr.alloc (.cells #[.int .u8 (x0 : Int), .int .u8 (x1 : Int), .int .u8 (x2 : Int)] 182)).drew.cell? ⟨wr.heap.size, 2, none⟩ = some (.int .u8 (x2 : Int)) := by simp
      have hb4 : wr.heap.size < (wr.alloc (.cells #[.int .u8 (x0 : Int), .int .u8 (x1 : Int), .int .u8 (x2 : Int)] 182)).drew.heap.size := by simp
      have hsr : w.heap.size ≤ (wr.alloc (.cells #[.int .u8 (x0 : Int), .int .u8 (x1 : Int), .int .u8 (x2 : Int)] 182)).drew.heap.size := by simp; omega
      clear c0 c1 HBj HKj
      generalize (wr.alloc (.cells #[.int .u8 (x0 : Int), .int .u8 (x1 : Int), .int .u8 (x2 : Int)] 182)).drew = r at *
      generalize wr.heap.size = b4 at *
      have d1 := (unhide HPr).pst.cell1
      have d2 := (unhide HPr).pst.cell2
      have hpr := (unhide HPr).pst.lt
      have HPd : Hid (Pas No r.drew p mb base b o n cap bs j) := (unhide HPr).drewN 1
      have HPe : Hid (Pas No (r.alloc (.cells #[.int .i64 (j : Int)] 3)).drew p mb base b o n cap bs j) := ((unhide HPr).grown (unhide HG) (World.grownBy_alloc r _ none) (fun j e => by cases e)).drewN 1
      obtain ⟨vA, stA, wA, eA, gA, sA, fA⟩ := enter_step No B p mb base b o n cap j bs r.drew (unhide HG) hl (unhide HPd) (by omega) (fun g h => unhide HN g (Nat.le_trans hsr h)) x0 x1 x2 (unhide HX)
      obtain ⟨vA', w2A, w3A, aA, tA, mA⟩ := fA (wA.alloc (.cells #[.int .i64 (j : Int)] 3)) wA.heap.size (World.grownBy_alloc _ _ _) (by simp)
      obtain ⟨vB, stB, wB, eB, gB, sB, fB⟩ := enter_step No B p mb base b o n cap j bs (r.alloc (.cells #[.int .i64 (j : Int)] 3)).drew (unhide HG) hl (unhide HPe) (by omega) (fun g h => unhide HN g (Nat.le_trans (Nat.le_trans hsr (by simp)) h)) x0 x1 x2 (unhide HX)
      obtain ⟨vB', w2B, w3B, aB, tB, mB⟩ := fB wB r.heap.size (grown_refl _ _) (gB.cell (by simp) (by
        have := (unhide HPr).grp.lt.2
        simp; omega))
      have d2A := gA.cell (a := ⟨p, 2, none⟩) d2 (by simpa using hpm)
      replace aA := aA 37
      replace aB := aB 37
      simp [go_sem] at aA aB
      have MA := hide mA
      have MB := hide mB
      clear fA fB mA mB gA gB
      have ccA := (unhide MA).pst.cell2
      have ffA := (unhide MA).pst.frozen 2
      have ccB := (unhide MB).pst.cell2
      have ffB := (unhide MB).pst.frozen 2
      have FA := hide ((unhide MA).next (unhide HG) (below_drewN (unhide HBr) 1) (unhide HKr) hsr)
      have FB := hide ((unhide MB).next (unhide HG) (below_drewN ((unhide HBr).alloc (Nat.le_trans (unhide HG).pB (Nat.le_of_lt hpr)) (.cells #[.int .i64 (j : Int)] 3)) 1) ((unhide HKr).grown (grown_drew (World.grownBy_alloc r (.cells #[.int .i64 (j : Int)] 3) none)) hsr (fun j e => by cases e)) (Nat.le_trans hsr (by simp)))
      go_wp2
      go_big_region
      all_goals clear aA aB eA eB tA tB q0 q1 q2 d1 d2 d2A
      all_goals
        go_wp2
        go_roundw
        case rel => first | exact ⟨j + 1, by omega, by omega, unhide FA⟩ | exact ⟨j + 1, by omega, by omega, unhide FB⟩
        case measure =>
          rw [c2]
          first | rw [(unhide FA).1.pst.cell2] | rw [(unhide FB).1.pst.cell2]
          simp [intOf]; omega
    · obtain rfl : k = j := by omega
      clear hPj hBj hKj
      go_wp2
      go_end0
      exact ⟨rfl, unhide HPj, unhide HBj, unhide HKj⟩
end Go.Proofs.YtfoaaamcpknjnadGreat
