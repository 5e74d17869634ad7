/-
  An answer that is a row of files.
-/
import Derived.Test.YtmgmganbamjnmaaGreatDoorQ6
import Derived.Test.YtmgmganbamjnmaaGreatDoorS7
import Derived.Test.YtmgmganbamjnmaaGreatDoorS5
namespace Go.Proofs.YtmgmganbamjnmaaGreatDoor
open Go.RowKit
set_option linter.unusedVariables false
set_option maxRecDepth 100000
theorem errM_len {l : List Fl} (h : errM l = 0) : l.length ≤ 12 := by
  unfold errM at h
  split at h
  · omega
  · omega
/-- a list of files that a call answers -/
structure Ans (w w' : World) (v : Value) (l : List Fl) : Prop where
  ex : ∃ ad c out, v = .slice ad l.length c ∧ FsIn w' ad c out ∧ fls out = l
  bel : Below w.heap.size w w'
theorem Ans.nil {w w' : World} (h : Below w.heap.size w w') : Ans w w' (.slice none 0 0) [] := ⟨⟨none, 0, [], rfl, FsIn.nil _, rfl⟩, h⟩
theorem Ans.row {w w' : World} {B : Nat} {v : Value} {out : List Fv} (h : FRow w' B v out) (hl : out.length ≤ 1000) (hb : Below w.heap.size w w') : Ans w w' v (fls out) := by
  obtain ⟨ad, c, h1, h2⟩ := h.files (by omega)
  exact ⟨⟨ad, c, out, by rw [h1]; simp [fls], h2, rfl⟩, hb⟩

end Go.Proofs.YtmgmganbamjnmaaGreatDoor

/-
  Package merge: Both.
-/
namespace Go.Proofs.YtmgmganbamjnmaaGreatDoor
open Go.RowKit
set_option linter.unusedVariables false
set_option maxRecDepth 100000
/-- what Both answers -/
def bothE (a b : List Fl) : Nat := if errE a b ≠ 0 then errE a b else if 12 < (tog a b).length then 11 else 0
def bothL (a b : List Fl) : List Fl := if bothE a b = 0 then tog a b else []
theorem bothE_bad {a b : List Fl} (h : errE a b ≠ 0) : bothE a b = errE a b := by unfold bothE; rw [if_pos h]
theorem bothE_full {a b : List Fl} (h : errE a b = 0) (h2 : 12 < (tog a b).length) : bothE a b = 11 := by unfold bothE; rw [if_neg (by simp [h]), if_pos h2]
theorem bothE_ok {a b : List Fl} (h : errE a b = 0) (h2 : ¬ 12 < (tog a b).length) : bothE a b = 0 := by unfold bothE; rw [if_neg (by simp [h]), if_neg h2]
theorem bothL_bad {a b : List Fl} (h : bothE a b ≠ 0) : bothL a b = [] := by unfold bothL; rw [if_neg h]
theorem bothL_ok {a b : List Fl} (h : bothE a b = 0) : bothL a b = tog a b := by unfold bothL; rw [if_pos h]
set_option maxHeartbeats 1000000 in
theorem both_any (ad bd : Option Addr) (c d : Nat) (xs ys : List Fv) (w : World) (h : FsIn w ad c xs) (k : FsIn w bd d ys) (n m : Nat) (hn : xs.length = n) (hm : ys.length = m) :
    Calls Tryz.prog 35 #[.slice ad n c, .slice bd m d] w fun e w' => ∃ v, e = .returned (.tuple #[v, .int .i64 (bothE (fls xs) (fls ys) : Nat)]) ∧ Ans w w' v (bothL (fls xs) (fls ys)) := by
  have HC := hide (checkEach_any ad bd c d xs ys w h k n m hn hm)
  by_cases he : errE (fls xs) (fls ys) = 0
  · have hz := errE_zero.1 he
    have hl1 := errM_len hz.1
    have hl2 := errM_len hz.2
    simp only [fls, List.length_map] at hl1 hl2
    have HT := hide (fun (W : World) (hW : Below w.heap.size w W) => together_any ad bd c d xs ys W (h.below hW (Nat.le_refl _)) (k.below hW (Nat.le_refl _)) n m hn hm (by omega))
    have HF := hide (@bothE_full (fls xs) (fls ys) he)
    have HO := hide (@bothE_ok (fls xs) (fls ys) he)
    have HLB := hide (@bothL_bad (fls xs) (fls ys))
    have HLO := hide (@bothL_ok (fls xs) (fls ys))
    rw [he] at HC
    have hlen : (tog (fls xs) (fls ys)).length ≤ 1000 ∨ True := .inr trivial
    clear h k hn hm he hz hl1 hl2 hlen
    go_enter Tryz.func35, Tryz.ntmps35
    go_wp2_with fail
    refine (unhide HC).mono ?_
    rintro e w1 ⟨rfl, hb1⟩
    have HB1 := hide hb1
    clear hb1
    go_wp2_with fail
    refine (unhide HT w1 (unhide HB1)).mono ?_
    rintro e w2 ⟨v, out, rfl, hrow, hout, hb2⟩
    have hvs : ∃ ad2 c2, v = .slice ad2 out.length c2 := by
      obtain ⟨a, c, e⟩ := own_slice' hrow.own
      exact ⟨a, c, e⟩
    obtain ⟨ad2, c2, rfl⟩ := hvs
    have HR := hide hrow
    have HOUT := hide hout
    have HB2 := hide ((unhide HB1).trans (hb2.mono (unhide HB1).size))
    have hll : out.length = (tog (fls xs) (fls ys)).length := by rw [← hout]; simp [fls]
    have HLL := hide hll
    obtain ⟨L, hL⟩ : ∃ L, out.length = L := ⟨_, rfl⟩
    have HL := hide hL
    rw [hL]
    clear hrow hout hb2 hll hL
    by_cases hfull : 12 < L
    · go_wp2
      go_ret2
      have e1 := unhide HF (by rw [← unhide HLL, unhide HL]; exact hfull)
      rw [unhide HLB (by rw [e1]; decide), e1]
      exact ⟨_, rfl, Ans.nil (unhide HB2)⟩
    · go_wp2
      go_ret2
      have e1 := unhide HO (by rw [← unhide HLL, unhide HL]; exact hfull)
      rw [unhide HLO e1, e1, ← unhide HOUT, ← unhide HL]
      exact ⟨_, rfl, Ans.row (unhide HR) (by rw [unhide HL]; omega) (unhide HB2)⟩
  · have e1 := bothE_bad he
    have e2 := bothL_bad (a := fls xs) (b := fls ys) (by rw [e1]; exact he)
    rw [e1, e2]
    clear e1 e2 h k
    generalize errE (fls xs) (fls ys) = E at *
    go_enter Tryz.func35, Tryz.ntmps35
    go_wp2_with fail
    refine (unhide HC).mono ?_
    rintro e w1 ⟨rfl, hb1⟩
    have HB1 := hide hb1
    clear hb1
    go_wp2
    go_ret2
    exact ⟨_, rfl, Ans.nil (unhide HB1)⟩
end Go.Proofs.YtmgmganbamjnmaaGreatDoor

/-
  A slice of these files; Check of it.
-/
namespace Go.Proofs.YtmgmganbamjnmaaGreatDoor
open Go.RowKit
set_option linter.unusedVariables false
set_option maxRecDepth 100000
theorem FsIn.new (w : World) (xs : List Fv) (t : TypeId) (A : Array Value) (n : Nat) (hA : A = (fcells xs).toArray) (hn : xs.length = n) (h : ∀ x ∈ xs, FvIn w x) (hl : xs.length ≤ 2199023255552) : FsIn (w.alloc (.cells A t)) (some ⟨w.heap.size, 0, none⟩) n xs := by
  subst hn
  refine ⟨.inr ⟨w.heap.size, 0, rfl, by simp, ?_⟩, Nat.le_refl _, by omega, hl, fun x hx => (h x hx).alloc _⟩
  intro j x hj
  have hc : ∀ i u, i < 5 → x.cells[i]? = some u → (w.alloc (.cells A t)).cell? ⟨w.heap.size, 0 + j * 5 + i, none⟩ = some u := by
    intro i u hi hu
    rw [World.cell?_alloc_at _ _ _ _ rfl, hA]
    have e := fcells_at xs j x i hj hi
    rw [Nat.zero_add]
    simpa using e.trans hu
  exact ⟨hc 0 _ (by decide) rfl, hc 1 _ (by decide) rfl, hc 2 _ (by decide) rfl, hc 3 _ (by decide) rfl, hc 4 _ (by decide) rfl⟩
/-- a file without bytes -/
theorem FvIn.bare (w : World) (f : Fl) (hb : f.bytes = []) (hn : f.name.length ≤ 140737488355328) : FvIn w ⟨f, none, 0⟩ := ⟨.inl ⟨rfl, hb, rfl⟩, by rw [hb]; simp, hn⟩

theorem ans_two {w w' : World} {v : Value} {f g : Fl} (h : Ans w w' v [f, g]) : ∃ b o c x y, v = .slice (some ⟨b, o, none⟩) 2 c ∧ FsIn w' (some ⟨b, o, none⟩) c [x, y] ∧ x.f = f ∧ y.f = g := by
  obtain ⟨ad, c, out, h1, h2, h3⟩ := h.ex
  match out, h3 with
  | [x, y], h3 =>
    simp [fls] at h3
    rcases h2.at_ with k | ⟨b, o, rfl, _⟩
    · cases k
    · exact ⟨b, o, c, x, y, h1, h2, h3.1, h3.2⟩
theorem ans_one {w w' : World} {v : Value} {f : Fl} (h : Ans w w' v [f]) : ∃ b o c x, v = .slice (some ⟨b, o, none⟩) 1 c ∧ FsIn w' (some ⟨b, o, none⟩) c [x] ∧ x.f = f := by
  obtain ⟨ad, c, out, h1, h2, h3⟩ := h.ex
  match out, h3 with
  | [x], h3 =>
    simp [fls] at h3
    rcases h2.at_ with k | ⟨b, o, rfl, _⟩
    · cases k
    · exact ⟨b, o, c, x, h1, h2, h3⟩

/-- v is a slice of these files -/
def LIn (w : World) (v : Value) (l : List Fl) : Prop := ∃ ad c out, v = .slice ad l.length c ∧ FsIn w ad c out ∧ fls out = l
theorem Ans.lin {w w' : World} {v : Value} {l : List Fl} (h : Ans w w' v l) : LIn w' v l := h.ex
theorem LIn.below {w w' : World} {v : Value} {l : List Fl} (h : LIn w v l) (hB : Below w.heap.size w w') : LIn w' v l := by
  obtain ⟨ad, c, out, h1, h2, h3⟩ := h
  exact ⟨ad, c, out, h1, h2.below hB (Nat.le_refl _), h3⟩
theorem LIn.shape {w : World} {v : Value} {l : List Fl} (h : LIn w v l) : ∃ ad c, v = .slice ad l.length c := by
  obtain ⟨ad, c, out, h1, _⟩ := h
  exact ⟨ad, c, h1⟩
theorem fls_len {out : List Fv} {l : List Fl} (h : fls out = l) : out.length = l.length := by rw [← h]; simp [fls]
theorem lin_of {w : World} {ad : Option Addr} {c n : Nat} {xs : List Fv} (h : FsIn w ad c xs) (hn : xs.length = n) : LIn w (.slice ad n c) (fls xs) := ⟨ad, c, xs, by rw [← hn]; simp [fls], h, rfl⟩
theorem check_l {w : World} {v : Value} {a : List Fl} (h : LIn w v a) :
    Calls Tryz.prog 25 #[v] w fun e w' => e = .returned (.int .i64 (errM a : Nat)) ∧ Below w.heap.size w w' := by
  obtain ⟨ad, c, out, rfl, h2, h3⟩ := h
  refine (check_files ad c out w h2 _ (fls_len h3)).mono ?_
  rintro e w' ⟨rfl, ha⟩
  rw [h3]
  exact ⟨rfl, ha⟩
end Go.Proofs.YtmgmganbamjnmaaGreatDoor

/-
  Worlds, of lists alone: what is wrong with one, what a happening does to it.
-/
namespace Go.Proofs.YtmgmganbamjnmaaGreatDoor
open Go.RowKit
set_option linter.unusedVariables false

/-- a message: to whom, its files -/
structure Ms where
  dst : Int
  files : List Fl
deriving DecidableEq
/-- a world: the files of each node, its clock, the messages -/
structure Wd where
  nodes : List (List Fl)
  clock : List Int
  net : List Ms
deriving DecidableEq
/-- a happening -/
structure Hp where
  kind : Int
  node : Int
  dst : Int
  name : List UInt8
  bytes : List UInt8
def noW : Wd := ⟨[], [], []⟩
/-- a clock that is no less than any stamp -/
def rsd : Int → List Fl → Int
  | c, [] => c
  | c, f :: r => rsd (max c f.stamp) r
/-- is there such a place? -/
def isP (k : Int) (n : Nat) : Bool := decide (0 ≤ k ∧ k < n)
/-- what is wrong with a node -/
def errNd (l : List Fl) (c : Int) : Nat := if errM l ≠ 0 then errM l else if c < 0 ∨ 1000000 < c ∨ c < rsd c l then 3 else 0
def errNs : List (List Fl) → List Int → Nat
  | l :: r, c :: s => if errNd l c ≠ 0 then errNd l c else errNs r s
  | _, _ => 0
/-- what is wrong with messages -/
def errMs (n : Nat) : List Ms → Nat
  | [] => 0
  | m :: r => if errM m.files ≠ 0 then errM m.files else if isP m.dst n = false then 5 else errMs n r
/-- what is wrong with a world -/
def errWd (W : Wd) : Nat :=
  if W.nodes.length < 1 ∨ 4 < W.nodes.length ∨ W.clock.length ≠ W.nodes.length then 3
  else if 20 < W.net.length then 2
  else if errNs W.nodes W.clock ≠ 0 then errNs W.nodes W.clock
  else errMs W.nodes.length W.net

/-- what is done to a world: a node keeps files; a message is set behind the others; one is taken away; the first and the third -/
inductive Cg where
  | keep (k : Nat) (l : List Fl)
  | pass (m : Ms)
  | drop (k : Nat)
  | both (k : Nat) (l : List Fl) (p : Nat)
def keepW (k : Nat) (l : List Fl) (W : Wd) : Wd := ⟨W.nodes.set k l, W.clock.set k (rsd (W.clock.getD k 0) l), W.net⟩
def passW (m : Ms) (W : Wd) : Wd := ⟨W.nodes, W.clock, W.net ++ [m]⟩
def dropW (k : Nat) (W : Wd) : Wd := ⟨W.nodes, W.clock, W.net.eraseIdx k⟩
def Cg.act : Cg → Wd → Wd
  | .keep k l, W => keepW k l W
  | .pass m, W => passW m W
  | .drop k, W => dropW k W
  | .both k l p, W => dropW p (keepW k l W)
/-- the file that is put, or taken -/
def putF (x : Hp) (c : Int) : Fl := if x.kind = 2 then ⟨x.name, [], c + 1, x.node, true⟩ else ⟨x.name, x.bytes, c + 1, x.node, false⟩
def hasF (l : List Fl) (n : List UInt8) : Bool := l.any fun f => f.name == n && !f.gone
/-- what is wrong with a happening -/
def fileE (W : Wd) (x : Hp) : Nat :=
  if isP x.node W.nodes.length = false then 5
  else if errN x.name ≠ 0 then errN x.name
  else if W.clock.getD x.node.toNat 0 = 1000000 then 11
  else if x.kind = 2 ∧ hasF (W.nodes.getD x.node.toNat []) x.name = false then 5
  else bothE (W.nodes.getD x.node.toNat []) [putF x (W.clock.getD x.node.toNat 0)]
def fileC (W : Wd) (x : Hp) : Cg := .keep x.node.toNat (bothL (W.nodes.getD x.node.toNat []) [putF x (W.clock.getD x.node.toNat 0)])
def passE (W : Wd) : Nat := if 20 ≤ W.net.length then 11 else 0
def sendE (W : Wd) (x : Hp) : Nat := if isP x.node W.nodes.length = false ∨ isP x.dst W.nodes.length = false then 5 else passE W
def sendC (W : Wd) (x : Hp) : Cg := .pass ⟨x.dst, W.nodes.getD x.node.toNat []⟩
def msgAt (W : Wd) (k : Int) : Ms := W.net.getD k.toNat ⟨0, []⟩
def netE (W : Wd) (x : Hp) : Nat :=
  if isP x.dst W.net.length = false then 5
  else if x.kind = 5 then 0
  else if x.kind = 6 then passE W
  else bothE (W.nodes.getD (msgAt W x.dst).dst.toNat []) (msgAt W x.dst).files
def netC (W : Wd) (x : Hp) : Cg :=
  if x.kind = 5 then .drop x.dst.toNat
  else if x.kind = 6 then .pass (msgAt W x.dst)
  else .both (msgAt W x.dst).dst.toNat (bothL (W.nodes.getD (msgAt W x.dst).dst.toNat []) (msgAt W x.dst).files) x.dst.toNat
def cgE (W : Wd) (x : Hp) : Nat := if x.kind = 1 ∨ x.kind = 2 then fileE W x else if x.kind = 3 then sendE W x else if x.kind = 4 ∨ x.kind = 5 ∨ x.kind = 6 then netE W x else 3
def cgC (W : Wd) (x : Hp) : Cg := if x.kind = 1 ∨ x.kind = 2 then fileC W x else if x.kind = 3 then sendC W x else netC W x
/-- Do: its error, the world behind it -/
def doE (W : Wd) (x : Hp) : Nat := if errWd W ≠ 0 then errWd W else cgE W x
def doW (W : Wd) (x : Hp) : Wd := if doE W x = 0 then (cgC W x).act W else noW

/-- New -/
def newE (n : Int) : Nat := if n < 1 ∨ 4 < n then 3 else 0
def newW (n : Int) : Wd := if newE n = 0 then ⟨List.replicate n.toNat [], List.replicate n.toNat 0, []⟩ else noW
/-- Run: the world behind a script, what each happening says -/
def runW : Wd → List Hp → Wd
  | W, [] => W
  | W, x :: r => runW (if doE W x = 0 then doW W x else W) r
def runS : Wd → List Hp → List Nat
  | _, [] => []
  | W, x :: r => doE W x :: runS (if doE W x = 0 then doW W x else W) r
/-- Settle: all files together -/
def setE : List Fl → List (List Fl) → Nat
  | _, [] => 0
  | a, l :: r => if bothE a l ≠ 0 then bothE a l else setE (bothL a l) r
def setL : List Fl → List (List Fl) → List Fl
  | a, [] => a
  | a, l :: r => setL (bothL a l) r
def stlE (W : Wd) : Nat := if errWd W ≠ 0 then errWd W else setE [] W.nodes
def stlW (W : Wd) : Wd := if stlE W = 0 then ⟨W.clock.map fun _ => setL [] W.nodes, W.clock.map fun c => rsd c (setL [] W.nodes), []⟩ else noW

theorem rsd_cons (c : Int) (f : Fl) (r : List Fl) : rsd c (f :: r) = rsd (max c f.stamp) r := rfl
theorem rsd_le : ∀ (l : List Fl) (c : Int), c ≤ rsd c l
  | [], c => Int.le_refl _
  | f :: r, c => by rw [rsd_cons]; have := rsd_le r (max c f.stamp); omega
theorem rsd_all : ∀ (l : List Fl) (c : Int), ∀ f ∈ l, f.stamp ≤ rsd c l
  | f :: r, c, g, h => by
    rw [rsd_cons]
    rcases List.mem_cons.1 h with rfl | h
    · have := rsd_le r (max c g.stamp); omega
    · exact rsd_all r _ g h
/-- it is the least such -/
theorem rsd_lub : ∀ (l : List Fl) (c d : Int), c ≤ d → (∀ f ∈ l, f.stamp ≤ d) → rsd c l ≤ d
  | [], c, d, h, _ => h
  | f :: r, c, d, h, k => by
    rw [rsd_cons]
    exact rsd_lub r _ d (by have := k f List.mem_cons_self; omega) (fun g hg => k g (List.mem_cons_of_mem _ hg))
theorem rsd_same {l : List Fl} {c : Int} (h : ∀ f ∈ l, f.stamp ≤ c) : rsd c l = c := by
  have := rsd_le l c
  have := rsd_lub l c c (Int.le_refl _) h
  omega
theorem rsd_iff {l : List Fl} {c : Int} : ¬ c < rsd c l ↔ ∀ f ∈ l, f.stamp ≤ c := by
  constructor
  · intro h f hf
    have := rsd_all l c f hf
    omega
  · intro h
    rw [rsd_same h]
    omega
end Go.Proofs.YtmgmganbamjnmaaGreatDoor
