import Derived.Test.YtcdnbiiaoaeflafGreatDoorQ45
import Derived.Test.YtcdnbiiaoaeflafGreatDoorQ12
import Derived.Test.YtcdnbiiaoaeflafGreatDoorQ0
import Derived.Laws.BytesArg
import Derived.Lib.Strings
import Derived.Test.YtcdnbiiaoaeflafGreatDoorQ44
set_option maxHeartbeats 4000000
namespace Go.Proofs.YtcdnbiiaoaeflafGreatDoor
open Go.RowKit
set_option linter.unusedVariables false
set_option maxRecDepth 100000
theorem check_any (s : List UInt8) (w : World) (hs : s.length <= maxLen) :
 Calls Tryz.prog 45 #[.string (B s)] w fun e w' => e = .returned (.int .i64 (errN s : Nat)) /\ Below w.heap.size w w' := by
 have c := parts_any s w hs
 generalize B s = t at *
 go_enter Tryz.func45, Tryz.ntmps45
 go_wp2_with (go_at_call 74; refine c.mono ?_; rintro e w' ⟨v, rfl, _, hb, _⟩; have HB := Hd hb; clear hb)
 go_ret
 exact ⟨rfl, uh HB⟩
theorem errV_name {f : Fl} (h : errN f.name ≠ 0) : errV f = errN f.name := by unfold errV; rw [if_pos h]
theorem errV_many {f : Fl} (h : errN f.name = 0) (h2 : 3000 < f.bytes.length) : errV f = 2 := by unfold errV; rw [if_neg (by simp [h]), if_pos h2]
theorem errV_range {f : Fl} (h : errN f.name = 0) (h2 : ¬ 3000 < f.bytes.length) (h3 : f.stamp < 0 \/ 1000000 < f.stamp \/ f.node < 0 \/ 3 < f.node) : errV f = 3 := by
 unfold errV; rw [if_neg (by simp [h]), if_neg h2, if_pos h3]
theorem errV_rest {f : Fl} (h : errN f.name = 0) (h2 : ¬ 3000 < f.bytes.length) (h3 : ¬ (f.stamp < 0 \/ 1000000 < f.stamp \/ f.node < 0 \/ 3 < f.node)) : errV f = if f.gone = true /\ 0 < f.bytes.length then 4 else 0 := by
 unfold errV; rw [if_neg (by simp [h]), if_neg h2, if_neg h3]
theorem checkFile_any (x : Fv) (w : World) (h : FvIn w x) :
 Calls Tryz.prog 30 #[x.val] w fun e w' => e = .returned (.int .i64 (errV x.f : Nat)) /\ Below w.heap.size w w' := by
 have hc := fun W => check_any x.f.name W (by have := h.txt; unfold maxLen; omega)
 have e0 := @errV_name x.f
 have e1 := @errV_many x.f
 have e2 := @errV_range x.f
 have e3 := @errV_rest x.f
 rw [val_is]
 clear h
 obtain ⟨⟨nm, bs, st, nd, gn⟩, a, c⟩ := x
 simp only at *
 have hbox : ∀ W W' : World, Below W.heap.size W W' -> Below W.heap.size W W' := fun _ _ h => h
 generalize B nm = t at *
 generalize bs.length = n at *
 have HC := Hd hc
 by_cases h0 : errN nm = 0
 . replace e1 := e1 h0
   replace e2 := e2 h0
   replace e3 := e3 h0
   rw [h0] at HC
   clear e0 h0 hc
   have leaf : ∀ (E : Nat), Hid (errV ⟨nm, bs, st, nd, gn⟩ = E) -> Hid ((E = 2 /\ 3000 < n) \/ (E = 3 /\ n <= 3000 /\ (st < 0 \/ (0 <= st /\ 1000000 < st) \/ (0 <= st /\ st <= 1000000 /\ nd < 0) \/ (0 <= st /\ st <= 1000000 /\ 0 <= nd /\ 4 <= nd))) \/ (E = 4 /\ n <= 3000 /\ 0 <= st /\ st <= 1000000 /\ 0 <= nd /\ nd < 4 /\ gn = true /\ 0 < n) \/ (E = 0 /\ n <= 3000 /\ 0 <= st /\ st <= 1000000 /\ 0 <= nd /\ nd < 4 /\ gn = true /\ n = 0) \/ (E = 0 /\ n <= 3000 /\ 0 <= st /\ st <= 1000000 /\ 0 <= nd /\ nd < 4 /\ gn = false)) ->
    Calls Tryz.prog 30 #[.agg #[.string t, .slice a n c, .int .i64 st, .int .i64 nd, .bool gn]] w fun e w' => e = .returned (.int .i64 ((errV ⟨nm, bs, st, nd, gn⟩ : Nat) : Int)) /\ Below w.heap.size w w' := by
    intro E hE hcs
    rw [uh hE]
    clear e1 e2 e3 hE
    rcases uh hcs with ⟨rfl, h1⟩ | ⟨rfl, h1, h2 | ⟨h2, h3⟩ | ⟨h2, h3, h4⟩ | ⟨h2, h3, h4, h5⟩⟩ | ⟨rfl, h1, h2, h3, h4, h5, rfl, h6⟩ | ⟨rfl, h1, h2, h3, h4, h5, rfl, rfl⟩ | ⟨rfl, h1, h2, h3, h4, h5, rfl⟩
    all_goals (
     clear hcs
     go_enter Tryz.func30, Tryz.ntmps30
     go_wp2_with fail
     refine (uh HC _).mono ?_
     rintro e w' ⟨rfl, hb⟩
     have c1 := (hb.cell (p := ⟨w.heap.size, 1, none⟩) (by simp)).trans (by simp; rfl)
     have c2 := (hb.cell (p := ⟨w.heap.size, 2, none⟩) (by simp)).trans (by simp; rfl)
     have c3 := (hb.cell (p := ⟨w.heap.size, 3, none⟩) (by simp)).trans (by simp; rfl)
     have c4 := (hb.cell (p := ⟨w.heap.size, 4, none⟩) (by simp)).trans (by simp; rfl)
     have HB := Hd (((Below.refl w.heap.size w).alloc (Nat.le_refl _) _).trans (hb.mono (by simp)))
     clear hb
     go_wp2
     go_ret
     exact ⟨rfl, uh HB⟩)
   have HN := Hd (rfl : bs.length = bs.length)
   by_cases h1 : 3000 < n
   . exact leaf 2 (e1 h1) (.inl ⟨rfl, h1⟩)
   . by_cases h3 : st < 0 \/ 1000000 < st \/ nd < 0 \/ 3 < nd
     . refine leaf 3 (e2 h1 h3) (.inr (.inl ⟨rfl, by omega, by omega⟩))
     . have e4 := e3 h1 h3
       cases gn with
       | true =>
        by_cases hn : 0 < n
        . exact leaf 4 (by rw [e4, if_pos ⟨rfl, hn⟩]; rfl) (.inr (.inr (.inl ⟨rfl, by omega, by omega, by omega, by omega, by omega, rfl, hn⟩)))
        . exact leaf 0 (by rw [e4, if_neg (fun k => hn k.2)]; rfl) (.inr (.inr (.inr (.inl ⟨rfl, by omega, by omega, by omega, by omega, by omega, rfl, by omega⟩))))
       | false => exact leaf 0 (by rw [e4, if_neg (fun k => by cases k.1)]; rfl) (.inr (.inr (.inr (.inr ⟨rfl, by omega, by omega, by omega, by omega, by omega, rfl⟩))))
 . rw [e0 h0]
   clear e0 e1 e2 e3 hc
   obtain ⟨k, hk⟩ : ∃ k, errN nm = k := ⟨_, rfl⟩
   rw [hk] at HC h0 ⊢
   go_enter Tryz.func30, Tryz.ntmps30
   go_wp2_with fail
   refine (uh HC _).mono ?_
   rintro e w' ⟨rfl, hb⟩
   have HB := Hd (((Below.refl w.heap.size w).alloc (Nat.le_refl _) _).trans (hb.mono (by simp)))
   clear hb
   go_wp2
   go_ret
   exact ⟨rfl, uh HB⟩
def ahd (xs : List Fv) : Nat -> Option Fl
 | 0 => none
 | k + 1 => (fls xs)[k]?
theorem errR_step {xs : List Fv} {k : Nat} {x : Fv} (h : xs[k]? = some x) :
 errR (ahd xs k) ((fls xs).drop k) = if errV x.f ≠ 0 then errV x.f else if behind (ahd xs k) x.f = false then 4 else errR (ahd xs (k + 1)) ((fls xs).drop (k + 1)) := by
 have hf : (fls xs)[k]? = some x.f := by simp [fls, h]
 have hlt : k < (fls xs).length := by
  rcases Nat.lt_or_ge k (fls xs).length with h' | h'
  . exact h'
  . rw [List.getElem?_eq_none h'] at hf; cases hf
 have e : (fls xs).drop k = x.f :: (fls xs).drop (k + 1) := by
  rw [List.drop_eq_getElem_cons hlt]
  congr 1
  rw [List.getElem?_eq_getElem hlt] at hf
  exact Option.some.inj hf
 rw [e, errR]
 show _ = if errV x.f ≠ 0 then errV x.f else if behind (ahd xs k) x.f = false then 4 else errR ((fls xs)[k]?) _
 rw [hf]
theorem str_le (x y : List UInt8) : Op.bytesLess (B x).toList (B y).toList = decide (cmpB x y < 0) := by rw [toList_B, toList_B, less_cmp]
theorem str_eq (x y : List UInt8) : ((B x).toList == (B y).toList) = decide (cmpB x y = 0) := by
 rw [toList_B, toList_B, Bool.eq_iff_iff, beq_iff_eq, decide_eq_true_iff, cmpB_zero]
theorem check_many (ad : Option Addr) (n c : Nat) (w : World) (h : 12 < n) : Calls Tryz.prog 19 #[.slice ad n c] w fun e w' => e = .returned (.int .i64 2) /\ w' = w := by
 go_enter Tryz.func19, Tryz.ntmps19
 go_wp2
 go_ret
 exact ⟨rfl, rfl⟩
theorem check_files (ad : Option Addr) (c : Nat) (xs : List Fv) (w : World) (h : FsIn w ad c xs) (n : Nat) (hn : xs.length = n) :
 Calls Tryz.prog 19 #[.slice ad n c] w fun e w' => e = .returned (.int .i64 (errM (fls xs) : Nat)) /\ Below w.heap.size w w' := by
 have hl : (fls xs).length = n := by simp [fls, hn]
 by_cases hm : 12 < n
 . have e : errM (fls xs) = 2 := by unfold errM; rw [if_pos (by omega)]
   rw [e]
   refine (check_many ad n c w hm).mono ?_
   rintro e w' ⟨rfl, rfl⟩
   exact ⟨rfl, Below.refl _ _⟩
 . have e : errM (fls xs) = errR none (fls xs) := by unfold errM; rw [if_neg (by omega)]
   obtain ⟨E, hE⟩ : ∃ E, errR none (fls xs) = E := ⟨_, rfl⟩
   rw [e, hE]
   have HI := Hd h
   have HN := Hd hn
   have HE := Hd hE
   have HL := Hd hl
   clear h e hE hn hl
   go_enter Tryz.func19, Tryz.ntmps19
   go_wp2
   go_loopw [3, 4, 5, 11] (fun _ _ _ i wr => ∃ k : Nat, k <= n /\ i = .int .i64 (k : Int) /\ Hid (errR (ahd xs k) ((fls xs).drop k) = E) /\ Hid (Below w.heap.size w wr)) (fun _ _ _ i _ => n - (intOf i).toNat)
   case atStart => exact ⟨0, Nat.zero_le _, rfl, uh HE, Below.refl _ _⟩
   case round =>
    obtain ⟨k, hk, rfl, HR, HB⟩ := hrel
    by_cases hlt : k < n
    . obtain ⟨x, hx, hxm⟩ := get_of (xs := xs) (k := k) (by rw [uh HN]; exact hlt)
      obtain ⟨b, o, rfl, hb, c0, c1, c2, c3, c4⟩ := (uh HI).get (uh HB) hx
      have hst := errR_step hx
      rw [uh HR] at hst
      have hz := (uh HB).size
      have HCK := Hd (fun W (hW : Below w.heap.size w W) => checkFile_any x W (((uh HI).all x hxm).below hW (Nat.le_refl _)))
      have HS := Hd hst
      rw [val_is] at HCK
      unfold Fv.sl at c1
      obtain ⟨er, her⟩ : ∃ er, errV x.f = er := ⟨_, rfl⟩
      rw [her] at HCK HS
      clear hst her hxm
      have HX := Hd hx
      clear hx
      obtain ⟨xf, xa, xc⟩ := x
      simp only at *
      have hname : ∃ nm, xf.name = nm := ⟨_, rfl⟩
      obtain ⟨nm, hnm⟩ := hname
      rw [hnm] at c0 HCK
      obtain ⟨t, ht⟩ : ∃ t, B nm = t := ⟨_, rfl⟩
      rw [ht] at c0 HCK
      have HT := Hd ht
      have HNM := Hd hnm
      clear ht hnm
      generalize xf.bytes.length = nb at *
      generalize xf.stamp = st at *
      generalize xf.node = nd at *
      generalize xf.gone = gn at *
      have hbl : ∀ o', Below w.heap.size w (wr.alloc o') := fun o' => (uh HB).alloc hz o'
      have HBL := Hd hbl
      clear hbl
      by_cases he : er = 0
      . subst he
        cases k with
        | zero =>
         simp only [Nat.zero_mul, Nat.add_zero] at c0 c1 c2 c3 c4
         have hst := uh HS
         rw [if_neg (by simp), if_neg (by simp [ahd, behind])] at hst
         have HN2 := Hd hst
         clear hst
         go_wp2_with fail
         refine (uh HCK _ (uh HBL _)).mono ?_
         rintro e w1 ⟨rfl, hb1⟩
         have HB1 := Hd ((uh HBL _).trans (hb1.mono (by simp; omega)))
         clear hb1
         go_wp2
         go_quiet (fail)
         go_wp2
         go_roundw
         case rel => exact ⟨1, by omega, by go_num, (uh HN2).symm, bdN (uh HB1) _⟩
         case measure => simp [intOf]; omega
        | succ j =>
         obtain ⟨y, hy, hym⟩ := get_of (xs := xs) (k := j) (by rw [uh HN]; omega)
         obtain ⟨b', o', hab, hb', d0, _⟩ := (uh HI).get (uh HB) hy
         cases hab
         have hst := uh HS
         rw [if_neg (by simp)] at hst
         have ha : ahd xs (j + 1) = some y.f := by show (fls xs)[j]? = _; simp [fls, hy]
         rw [ha] at hst
         have hle := str_le nm y.f.name
         have heq := str_eq nm y.f.name
         have hbh : behind (some y.f) xf = decide (cmpB y.f.name nm < 0) := by show decide (cmpB y.f.name xf.name < 0) = _; rw [uh HNM]
         rw [hbh] at hst
         have hanti := cmpB_anti nm y.f.name
         rw [uh HT] at hle heq
         generalize B y.f.name = t' at *
         generalize y.f.name = ny at *
         clear hbh ha hy hym
         have hji : ((j + 1 : Nat) : Int) - 1 = (j : Int) := by omega
         have hjn : (j : Int) < (n : Int) := by omega
         by_cases h1 : cmpB nm ny = 1
         . rw [h1] at hle heq hanti
           rw [if_neg (by rw [hanti]; decide)] at hst
           have HN2 := Hd hst
           simp only [Int.reduceLT, Int.reduceEq, decide_false] at hle heq
           clear hst hanti h1
           go_wp2_with fail
           refine (uh HCK _ (uh HBL _)).mono ?_
           rintro e w1 ⟨rfl, hb1⟩
           have HB1 := Hd ((uh HBL _).trans (hb1.mono (by simp; omega)))
           have q0 : w1.cell? ⟨wr.heap.size, 0, none⟩ = some (.string t) := (hb1.cell (p := ⟨wr.heap.size, 0, none⟩) (by simp)).trans (by simp)
           have r0 : w1.cell? ⟨b, o + j * 5, none⟩ = some (.string t') := (hb1.cell (p := ⟨b, o + j * 5, none⟩) (by simp; omega)).trans ((World.cell?_alloc_past _ _ _ (by show b < wr.heap.size; omega)).trans d0)
           clear hb1
           go_wp2
           go_quiet (fail)
           go_wp2
           go_roundw
           case rel => exact ⟨j + 2, by omega, by go_num, (uh HN2).symm, bdN (uh HB1) _⟩
           case measure => simp [intOf]; omega
         . have h2 : (cmpB nm ny = -1 \/ cmpB nm ny = 0) := by rcases cmpB_three nm ny with h | h | h <;> omega
           rw [if_pos (by rw [hanti]; apply decide_eq_false; omega)] at hst
           have HN2 := Hd hst
           clear hst hanti h1
           rcases h2 with h2 | h2
           all_goals (
            rw [h2] at hle heq
            simp only [Int.reduceLT, Int.reduceEq, Int.reduceNeg, decide_true, decide_false] at hle heq
            clear h2
            go_wp2_with fail
            refine (uh HCK _ (uh HBL _)).mono ?_
            rintro e w1 ⟨rfl, hb1⟩
            have HB1 := Hd ((uh HBL _).trans (hb1.mono (by simp; omega)))
            have q0 : w1.cell? ⟨wr.heap.size, 0, none⟩ = some (.string t) := (hb1.cell (p := ⟨wr.heap.size, 0, none⟩) (by simp)).trans (by simp)
            have r0 : w1.cell? ⟨b, o + j * 5, none⟩ = some (.string t') := (hb1.cell (p := ⟨b, o + j * 5, none⟩) (by simp; omega)).trans ((World.cell?_alloc_past _ _ _ (by show b < wr.heap.size; omega)).trans d0)
            clear hb1
            go_wp2
            go_quiet (fail)
            go_wp2
            go_ret
            exact ⟨ret_int (by rw [uh HN2]; rfl), bdN (uh HB1) _⟩)
      . have hst := uh HS
        rw [if_pos (by simpa using he)] at hst
        have HN2 := Hd hst
        clear hst
        go_wp2_with fail
        refine (uh HCK _ (uh HBL _)).mono ?_
        rintro e w1 ⟨rfl, hb1⟩
        have HB1 := Hd ((uh HBL _).trans (hb1.mono (by simp; omega)))
        clear hb1
        go_wp2
        go_ret
        exact ⟨ret_int (by rw [uh HN2]), uh HB1⟩
    . obtain rfl : n = k := by omega
      go_wp2
      go_ret
      have := uh HR
      rw [List.drop_of_length_le (by rw [uh HL]; exact Nat.le_refl _)] at this
      exact ⟨ret_int (by rw [<- this]; rfl), uh HB⟩
theorem FsIn.new (w : World) (xs : List Fv) (t : TypeId) (A : Array Value) (n : Nat) (hA : A = (fcells xs).toArray) (hn : xs.length = n) (h : ∀ x ∈ xs, FvIn w x) (hl : xs.length <= 2199023255552) : FsIn (w.alloc (.cells A t)) (some ⟨w.heap.size, 0, none⟩) n xs := by
 subst hn
 refine ⟨.inr ⟨w.heap.size, 0, rfl, by simp, ?_⟩, Nat.le_refl _, by omega, hl, fun x hx => (h x hx).alloc _⟩
 intro j x hj
 have hc : ∀ i u, i < 5 -> x.cells[i]? = some u -> (w.alloc (.cells A t)).cell? ⟨w.heap.size, 0 + j * 5 + i, none⟩ = some u := by
  intro i u hi hu
  rw [World.cell?_alloc_at _ _ _ _ rfl, hA]
  have e := fcells_at xs j x i hj hi
  rw [Nat.zero_add]
  simpa using e.trans hu
 exact ⟨hc 0 _ (by decide) rfl, hc 1 _ (by decide) rfl, hc 2 _ (by decide) rfl, hc 3 _ (by decide) rfl, hc 4 _ (by decide) rfl⟩
def LIn (w : World) (v : Value) (l : List Fl) : Prop := ∃ ad c out, v = .slice ad l.length c /\ FsIn w ad c out /\ fls out = l
theorem LIn.below {w w' : World} {v : Value} {l : List Fl} (h : LIn w v l) (hB : Below w.heap.size w w') : LIn w' v l := by
 obtain ⟨ad, c, out, h1, h2, h3⟩ := h
 exact ⟨ad, c, out, h1, h2.below hB (Nat.le_refl _), h3⟩
theorem LIn.shape {w : World} {v : Value} {l : List Fl} (h : LIn w v l) : ∃ ad c, v = .slice ad l.length c := by
 obtain ⟨ad, c, out, h1, _⟩ := h
 exact ⟨ad, c, h1⟩
theorem fls_len {out : List Fv} {l : List Fl} (h : fls out = l) : out.length = l.length := by rw [<- h]; simp [fls]
theorem lin_of {w : World} {ad : Option Addr} {c n : Nat} {xs : List Fv} (h : FsIn w ad c xs) (hn : xs.length = n) : LIn w (.slice ad n c) (fls xs) := ⟨ad, c, xs, by rw [<- hn]; simp [fls], h, rfl⟩
theorem bequal_runs (v1 v2 : Value) (s1 s2 : ByteArray) (w : World) (h1 : (convert 23 9 v1).run Tryz.prog w = .ok (.string s1) w) (h2 : (convert 23 9 v2).run Tryz.prog w = .ok (.string s2) w) :
 Calls Tryz.prog 12 #[v1, v2] w fun e w' => e = .returned (.bool (s1.toList == s2.toList)) /\ w' = w := by
 go_enter Tryz.func12, Tryz.ntmps12
 go_wp2
 go_ret
 exact ⟨rfl, rfl⟩
def strN (xs : List Nat) : ByteArray := ⟨(xs.map UInt8.ofNat).toArray⟩
theorem strN_toList (xs : List Nat) : (strN xs).toList = xs.map UInt8.ofNat := by
 rw [Lib.toList_data]; rfl
theorem conv_in (a : Option Addr) (len cap : Nat) (xs : List Nat) (w : World) (hl : xs.length = len) (hB : BytesIn w a xs) :
 (convert 23 9 (.slice a len cap)).run Tryz.prog w = .ok (.string (strN xs)) w := by
 rcases hB with rfl | ⟨b, o, rfl, _, hB⟩
 . obtain rfl : len = 0 := by simp at hl; omega
   rw [run_convert_bytes_string w 23 9 5 _ 0 cap Tryz.underlying23 Tryz.underlying5 Tryz.underlying9]
   cases a <;> simp [Conv.bytesToString, loadCells, strN]
   all_goals rfl
 . have h := run_convert_bytes_arg (P := Tryz.prog) w 23 5 Tryz.underlying23 Tryz.underlying5 b o len cap (xs.map fun x : Nat => (x : Int)) (by simpa using hl) (by
    intro i hi
    rw [hB i (by omega)]
    have : i < xs.length := by omega
    simp [List.getD, this]) 9 Tryz.underlying9
   rw [h]
   simp [strOfNums, strN, Function.comp_def]
theorem ofNat_inj {xs ys : List Nat} (hx : ∀ j, xs.getD j 0 < 256) (hy : ∀ j, ys.getD j 0 < 256) (h : xs.map UInt8.ofNat = ys.map UInt8.ofNat) : xs = ys := by
 have hl : xs.length = ys.length := by have := congrArg List.length h; simpa using this
 apply List.ext_getElem hl
 intro j h1 h2
 have e := congrArg (fun l : List UInt8 => l[j]?) h
 simp [h1, h2] at e
 have a1 := hx j
 have a2 := hy j
 simp [List.getD, h1] at a1
 simp [List.getD, h2] at a2
 have e2 := congrArg UInt8.toNat e
 simp only [UInt8.toNat_ofNat'] at e2
 omega
theorem bequal_in (a1 a2 : Option Addr) (l1 c1 l2 c2 : Nat) (xs ys : List Nat) (w : World) (h1 : xs.length = l1) (h2 : ys.length = l2) (hx : ∀ j, xs.getD j 0 < 256) (hy : ∀ j, ys.getD j 0 < 256) (hB1 : BytesIn w a1 xs) (hB2 : BytesIn w a2 ys) :
 Calls Tryz.prog 12 #[.slice a1 l1 c1, .slice a2 l2 c2] w fun e w' => e = .returned (.bool (xs == ys)) /\ w' = w := by
 refine (bequal_runs _ _ (strN xs) (strN ys) w (conv_in a1 l1 c1 xs w h1 hB1) (conv_in a2 l2 c2 ys w h2 hB2)).mono ?_
 rintro e w' ⟨rfl, rfl⟩
 refine ⟨ret_bool ?_, rfl⟩
 rw [strN_toList, strN_toList, Bool.eq_iff_iff, beq_iff_eq, beq_iff_eq]
 exact ⟨ofNat_inj hx hy, fun h => by rw [h]⟩
theorem errR_all : ∀ {l : List Fl} {p : Option Fl}, errR p l = 0 -> ∀ f ∈ l, errV f = 0
 | [], p, h, f, hf => by cases hf
 | g :: r, p, h, f, hf => by
  unfold errR at h
  by_cases e : errV g = 0
  . rw [if_neg (by rw [e]; decide)] at h
    split at h
    . cases h
    . rcases List.mem_cons.1 hf with rfl | hf
      . exact e
      . exact errR_all h f hf
  . rw [if_pos e] at h
    exact absurd h e
theorem errM_all {l : List Fl} (h : errM l = 0) : l.length <= 12 /\ ∀ f ∈ l, errV f = 0 := by
 unfold errM at h
 split at h
 . cases h
 . exact ⟨by omega, errR_all h⟩
theorem errV_num {f : Fl} (h : errV f = 0) : f.name.length <= 40 /\ f.bytes.length <= 3000 /\ 0 <= f.stamp /\ f.stamp <= 1000000 /\ 0 <= f.node /\ f.node <= 3 := by
 unfold errV at h
 split at h
 . rename_i h1; exact absurd h h1
 . rename_i h1
   have h1' : errN f.name = 0 := by
    by_cases e : errN f.name = 0
    . exact e
    . exact absurd e h1
   split at h
   . cases h
   . split at h
     . cases h
     . have := (errN_ok h1').1
       omega
structure ENd (n : Nat) (x : En) : Prop where
 mt : x.meth < 65536
 cr : x.crc < 4294967296
 pl : x.pk.length <= n
 st : 0 <= x.f.stamp /\ x.f.stamp < 4294967296
 nd : 0 <= x.f.node /\ x.f.node < 65536
 nm : x.f.name.length <= n /\ x.f.name.length < 65536
 un : ∃ ys, unpF x.meth x.pk = some ys /\ x.f.bytes = o8 ys
theorem ENd.mono {n m : Nat} {x : En} (h : ENd n x) (hm : n <= m) : ENd m x := ⟨h.mt, h.cr, Nat.le_trans h.pl hm, h.st, h.nd, ⟨Nat.le_trans h.nm.1 hm, h.nm.2⟩, h.un⟩
theorem low_of {l : List Nat} {k : Nat} (hl : l.length = k) (hv : ∀ x ∈ l, x < 256) : ofLowN l < 256 ^ k := by rw [<- hl]; exact ofLow_lt l hv
theorem entF_num {r q : List Nat} {x : En} (hv : ∀ y ∈ r, y < 256) (h : entF r = some (x, q)) : ENd r.length x := by
 unfold entF at h
 obtain ⟨a1, r1, rfl, l1, h⟩ := bind_getB h
 dsimp only at h
 obtain ⟨a2, r2, rfl, l2, h⟩ := bind_getB h
 dsimp only at h
 obtain ⟨a3, r3, rfl, l3, h⟩ := bind_getB h
 dsimp only at h
 obtain ⟨a4, r4, rfl, l4, h⟩ := bind_getB h
 dsimp only at h
 obtain ⟨a5, r5, rfl, l5, h⟩ := bind_getB h
 dsimp only at h
 obtain ⟨a6, r6, rfl, l6, h⟩ := bind_getB h
 dsimp only at h
 obtain ⟨a7, r7, rfl, l7, h⟩ := bind_getB h
 dsimp only at h
 obtain ⟨a8, r8, rfl, l8, h⟩ := bind_getB h
 dsimp only at h
 obtain ⟨a9, r9, rfl, l9, h⟩ := bind_getB h
 dsimp only at h
 obtain ⟨a10, r10, rfl, l10, h⟩ := bind_getB h
 dsimp only at h
 obtain ⟨a11, r11, rfl, l11, h⟩ := bind_getB h
 dsimp only at h
 obtain ⟨a12, r12, rfl, l12, h⟩ := bind_getB h
 dsimp only at h
 obtain ⟨a13, r13, rfl, l13, h⟩ := bind_getB h
 dsimp only at h
 obtain ⟨a14, r14, rfl, l14, h⟩ := bind_getB h
 dsimp only at h
 cases hu : unpF (ofLowN a2) a14 with
 | none => rw [hu] at h; cases h
 | some b =>
  rw [hu] at h
  simp only [Option.bind_some, Option.some.injEq, Prod.mk.injEq] at h
  obtain ⟨rfl, rfl⟩ := h
  have v2 := low_of l2 (fun z hz => hv z (by simp [hz]))
  have v4 := low_of l4 (fun z hz => hv z (by simp [hz]))
  have v7 := low_of l7 (fun z hz => hv z (by simp [hz]))
  have v11 := low_of l11 (fun z hz => hv z (by simp [hz]))
  have v12 := low_of l12 (fun z hz => hv z (by simp [hz]))
  simp only [Nat.reducePow] at v2 v4 v7 v11 v12
  refine ⟨v2, v4, by simp only [List.length_append]; omega, ⟨by dsimp only; omega, by dsimp only; omega⟩, ⟨by dsimp only; omega, by dsimp only; omega⟩, ⟨by dsimp only; rw [o8_len]; simp only [List.length_append]; omega, by dsimp only; rw [o8_len]; omega⟩, b, hu, rfl⟩
theorem entsF_num : ∀ {F : Nat} {r : List Nat} {l : List En}, (∀ y ∈ r, y < 256) -> entsF F r = some l -> l.length * 41 <= r.length /\ ∀ x ∈ l, ENd r.length x
 | 0, r, l, _, h => by cases h
 | F + 1, r, l, hv, h => by
  unfold entsF at h
  obtain ⟨m, q, rfl, hl, h⟩ := bind_getB h
  dsimp only at h
  split at h
  . cases he : entF q with
    | none => rw [he] at h; cases h
    | some p =>
     rw [he] at h
     simp only [Option.bind_some, Option.map_eq_some_iff] at h
     obtain ⟨l2, h1, rfl⟩ := h
     have hm := entF_more (x := p.1) (q := p.2) he
     have hvq : ∀ y ∈ q, y < 256 := fun y hy => hv y (by simp [hy])
     have ih := entsF_num (hm.2.1 hvq).2 h1
     have h3 := hm.1
     refine ⟨by rw [List.length_cons, List.length_append]; omega, fun x hx => ?_⟩
     rcases List.mem_cons.1 hx with rfl | hx
     . exact (entF_num hvq he).mono (by rw [List.length_append]; omega)
     . exact (ih.2 x hx).mono (by rw [List.length_append]; omega)
  . cases h
    exact ⟨Nat.zero_le _, fun x hx => by cases hx⟩
def RdA (w : World) (bs : List Nat) (e : Ending) (w' : World) : Prop := ∃ v, e = .returned (.tuple #[v, .int .i64 (readE bs : Nat)]) /\ LIn w' v (readL bs) /\ Below w.heap.size w w'
theorem LIn.nil (w : World) : LIn w (.slice none 0 0) [] := ⟨none, 0, [], rfl, FsIn.nil w, rfl⟩
theorem RdA.bad {w w' : World} {bs : List Nat} {k : Nat} (h : readE bs = k) (hk : k ≠ 0) (hB : Below w.heap.size w w') : RdA w bs (.returned (.tuple #[.slice none 0 0, .int .i64 (k : Int)])) w' := by
 have hl : readL bs = [] := by unfold readL; rw [if_pos (by rw [h]; exact hk)]
 exact ⟨.slice none 0 0, by rw [h], by rw [hl]; exact LIn.nil _, hB⟩
theorem fls_fv (es : List Ev) : fls (es.map Ev.fv) = (es.map Ev.e).map En.f := by simp [fls, Ev.fv, Function.comp_def]
theorem zread_any (n cap : Nat) (a : Option Addr) (bs : List Nat) (w : World) (hl : bs.length = n) (hc : n <= cap) (hP : PkIn w a cap bs) (hv : ∀ x ∈ bs, x < 256) (hm : n <= 9223372036854775807) :
 Calls Tryz.prog 13 #[.slice a n cap] w fun e w' => RdA w bs e w' := by
 by_cases hn : 12000 < n
 . have HF := Hd (RdA.bad (w := w) (w' := w) (bs := bs) (k := 2) (by unfold readE; rw [if_pos (by omega)]) (by decide) (Below.refl _ _))
   have hnI : (12000 : Int) < (n : Int) := by omega
   clear hP hv hl
   go_enter Tryz.func13, Tryz.ntmps13
   go_wp2
   go_ret2
   exact uh HF
 . have hre : readE bs = match entsF (n + 1) bs with
    | none => 7
    | some l => if errM (l.map En.f) ≠ 0 \/ archL l ≠ bs then 7 else if sumsF l = false then 10 else 0 := by
    conv => lhs; unfold readE
    rw [if_neg (by omega), hl]
    cases entsF (n + 1) bs <;> rfl
   have hrl : readL bs = if readE bs ≠ 0 then [] else ((entsF (n + 1) bs).getD []).map En.f := by unfold readL; rw [hl]
   have hnI : ¬ (12000 : Int) < (n : Int) := by omega
   have HC := Hd (entriesOf_any n cap a bs w hl (by omega) hc hP hv)
   have HP := Hd hP
   have HV := Hd hv
   have HRE := Hd hre
   have HRL := Hd hrl
   have HL := Hd hl
   clear hP hv hre hrl hl
   go_enter Tryz.func13, Tryz.ntmps13
   go_wp2_with fail
   refine (uh HC).mono ?_
   rintro e w1 ⟨hB1, (⟨he, rfl⟩ | ⟨v, es, he, rfl, hrow, _⟩)⟩
   . have HF := Hd (RdA.bad (w := w) (w' := w1) (bs := bs) (k := 7) (by rw [uh HRE, he]) (by decide) hB1)
     clear hB1 he
     go_wp2
     go_ret2
     exact uh HF
   . obtain ⟨ad, c, rfl, hes⟩ := hrow.entries
     obtain ⟨hel, hnum⟩ := entsF_num (uh HV) he
     have hpv := entsF_val he (uh HV)
     have hre := uh HRE
     rw [he] at hre
     dsimp only at hre
     have hrl := uh HRL
     rw [he] at hrl
     obtain ⟨l, hll⟩ : ∃ l, es.map Ev.e = l := ⟨_, rfl⟩
     obtain ⟨k, hk⟩ : ∃ k, es.length = k := ⟨_, rfl⟩
     have hlk : l.length = k := by rw [<- hll]; simpa using hk
     rw [hll] at hnum hre hrl he hel hpv
     have HPV := Hd hpv
     rw [hk]
     have hk20 : k <= 20000 := by have := uh HL; omega
     have HCF := Hd (filesOf_any ad c k es w1 hes hk hk20)
     have HES := Hd hes
     have HLL := Hd hll
     have HK := Hd hk
     have HNUM := Hd hnum
     have HRE2 := Hd hre
     have HRL2 := Hd hrl
     have HB1 := Hd hB1
     clear hB1 hrow hes hel hnum hre hrl he hll hk hlk hpv HC HRE HRL
     go_wp2_with fail
     refine (uh HCF).mono ?_
     rintro e w2 ⟨v2, rfl, hG, hB2⟩
     obtain ⟨ad2, c2, rfl, hfs⟩ := hG.files (by rw [uh HK]; omega)
     rw [uh HK]
     have HCC := Hd (check_files ad2 c2 (es.map Ev.fv) w2 hfs k (by simpa using uh HK))
     obtain ⟨E, hE⟩ : ∃ E, errM (fls (es.map Ev.fv)) = E := ⟨_, rfl⟩
     rw [hE] at HCC
     rw [fls_fv, uh HLL] at hE
     have HEE := Hd hE
     have HFS := Hd hfs
     have hz1 := (uh HB1).size
     have HB2 := Hd ((uh HB1).trans (hB2.mono hz1))
     have HB12 := Hd hB2
     clear hG hfs hB2 hE HCF
     go_wp2_with fail
     refine (uh HCC).mono ?_
     rintro e w3 ⟨rfl, hB3⟩
     have hz2 := (uh HB2).size
     have HB3 := Hd ((uh HB2).trans (hB3.mono hz2))
     have HB13 := Hd ((uh HB12).trans (hB3.mono (uh HB12).size))
     have HB23 := Hd hB3
     clear hB3 HCC
     by_cases hE0 : E = 0
     . subst hE0
       have hok := errM_all (uh HEE)
       have hENum : ∀ x ∈ es, ENum x.e := fun x hx => by
        have hxl : x.e ∈ l := by rw [<- uh HLL]; exact List.mem_map_of_mem hx
        have h1 := uh HNUM x.e hxl
        have h2 := errV_num (hok.2 x.e.f (List.mem_map_of_mem hxl))
        have h3 := uh HL
        have h4 := h1.pl
        exact ⟨⟨by omega, by omega⟩, ⟨by omega, by omega⟩, by omega, by omega, by omega, h1.cr, h1.mt⟩
       have hk12 : k <= 12 := by
        have := hok.1
        rw [<- uh HLL] at this
        simpa [uh HK] using this
       have HCA := Hd (archive_any ad c k es w3 ((uh HES).below (uh HB13)) (uh HK) hk12 hENum)
       rw [uh HLL] at HCA
       have HBY : Hid (∀ x ∈ es, x.e.f.bytes.length <= 12000) := Hd (fun x hx => by have := (hENum x hx).bl; omega)
       have HVL : Hid (∀ y ∈ archL l, y < 256) := Hd (arch_val l (uh HPV))
       clear hok hENum
       go_wp2_with fail
       refine (uh HCA).mono ?_
       rintro e w4 ⟨v4, rfl, ho, hB4⟩
       obtain ⟨a4, c4, rfl, q1, q2, q3, q4⟩ := own_pk ho
       have HPK := Hd (((uh HP).below (uh HB3)).below hB4)
       have hz3 := (uh HB3).size
       have HB4 := Hd ((uh HB3).trans (hB4.mono hz3))
       have HB14 := Hd ((uh HB13).trans (hB4.mono (uh HB13).size))
       have HB24 := Hd ((uh HB23).trans (hB4.mono (uh HB23).size))
       have HEQ := Hd (bequal_in a4 a _ c4 n cap (archL l) bs w4 rfl (uh HL) (val_getD (uh HVL)) (val_getD (uh HV)) q1.1 (uh HPK).1)
       obtain ⟨AL, hAL⟩ : ∃ AL, (archL l).length = AL := ⟨_, rfl⟩
       obtain ⟨bq, hbq⟩ : ∃ bq, (archL l == bs) = bq := ⟨_, rfl⟩
       rw [hAL, hbq] at HEQ
       rw [hAL]
       have HBQ := Hd hbq
       clear ho hB4 q1 q2 q3 q4 hAL hbq HCA HPK
       go_wp2_with fail
       refine (uh HEQ).mono ?_
       rintro e w5 ⟨rfl, rfl⟩
       cases bq with
       | false =>
        have hne : archL l ≠ bs := by
         have := uh HBQ
         rw [beq_eq_false_iff_ne] at this
         exact this
        have HF := Hd (RdA.bad (w := w) (w' := w5) (bs := bs) (k := 7) (by rw [uh HRE2, if_pos (.inr hne)]) (by decide) (uh HB4))
        clear hne HEQ
        go_wp2
        go_ret2
        exact uh HF
       | true =>
        have heq : archL l = bs := eq_of_beq (uh HBQ)
        have hre2 := uh HRE2
        rw [if_neg (by rintro (h | h); exact h (uh HEE); exact h heq)] at hre2
        have HRE3 := Hd hre2
        obtain ⟨S, hS⟩ : ∃ S, sumsF l = S := ⟨_, rfl⟩
        have HCS := Hd (sumsHold_any ad c k es w5 ((uh HES).below (uh HB14)) (uh HK) hk20 (uh HBY) S (by rw [uh HLL]; exact hS))
        have HSS := Hd hS
        clear heq hre2 hS HEQ
        go_wp2_with fail
        refine (uh HCS).mono ?_
        rintro e w6 ⟨rfl, hB6⟩
        have hz5 := (uh HB4).size
        have HB6 := Hd ((uh HB4).trans (hB6.mono hz5))
        cases S with
        | false =>
         have HF := Hd (RdA.bad (w := w) (w' := w6) (bs := bs) (k := 10) (by rw [uh HRE3, if_pos (uh HSS)]) (by decide) (uh HB6))
         clear hB6 HCS
         go_wp2
         go_ret2
         exact uh HF
        | true =>
         have h0 : readE bs = 0 := by rw [uh HRE3, if_neg (by rw [uh HSS]; decide)]
         have hl0 : readL bs = l.map En.f := by
          have := uh HRL2
          rw [if_neg (by rw [h0]; decide)] at this
          exact this
         have hfs6 : FsIn w6 ad2 c2 (es.map Ev.fv) := ((uh HFS).below (uh HB24) (Nat.le_refl _)).below (hB6.mono (by omega)) (Nat.le_refl _)
         have HF : Hid (RdA w bs (.returned (.tuple #[.slice ad2 k c2, .int .i64 0])) w6) := Hd ⟨.slice ad2 k c2, by rw [h0]; rfl, ⟨ad2, c2, es.map Ev.fv, by rw [hl0, <- uh HLL]; simp [uh HK], hfs6, by rw [fls_fv, uh HLL, hl0]⟩, uh HB6⟩
         clear hB6 HCS h0 hl0 hfs6
         go_wp2
         go_ret2
         exact uh HF
     . have HF := Hd (RdA.bad (w := w) (w' := w3) (bs := bs) (k := 7) (by rw [uh HRE2, if_pos (.inl (by rw [uh HEE]; exact hE0))]) (by decide) (uh HB3))
       have hEb : ((E : Int) == 0) = false := by rw [beq_eq_false_iff_ne]; omega
       have hEc : ((E : Int) != 0) = true := by rw [bne, hEb]; rfl
       clear hE0
       go_wp2
       go_ret2
       exact uh HF
end Go.Proofs.YtcdnbiiaoaeflafGreatDoor
