/-
  pass: what the tokens of a block are told by goes to a sink, one behind the other.
-/
import Derived.Test.YtoiioemkibfdcacBlk2
import Derived.Test.YtoiioemkibfdcacPBlk
import Derived.Test.YtoiioemkibfdcacMatch5
import Derived.Test.YtoiioemkibfdcacKeep
import Derived.Shelf.Abstract
namespace Go.Proofs.Ytoiioemkibfdcac
open Go.RowKit
set_option linter.unusedVariables false
set_option maxRecDepth 100000

/-- what a sink of items has taken: J; the sink's three functions -/
structure Snk (J : (Nat → Prop) → List It → World → Prop) (B ks kf kr : Nat) (cs cf br : Array Value) (all : List It) : Prop where
  es : ∀ (args : Array Value) (w : World), (callFunc ks args).run Try.prog w = .ok (.enter ks args) w
  ef : ∀ (args : Array Value) (w : World), (callFunc kf args).run Try.prog w = .ok (.enter kf args) w
  er : ∀ (args : Array Value) (w : World), (callFunc kr args).run Try.prog w = .ok (.enter kr args) w
  grow : ∀ {No No' : Nat → Prop} {is : List It} {W W1 : World}, J No is W → Below W.heap.size W W1 → (∀ g, No' g → No g ∨ W.heap.size ≤ g) → J No' is W1
  sym : ∀ {No : Nat → Prop} {is R : List It} {k : Nat} {W : World}, is ++ It.sym k :: R = all → J No is W → (∀ g, W.heap.size ≤ g → ¬ No g) → Calls Try.prog ks (#[.int .i64 (k : Int)] ++ cs) W fun e W' => e = .returned (.tuple #[]) ∧ J No (is ++ [It.sym k]) W' ∧ Below B W W' ∧ Kp No W W'
  far : ∀ {No : Nat → Prop} {is R : List It} {k : Nat} {W : World}, is ++ It.far k :: R = all → J No is W → (∀ g, W.heap.size ≤ g → ¬ No g) → Calls Try.prog kf (#[.int .i64 (k : Int)] ++ cf) W fun e W' => e = .returned (.tuple #[]) ∧ J No (is ++ [It.far k]) W' ∧ Below B W W' ∧ Kp No W W'
  rest : ∀ {No : Nat → Prop} {is R : List It} {n s : Nat} {W : World}, is ++ It.rest n s :: R = all → J No is W → (∀ g, W.heap.size ≤ g → ¬ No g) → Calls Try.prog kr (br ++ #[.int .i64 (n : Int), .int .i64 (s : Int)]) W fun e W' => e = .returned (.tuple #[]) ∧ J No (is ++ [It.rest n s]) W' ∧ Below B W W' ∧ Kp No W W'

theorem Kp.cell {No : Nat → Prop} {w w' : World} {g j : Nat} {v : Value} (h : Kp No w w') (hg : g < w.heap.size) (hn : No g) (hv : w.cell? ⟨g, j, none⟩ = some v) : w'.cell? ⟨g, j, none⟩ = some v := by
  rw [World.cell?_of_block (w := w) (a := ⟨g, j, none⟩) (h g hg hn)]; exact hv
theorem tok_at2 {w w' : World} {a : Option Addr} {l : List Tk} {k : Nat} (h : TokIn w a l) (hg : ∀ b o, a = some ⟨b, o, none⟩ → b < w.heap.size → w'.heap[b]? = w.heap[b]?) (hk : k < l.length) {tb : Nat} {ts tf : Int} (ht : l.getD k (0, 0, 0) = (tb, ts, tf)) :
    ∃ b o, a = some ⟨b, o, none⟩ ∧ b < w.heap.size ∧ w'.cell? ⟨b, o + k * 3, none⟩ = some (.int .u8 (tb : Int)) ∧ w'.cell? ⟨b, o + k * 3 + 1, none⟩ = some (.int .i64 ts) ∧ w'.cell? ⟨b, o + k * 3 + 2, none⟩ = some (.int .i64 tf) := by
  rcases h with rfl | ⟨b, o, rfl, hb, hT⟩
  · simp at hk
  · obtain ⟨h1, h2, h3⟩ := hT k hk
    rw [ht] at h1 h2 h3
    have e := hg b o rfl hb
    exact ⟨b, o, rfl, hb, (World.cell?_of_block (w := w) (a := ⟨b, _, none⟩) e).trans h1, (World.cell?_of_block (w := w) (a := ⟨b, _, none⟩) e).trans h2, (World.cell?_of_block (w := w) (a := ⟨b, _, none⟩) e).trans h3⟩
theorem itsF_step (ts : List Tk) (k : Nat) (hk : k < ts.length) : itsF (ts.take (k + 1)) = itsF (ts.take k) ++ itOf (ts.getD k (0, 0, 0)) := by
  have : ts.take (k + 1) = ts.take k ++ [ts.getD k (0, 0, 0)] := by
    rw [List.take_add_one]
    simp [List.getD, hk]
  rw [this]
  simp [itsF]
theorem itsOf_split (ts : List Tk) (k : Nat) (hk : k < ts.length) : itsOf ts = itsF (ts.take k) ++ (itOf (ts.getD k (0, 0, 0)) ++ (itsF (ts.drop (k + 1)) ++ [.sym 256])) := by
  have e : ts = ts.take k ++ (ts.getD k (0, 0, 0) :: ts.drop (k + 1)) := by rw [← drop_at hk, List.take_append_drop]
  have h2 : itsF ts = itsF (ts.take k) ++ (itOf (ts.getD k (0, 0, 0)) ++ itsF (ts.drop (k + 1))) := by
    have h3 := congrArg itsF e
    rw [h3]
    simp [itsF]
  unfold itsOf
  rw [h2]
  simp

set_option maxHeartbeats 8000000 in
theorem pass_any (J : (Nat → Prop) → List It → World → Prop) (No : Nat → Prop) (B ks kf kr : Nat) (cs cf br : Array Value) (a : Option Addr) (len cap : Nat) (ts : List Tk) (w : World) (hK : Snk J B ks kf kr cs cf br (itsOf ts)) (hl : ts.length = len) (hlen : len ≤ 3000) (hV : ∀ t ∈ ts, VT t) (hT : TokIn w a ts) (hTn : ∀ b o, a = some ⟨b, o, none⟩ → ts ≠ [] → No b) (hB : B ≤ w.heap.size) (hJ : J No [] w) (hNo : ∀ g, w.heap.size ≤ g → ¬ No g) :
    Calls Try.prog 55 #[.slice a len cap, .agg #[.func (.func ks) #[] cs, .func (.func kf) #[] cf, .func (.func kr) br #[]]] w fun e w' => e = .returned (.tuple #[]) ∧ J No (itsOf ts) w' ∧ Below B w w' ∧ Kp No w w' := by
  have es := hK.es
  have ef := hK.ef
  have er := hK.er
  have HJ := hide hJ
  have HT := hide hT
  have HTn := hide hTn
  have HK := hide hK
  have HL := hide hl
  have HNo := hide hNo
  have HV := hide hV
  clear hJ hT hK hTn hl hNo hV
  obtain ⟨No1, hNo1⟩ : ∃ No1 : Nat → Prop, No1 = fun g => No g ∨ g = w.heap.size := ⟨_, rfl⟩
  have HN1 := hide hNo1
  clear hNo1
  go_enter Try.func55, Try.ntmps55
  go_wp2
  go_loopw [11] (fun i wr => ∃ k : Nat, k ≤ len ∧ i = .int .i64 k ∧ Hid (J No1 (itsF (ts.take k)) wr ∧ Below B w wr ∧ Kp No1 (w.alloc (.cells #[.func (.func ks) #[] cs, .func (.func kf) #[] cf, .func (.func kr) br #[]] 110)) wr ∧ w.heap.size < wr.heap.size)) (fun i _ => len - (intOf i).toNat)
  case atStart =>
    refine ⟨0, Nat.zero_le _, rfl, hide ⟨?_, (Below.refl B w).alloc hB _, Kp.refl _ _, by simp⟩⟩
    have := (unhide HK).grow (No' := No1) (unhide HJ) ((Below.refl w.heap.size w).alloc (Nat.le_refl _) (.cells #[.func (.func ks) #[] cs, .func (.func kf) #[] cf, .func (.func kr) br #[]] 110)) (fun g e => by
      rw [unhide HN1] at e
      rcases e with e | e
      · exact .inl e
      · exact .inr (by omega))
    simpa [itsF] using this
  case round =>
    obtain ⟨k, hk, rfl, hst⟩ := hrel
    obtain ⟨hj, hbel, hkp, hsz⟩ := unhide hst
    have hN1w : ∀ g, wr.heap.size ≤ g → ¬ No1 g := by
      intro g hg e
      rw [unhide HN1] at e
      rcases e with e | e
      · exact unhide HNo g (by omega) e
      · omega
    have hbxN : No1 w.heap.size := by rw [unhide HN1]; exact .inr rfl
    have x0 : wr.cell? ⟨w.heap.size, 0, none⟩ = some (.func (.func ks) #[] cs) := hkp.cell (by simp) hbxN (by simp)
    have x1 : wr.cell? ⟨w.heap.size, 1, none⟩ = some (.func (.func kf) #[] cf) := hkp.cell (by simp) hbxN (by simp)
    have x2 : wr.cell? ⟨w.heap.size, 2, none⟩ = some (.func (.func kr) br #[]) := hkp.cell (by simp) hbxN (by simp)
    have HBN := hide hbxN
    by_cases hlt : k < len
    · obtain ⟨tb, tS, tF, ht⟩ : ∃ tb tS tF, ts.getD k (0, 0, 0) = (tb, tS, tF) := ⟨_, _, _, rfl⟩
      have hkl : k < ts.length := by rw [unhide HL]; exact hlt
      obtain ⟨b, o, ea, hbb, c1, c2, c3⟩ := tok_at2 (w' := wr) (unhide HT) (fun b o e hb => by
        have h1 := hkp b (by simp; omega) (by rw [unhide HN1]; exact .inl (unhide HTn b o e (fun h => by rw [h] at hkl; simp at hkl)))
        rw [h1]
        exact Below.heap_alloc w _ b hb) hkl ht
      have hvt := unhide HV (ts.getD k (0, 0, 0)) (by
        have : ts.getD k (0, 0, 0) = ts[k] := by simp [List.getD, hkl]
        rw [this]; exact List.getElem_mem hkl)
      rw [ht] at hvt
      have hsp := itsOf_split ts k hkl
      have hstp := itsF_step ts k hkl
      rw [ht] at hsp hstp
      obtain ⟨R, hR⟩ : ∃ R, itsF (ts.drop (k + 1)) ++ [It.sym 256] = R := ⟨_, rfl⟩
      rw [hR] at hsp
      obtain ⟨IS, hIS⟩ : ∃ IS, itsF (ts.take k) = IS := ⟨_, rfl⟩
      rw [hIS] at hsp hstp hj
      obtain ⟨No2, hNo2⟩ : ∃ No2 : Nat → Prop, No2 = fun g => No1 g ∨ g = wr.heap.size := ⟨_, rfl⟩
      have hJ2 : ∀ X : Obj, J No2 IS (wr.alloc X) := fun X => (unhide HK).grow hj ((Below.refl wr.heap.size wr).alloc (Nat.le_refl _) X) (fun g e => by
        rw [hNo2] at e
        rcases e with e | e
        · exact .inl e
        · exact .inr (by omega))
      have hN2 : ∀ W : World, wr.heap.size < W.heap.size → ∀ g, W.heap.size ≤ g → ¬ No2 g := by
        intro W hW g hg e
        rw [hNo2] at e
        rcases e with e | e
        · exact hN1w g (by omega) e
        · omega
      have hback : ∀ (is : List It) (W : World), J No2 is W → J No1 is W := fun _ _ hW => (unhide HK).grow hW (Below.refl _ _) (fun g e => .inl (by rw [hNo2]; exact .inl e))
      have hk12 : ∀ (X : Obj) (W : World), Below B (wr.alloc X) W → Kp No2 (wr.alloc X) W → Below B w W ∧ Kp No1 (w.alloc (.cells #[.func (.func ks) #[] cs, .func (.func kf) #[] cf, .func (.func kr) br #[]] 110)) W ∧ w.heap.size < W.heap.size := by
        intro X W hb2 hk2
        have hz := hb2.size
        simp only [World.size_alloc] at hz
        refine ⟨(hbel.alloc (by have := hbel.size; omega) X).trans hb2, ?_, by omega⟩
        refine (Kp.trans hkp ?_ (by simp; omega))
        intro g hg hn
        rw [hk2 g (by simp; omega) (by rw [hNo2]; exact .inl hn)]
        exact Below.heap_alloc wr X g hg
      have hn2a : No2 wr.heap.size := by rw [hNo2]; exact .inr rfl
      have hn2b : No2 w.heap.size := by rw [hNo2]; exact .inl hbxN
      have HSP := hide hsp
      have HSTP := hide hstp
      have HJ2 := hide hJ2
      have HN2 := hide hN2
      have HBK := hide hback
      have HK12 := hide hk12
      have HA := hide hn2a
      have HB2 := hide hn2b
      subst ea
      have hbwr : b < wr.heap.size := by omega
      clear hst hj hbel hkp hN1w hbxN ht hsp hstp hR hIS hNo2 hJ2 hN2 hback hk12 hn2a hn2b hkl hbb
      obtain ⟨v1, v2⟩ := hvt
      simp only at v1 v2
      by_cases h0 : tS = 0
      · subst h0
        have hit : itOf (tb, 0, tF) = [.sym tb] := by unfold itOf; rw [if_pos rfl]
        rw [hit] at HSP HSTP
        have hz0 := @World.size_alloc
        go_wp2_with fail
        refine ((unhide HK).sym (No := No2) (is := IS) (R := R) (k := tb) (unhide HSP).symm (unhide HJ2 _) (unhide HN2 _ (by simp))).mono ?_
        rintro e w2 ⟨rfl, hJ3, hB3, hK3⟩
        have HJ3 := hide (unhide HBK _ _ hJ3)
        have H3 := hide (unhide HK12 _ _ hB3 hK3)
        clear hJ3 hB3 hK3
        go_wp2
        go_roundw
        case rel => exact ⟨k + 1, by omega, by go_num, hide ⟨by rw [unhide HSTP]; exact unhide HJ3, unhide H3⟩⟩
        case measure => simp [intOf]; omega
      · have v3 : 3 ≤ tS ∧ tS ≤ 258 ∧ 1 ≤ tF ∧ tF ≤ 3000 := by rcases v2 with h | h; exact absurd h h0; exact h
        obtain ⟨n, rfl⟩ := Int.eq_ofNat_of_zero_le (show 0 ≤ tS by omega)
        obtain ⟨d, rfl⟩ := Int.eq_ofNat_of_zero_le (show 0 ≤ tF by omega)
        have hb0 : ((n : Int) == 0) = false := by rw [beq_eq_false_iff_ne]; omega
        have hit : itOf (tb, (n : Int), (d : Int)) = [.sym (manyI n).1, .rest (manyI n).2.1 (manyI n).2.2, .far (farI d).1, .rest (farI d).2.1 (farI d).2.2] := by unfold itOf; rw [if_neg h0]; rfl
        rw [hit] at HSP HSTP
        have HHM := hide (fun W => howMany_any n W (by omega) (by omega))
        have HHF := hide (fun W => howFar_any d W (by omega) (by omega))
        generalize (manyI n).1 = M at *
        generalize (manyI n).2.1 = MR at *
        generalize (manyI n).2.2 = MS at *
        generalize (farI d).1 = F at *
        generalize (farI d).2.1 = FR at *
        generalize (farI d).2.2 = FZ at *
        go_wp2_with fail
        refine (unhide HHM _).mono ?_
        rintro e w2 ⟨rfl, q, rfl⟩
        go_wp2_with fail
        refine ((unhide HK).sym (No := No2) (is := IS) (k := M) (R := _) (by rw [unhide HSP]; rfl) ((unhide HK).grow (unhide HJ2 _) (below_drewN (Below.refl _ _) q) (fun g e => .inl e)) (unhide HN2 _ (by simp))).mono ?_
        rintro e w2 ⟨rfl, hJ3, hB3, hK3⟩
        have hz2 : wr.heap.size < w2.heap.size := by have := hB3.size; simp at this; omega
        have y0 : w2.cell? ⟨w.heap.size, 1, none⟩ = some (.func (.func kf) #[] cf) := hK3.cell (by simp; omega) (unhide HB2) (by simpa using by go_simp)
        have y1 : w2.cell? ⟨w.heap.size, 2, none⟩ = some (.func (.func kr) br #[]) := hK3.cell (by simp; omega) (unhide HB2) (by simpa using by go_simp)
        have y2 : w2.cell? ⟨wr.heap.size, 2, none⟩ = some (.int .i64 (d : Int)) := hK3.cell (by simp) (unhide HA) (by simp)
        have HB3 := hide hB3
        have HK3 := hide hK3
        have HJ3 := hide hJ3
        clear hB3 hK3 hJ3 x0 x1 x2 c1 c2 c3
        go_wp2_with fail
        refine ((unhide HK).rest (No := No2) (is := IS ++ [.sym M]) (n := MR) (s := MS) (R := .far F :: .rest FR FZ :: R) (by rw [unhide HSP]; simp) (unhide HJ3) (unhide HN2 _ hz2)).mono ?_
        rintro e w3 ⟨rfl, hJ4, hB4, hK4⟩
        have hz3 : wr.heap.size < w3.heap.size := by have := hB4.size; omega
        have z0 : w3.cell? ⟨w.heap.size, 1, none⟩ = some (.func (.func kf) #[] cf) := hK4.cell (by omega) (unhide HB2) y0
        have z1 : w3.cell? ⟨w.heap.size, 2, none⟩ = some (.func (.func kr) br #[]) := hK4.cell (by omega) (unhide HB2) y1
        have z2 : w3.cell? ⟨wr.heap.size, 2, none⟩ = some (.int .i64 (d : Int)) := hK4.cell (by omega) (unhide HA) y2
        have HB4 := hide hB4
        have HK4 := hide hK4
        have HJ4 := hide hJ4
        clear hB4 hK4 hJ4 y0 y1 y2
        go_wp2_with fail
        refine (unhide HHF _).mono ?_
        rintro e w4 ⟨rfl, q2, rfl⟩
        go_wp2_with fail
        refine ((unhide HK).far (No := No2) (is := IS ++ [.sym M] ++ [.rest MR MS]) (k := F) (R := .rest FR FZ :: R) (by rw [unhide HSP]; simp) ((unhide HK).grow (unhide HJ4) (below_drewN (Below.refl _ _) q2) (fun g e => .inl e)) (unhide HN2 _ hz3)).mono ?_
        rintro e w5 ⟨rfl, hJ5, hB5, hK5⟩
        have hz5 : wr.heap.size < w5.heap.size := by have := hB5.size; exact Nat.lt_of_lt_of_le hz3 this
        have x5 : w5.cell? ⟨w.heap.size, 2, none⟩ = some (.func (.func kr) br #[]) := hK5.cell (Nat.lt_trans hsz hz3) (unhide HB2) z1
        have HB5 := hide hB5
        have HK5 := hide hK5
        have HJ5 := hide hJ5
        clear hB5 hK5 hJ5 z0 z1 z2
        go_wp2_with fail
        refine ((unhide HK).rest (No := No2) (is := IS ++ [.sym M] ++ [.rest MR MS] ++ [.far F]) (n := FR) (s := FZ) (R := R) (by rw [unhide HSP]; simp) (unhide HJ5) (unhide HN2 _ hz5)).mono ?_
        rintro e w6 ⟨rfl, hJ6, hB6, hK6⟩
        have HJ6 := hide (unhide HBK _ _ hJ6)
        have H6 := hide (unhide HK12 _ _ ((below_drewN (Below.refl B _) q).trans ((unhide HB3).trans ((unhide HB4).trans ((below_drewN (Below.refl B _) q2).trans ((unhide HB5).trans hB6))))) (Kp.trans (b := w2) (fun g hg hn => unhide HK3 g hg hn) (Kp.trans (b := w3) (unhide HK4) (Kp.trans (b := w5) (fun g hg hn => unhide HK5 g hg hn) hK6 (unhide HB5).size) (unhide HB4).size) (by have := (unhide HB3).size; exact this)))
        clear hJ6 hB6 hK6 x5
        go_wp2
        go_roundw
        case rel => exact ⟨k + 1, by omega, by go_num, hide ⟨by rw [unhide HSTP]; simpa using unhide HJ6, unhide H6⟩⟩
        case measure => simp [intOf]; omega
    · obtain rfl : k = len := by omega
      have HS := hide (show J No1 (itsF ts) wr ∧ Below B w wr ∧ Kp No1 (w.alloc (.cells #[.func (.func ks) #[] cs, .func (.func kf) #[] cf, .func (.func kr) br #[]] 110)) wr from ⟨by rw [List.take_of_length_le (by rw [unhide HL]; exact Nat.le_refl _)] at hj; exact hj, hbel, hkp⟩)
      have HN1w := hide hN1w
      clear hst hj hbel hkp hN1w hbxN
      go_wp2_with fail
      refine ((unhide HK).sym (No := No1) (is := itsF ts) (k := 256) (R := []) rfl (unhide HS).1 (unhide HN1w)).mono ?_
      rintro e w2 ⟨rfl, hJ3, hB3, hK3⟩
      have HF : Hid (J No (itsOf ts) w2 ∧ Below B w w2 ∧ Kp No w w2) := by
        obtain ⟨s1, s2, s3⟩ := unhide HS
        refine ⟨(unhide HK).grow hJ3 (Below.refl _ _) (fun g e => .inl (by rw [unhide HN1]; exact .inl e)), s2.trans hB3, ?_⟩
        intro g hg hn
        have hn1 : No1 g := by rw [unhide HN1]; exact .inl hn
        exact (hK3 g (by omega) hn1).trans ((s3 g (by simp; omega) hn1).trans (Below.heap_alloc w _ g hg))
      clear hJ3 hB3 hK3 x0 x1 x2
      go_wp2
      go_end0
      exact ⟨rfl, unhide HF⟩
end Go.Proofs.Ytoiioemkibfdcac
