/-
  The document's StepOf: any happening in a right world.
-/
import Derived.Test.YtmgmganbamjnmaaGreatDoorQ43
import Derived.Test.YtmgmganbamjnmaaGreatDoorQ44
namespace Go.Proofs.YtmgmganbamjnmaaGreatDoor
open Go.RowKit
set_option linter.unusedVariables false
set_option linter.unusedSimpArgs false
set_option maxRecDepth 100000

theorem one_many' {nm bs : List UInt8} {c : Int} {k : Nat} {g : Bool} (h : errN nm = 0) (hb : 3000 < bs.length) : errM [(⟨nm, bs, c, (k : Int), g⟩ : Fl)] = 2 := by
  unfold errM
  rw [if_neg (by simp)]
  have : errV (⟨nm, bs, c, (k : Int), g⟩ : Fl) = 2 := by
    unfold errV
    simp only
    rw [if_neg (by simp [h]), if_pos hb]
  unfold errR
  rw [this]
  rfl
theorem getD_of {α : Type} {l : List α} {k : Nat} {x d : α} (h : l[k]? = some x) : l.getD k d = x := by rw [List.getD_eq_getElem?_getD, h]; rfl
theorem fileE_is {W : Wd} {xk xd : Int} {nm bs : List UInt8} {k : Nat} {l : List Fl} {c : Int} (hl : W.nodes[k]? = some l) (hc : W.clock[k]? = some c) : fileE W ⟨xk, (k : Int), xd, nm, bs⟩ = if errN nm ≠ 0 then errN nm else if c = 1000000 then 11 else if xk = 2 ∧ hasF l nm = false then 5 else bothE l [putF ⟨xk, (k : Int), xd, nm, bs⟩ c] := by
  have hk := (List.getElem?_eq_some_iff.1 hl).1
  unfold fileE
  simp only [Int.toNat_natCast]
  rw [if_neg (by rw [isP_nat hk]; simp), getD_of hl, getD_of hc]
theorem fileC_is {W : Wd} {xk xd : Int} {nm bs : List UInt8} {k : Nat} {l : List Fl} {c : Int} (hl : W.nodes[k]? = some l) (hc : W.clock[k]? = some c) : (fileC W ⟨xk, (k : Int), xd, nm, bs⟩).act W = keepW k (bothL l [putF ⟨xk, (k : Int), xd, nm, bs⟩ c]) W := by
  unfold fileC
  simp only [Int.toNat_natCast]
  rw [getD_of hl, getD_of hc]
  rfl
theorem rsd_put {l : List Fl} {f : Fl} {c : Int} (h0 : bothE l [f] = 0) (hn : ∀ g ∈ l, g.stamp ≤ c) (hf : f.stamp = c + 1) : rsd c (bothL l [f]) = c + 1 := by
  rw [rsd_both h0 hn, rsd_cons]
  unfold rsd
  rw [hf]
  omega
theorem keep_is {W : Wd} {k : Nat} {l : List Fl} {c : Int} {f : Fl} (hok : WdOk W) (hl : W.nodes[k]? = some l) (hc : W.clock[k]? = some c) (h0 : bothE l [f] = 0) (hf : f.stamp = c + 1) : keepW k (bothL l [f]) W = ⟨W.nodes.set k (tog l [f]), W.clock.set k (c + 1), W.net⟩ := by
  unfold keepW
  rw [getD_of hc, rsd_put h0 (hok.nd k l c hl hc).st hf, bothL_ok h0]
theorem file_cases {W : Wd} {xk xd : Int} {nm bs : List UInt8} {k : Nat} {l : List Fl} {c : Int} (hok : WdOk W) (hl : W.nodes[k]? = some l) (hc : W.clock[k]? = some c) (f : Fl) (hf : putF ⟨xk, (k : Int), xd, nm, bs⟩ c = f) (hs : f.stamp = c + 1) (hx : xk = 1 ∨ xk = 2) :
    doE W ⟨xk, (k : Int), xd, nm, bs⟩ = (if errN nm ≠ 0 then errN nm else if c = 1000000 then 11 else if xk = 2 ∧ hasF l nm = false then 5 else bothE l [f]) ∧ (doE W ⟨xk, (k : Int), xd, nm, bs⟩ ≠ 0 → doW W ⟨xk, (k : Int), xd, nm, bs⟩ = noW) ∧ (doE W ⟨xk, (k : Int), xd, nm, bs⟩ = 0 → doW W ⟨xk, (k : Int), xd, nm, bs⟩ = ⟨W.nodes.set k (tog l [f]), W.clock.set k (c + 1), W.net⟩) := by
  have hd : doE W ⟨xk, (k : Int), xd, nm, bs⟩ = fileE W ⟨xk, (k : Int), xd, nm, bs⟩ := by unfold doE; rw [errWd_zero.2 hok]; simp only [ne_eq, not_true_eq_false, if_false]; unfold cgE; rw [if_pos hx]
  have he := fileE_is (xk := xk) (xd := xd) (nm := nm) (bs := bs) hl hc
  rw [hf] at he
  refine ⟨hd.trans he, fun h0 => by unfold doW; rw [if_neg h0], fun h0 => ?_⟩
  unfold doW
  rw [if_pos h0]
  unfold cgC
  rw [if_pos hx, fileC_is hl hc, hf]
  have hz := h0
  rw [hd, he] at hz
  have hb : bothE l [f] = 0 := by
    split at hz
    · rename_i q; exact absurd hz q
    · split at hz
      · cases hz
      · split at hz
        · cases hz
        · exact hz
  exact keep_is hok hl hc hb hs
theorem node_at {W : Wd} (hok : WdOk W) {k : Nat} (hk : k < W.nodes.length) : ∃ l c, W.nodes[k]? = some l ∧ W.clock[k]? = some c := by
  have h2 : k < W.clock.length := by rw [hok.cl]; exact hk
  exact ⟨W.nodes[k], W.clock[k], by simp [hk], by simp [h2]⟩
theorem step_any {w : World} {v : Value} {W : Wd} {x : Hp} {ab : Option Addr} {cb : Nat} (h : WIn w v W) (hx : HpAt w x ab cb) (hok : WdOk W) : Calls Tryz.prog 12 #[v, hpV x ab cb] w (DoA w (doE W x) (doW W x)) := by
  obtain ⟨xk, xn, xd, nm, bs⟩ := x
  have hd : doE W ⟨xk, xn, xd, nm, bs⟩ = cgE W ⟨xk, xn, xd, nm, bs⟩ := by unfold doE; rw [errWd_zero.2 hok]; rfl
  have hbad : ∀ E : Nat, E ≠ 0 → doE W ⟨xk, xn, xd, nm, bs⟩ = E → doW W ⟨xk, xn, xd, nm, bs⟩ = noW := fun E h0 e => by unfold doW; rw [if_neg (by rw [e]; exact h0)]
  have hgood : doE W ⟨xk, xn, xd, nm, bs⟩ = 0 → doW W ⟨xk, xn, xd, nm, bs⟩ = (cgC W ⟨xk, xn, xd, nm, bs⟩).act W := fun e => by unfold doW; rw [if_pos e]
  by_cases hk : xk < 1 ∨ 6 < xk
  · have e : doE W ⟨xk, xn, xd, nm, bs⟩ = 3 := by rw [hd]; unfold cgE; simp only; rw [if_neg (by omega), if_neg (by omega), if_neg (by omega)]
    rw [hbad 3 (by decide) e, e]
    exact step_bad xk xn xd nm bs h hx hok hk
  · have hks : xk = 1 ∨ xk = 2 ∨ xk = 3 ∨ xk = 4 ∨ xk = 5 ∨ xk = 6 := by omega
    rcases hks with rfl | rfl | rfl | rfl | rfl | rfl
    · cases hp : isP xn W.nodes.length with
      | false =>
        have e : doE W ⟨1, xn, xd, nm, bs⟩ = 5 := by rw [hd]; unfold cgE; rw [if_pos (.inl rfl)]; unfold fileE; rw [if_pos hp]
        rw [hbad 5 (by decide) e, e]
        exact step_file_who 1 xn xd nm bs h hx hok (by decide) (by decide) hp
      | true =>
        obtain ⟨k, rfl, hkn⟩ := isP_cast hp
        obtain ⟨l, c, hl, hc⟩ := node_at hok hkn
        have hnd := hok.nd k l c hl hc
        obtain ⟨f1, f2, f3⟩ := file_cases (xk := 1) (xd := xd) (nm := nm) (bs := bs) hok hl hc ⟨nm, bs, c + 1, (k : Int), false⟩ rfl rfl (.inl rfl)
        refine step_put k xd nm bs h hx hok l c hl hc _ _ ?_
        by_cases hn : errN nm = 0
        · rw [if_neg (by simp [hn])] at f1
          by_cases hcm : c = 1000000
          · rw [if_pos hcm] at f1
            exact .inr (.inl ⟨hn, hcm, f1, f2 (by rw [f1]; decide)⟩)
          · rw [if_neg hcm, if_neg (by simp)] at f1
            refine .inr (.inr ⟨hn, hcm, ?_⟩)
            by_cases hb : 3000 < bs.length
            · have e2 := one_many' (c := c + 1) (k := k) (g := false) hn hb
              rw [bothE_second hnd.m (by rw [e2]; decide), e2] at f1
              exact .inl ⟨hb, f1, f2 (by rw [f1]; decide)⟩
            · have e2 := one_err (nm := nm) (bs := bs) (c := c + 1) (k := k) (g := false) hn (by omega) (by have := hnd.lo; omega) (by have := hnd.hi; omega) (by have := hok.hi; omega) (fun e => by cases e)
              have hbi := (both_is hnd.m e2).1
              by_cases h12 : 12 < (tog l [⟨nm, bs, c + 1, (k : Int), false⟩]).length
              · rw [hbi, if_pos h12] at f1
                exact .inr (.inl ⟨by omega, h12, f1, f2 (by rw [f1]; decide)⟩)
              · rw [hbi, if_neg h12] at f1
                exact .inr (.inr ⟨by omega, by omega, f1, f3 f1⟩)
        · rw [if_pos hn] at f1
          exact .inl ⟨hn, f1, f2 (by rw [f1]; exact hn)⟩
    · cases hp : isP xn W.nodes.length with
      | false =>
        have e : doE W ⟨2, xn, xd, nm, bs⟩ = 5 := by rw [hd]; unfold cgE; rw [if_pos (.inr rfl)]; unfold fileE; rw [if_pos hp]
        rw [hbad 5 (by decide) e, e]
        exact step_file_who 2 xn xd nm bs h hx hok (by decide) (by decide) hp
      | true =>
        obtain ⟨k, rfl, hkn⟩ := isP_cast hp
        obtain ⟨l, c, hl, hc⟩ := node_at hok hkn
        have hnd := hok.nd k l c hl hc
        obtain ⟨f1, f2, f3⟩ := file_cases (xk := 2) (xd := xd) (nm := nm) (bs := bs) hok hl hc ⟨nm, [], c + 1, (k : Int), true⟩ rfl rfl (.inr rfl)
        refine step_take k xd nm bs h hx hok l c hl hc _ _ ?_
        by_cases hn : errN nm = 0
        · rw [if_neg (by simp [hn])] at f1
          by_cases hcm : c = 1000000
          · rw [if_pos hcm] at f1
            exact .inr (.inl ⟨hn, hcm, f1, f2 (by rw [f1]; decide)⟩)
          · rw [if_neg hcm] at f1
            refine .inr (.inr ⟨hn, hcm, ?_⟩)
            cases hb : hasF l nm with
            | false =>
              rw [if_pos ⟨rfl, hb⟩] at f1
              exact .inl ⟨rfl, f1, f2 (by rw [f1]; decide)⟩
            | true =>
              rw [if_neg (by rw [hb]; simp)] at f1
              have e2 := one_err (nm := nm) (bs := []) (c := c + 1) (k := k) (g := true) hn (by simp) (by have := hnd.lo; omega) (by have := hnd.hi; omega) (by have := hok.hi; omega) (fun _ => rfl)
              have hbi := (both_is hnd.m e2).1
              by_cases h12 : 12 < (tog l [⟨nm, [], c + 1, (k : Int), true⟩]).length
              · rw [hbi, if_pos h12] at f1
                exact .inr (.inl ⟨rfl, h12, f1, f2 (by rw [f1]; decide)⟩)
              · rw [hbi, if_neg h12] at f1
                exact .inr (.inr ⟨rfl, by omega, f1, f3 f1⟩)
        · rw [if_pos hn] at f1
          exact .inl ⟨hn, f1, f2 (by rw [f1]; exact hn)⟩
    · have hs : doE W ⟨3, xn, xd, nm, bs⟩ = sendE W ⟨3, xn, xd, nm, bs⟩ := by rw [hd]; unfold cgE; rw [if_neg (by simp), if_pos rfl]
      by_cases hp : isP xn W.nodes.length = false ∨ isP xd W.nodes.length = false
      · have e : doE W ⟨3, xn, xd, nm, bs⟩ = 5 := by rw [hs]; unfold sendE; rw [if_pos hp]
        rw [hbad 5 (by decide) e, e]
        exact step_send_who xn xd nm bs h hx hok hp
      · have hp1 : isP xn W.nodes.length = true := by cases q : isP xn W.nodes.length; exact absurd (.inl q) hp; rfl
        have hp2 : isP xd W.nodes.length = true := by cases q : isP xd W.nodes.length; exact absurd (.inr q) hp; rfl
        have e0 : doE W ⟨3, xn, xd, nm, bs⟩ = passE W := by rw [hs]; unfold sendE; rw [if_neg hp]
        obtain ⟨k, rfl, hkn⟩ := isP_cast hp1
        obtain ⟨l, c, hl, hc⟩ := node_at hok hkn
        by_cases h20 : W.net.length = 20
        · have e : doE W ⟨3, (k : Int), xd, nm, bs⟩ = 11 := by rw [e0]; unfold passE; rw [if_pos (by omega)]
          rw [hbad 11 (by decide) e, e]
          exact step_send_full k xd nm bs h hx hok hkn hp2 h20
        · have e : doE W ⟨3, (k : Int), xd, nm, bs⟩ = 0 := by rw [e0]; unfold passE; rw [if_neg (by have := hok.nt; omega)]
          have ec : (cgC W ⟨3, (k : Int), xd, nm, bs⟩).act W = passW ⟨xd, l⟩ W := by
            unfold cgC
            rw [if_neg (by simp), if_pos rfl]
            unfold sendC
            simp only [Int.toNat_natCast]
            rw [getD_of hl]
            rfl
          rw [hgood e, e, ec]
          exact step_send_go k xd nm bs h hx hok hkn hp2 h20 l hl
    · have hs : doE W ⟨4, xn, xd, nm, bs⟩ = netE W ⟨4, xn, xd, nm, bs⟩ := by rw [hd]; unfold cgE; rw [if_neg (by simp), if_neg (by simp), if_pos (.inl rfl)]
      cases hp : isP xd W.net.length with
      | false =>
        have e : doE W ⟨4, xn, xd, nm, bs⟩ = 5 := by rw [hs]; unfold netE; rw [if_pos hp]
        rw [hbad 5 (by decide) e, e]
        exact step_net_who 4 xn xd nm bs h hx hok (by decide) (by decide) hp
      | true =>
        obtain ⟨p, rfl, hpn⟩ := isP_cast hp
        obtain ⟨m, hm⟩ := get_some (l := W.net) hpn
        have hmok := hok.ms m (List.mem_of_getElem? hm)
        obtain ⟨d, hd1, hd2⟩ := isP_cast (isP_true.2 ⟨hmok.lo, hmok.hi⟩)
        obtain ⟨l, c, hl, hc⟩ := node_at hok hd2
        obtain ⟨md, fl⟩ := m
        simp only at hd1 hmok
        subst hd1
        have hmsg : msgAt W ((p : Nat) : Int) = ⟨(d : Int), fl⟩ := by unfold msgAt; rw [Int.toNat_natCast, getD_of hm]
        have hnd := hok.nd d l c hl hc
        have e0 : doE W ⟨4, xn, (p : Int), nm, bs⟩ = bothE l fl := by
          rw [hs]; unfold netE; rw [if_neg (by rw [hp]; simp), if_neg (by simp), if_neg (by simp)]
          simp only [hmsg, Int.toNat_natCast]
          rw [getD_of hl]
        have hbi := both_is hnd.m hmok.fl
        refine step_arr p d xn nm bs h hx hok hpn fl l c hm hl hc _ _ ?_
        by_cases h12 : 12 < (tog l fl).length
        · have e : doE W ⟨4, xn, (p : Int), nm, bs⟩ = 11 := by rw [e0, hbi.1, if_pos h12]
          exact .inl ⟨h12, e, hbad 11 (by decide) e⟩
        · have hb0 : bothE l fl = 0 := by rw [hbi.1, if_neg h12]
          have e : doE W ⟨4, xn, (p : Int), nm, bs⟩ = 0 := by rw [e0, hb0]
          refine .inr ⟨by omega, e, ?_⟩
          rw [hgood e]
          unfold cgC
          rw [if_neg (by simp), if_neg (by simp)]
          unfold netC
          rw [if_neg (by simp), if_neg (by simp)]
          simp only [hmsg, Int.toNat_natCast]
          rw [getD_of hl]
          show dropW p (keepW d (bothL l fl) W) = _
          unfold dropW keepW
          rw [getD_of hc, rsd_both hb0 hnd.st, bothL_ok hb0]
    · have hs : doE W ⟨5, xn, xd, nm, bs⟩ = netE W ⟨5, xn, xd, nm, bs⟩ := by rw [hd]; unfold cgE; rw [if_neg (by simp), if_neg (by simp), if_pos (.inr (.inl rfl))]
      cases hp : isP xd W.net.length with
      | false =>
        have e : doE W ⟨5, xn, xd, nm, bs⟩ = 5 := by rw [hs]; unfold netE; rw [if_pos hp]
        rw [hbad 5 (by decide) e, e]
        exact step_net_who 5 xn xd nm bs h hx hok (by decide) (by decide) hp
      | true =>
        obtain ⟨p, rfl, hpn⟩ := isP_cast hp
        have e : doE W ⟨5, xn, (p : Int), nm, bs⟩ = 0 := by rw [hs]; unfold netE; rw [if_neg (by rw [hp]; simp), if_pos rfl]
        have ec : (cgC W ⟨5, xn, (p : Int), nm, bs⟩).act W = dropW p W := by
          unfold cgC
          rw [if_neg (by simp), if_neg (by simp)]
          unfold netC
          rw [if_pos rfl]
          rfl
        rw [hgood e, e, ec]
        exact step_lose p xn nm bs h hx hok hpn
    · have hs : doE W ⟨6, xn, xd, nm, bs⟩ = netE W ⟨6, xn, xd, nm, bs⟩ := by rw [hd]; unfold cgE; rw [if_neg (by simp), if_neg (by simp), if_pos (.inr (.inr rfl))]
      cases hp : isP xd W.net.length with
      | false =>
        have e : doE W ⟨6, xn, xd, nm, bs⟩ = 5 := by rw [hs]; unfold netE; rw [if_pos hp]
        rw [hbad 5 (by decide) e, e]
        exact step_net_who 6 xn xd nm bs h hx hok (by decide) (by decide) hp
      | true =>
        obtain ⟨p, rfl, hpn⟩ := isP_cast hp
        obtain ⟨m, hm⟩ := get_some (l := W.net) hpn
        have e0 : doE W ⟨6, xn, (p : Int), nm, bs⟩ = passE W := by rw [hs]; unfold netE; rw [if_neg (by rw [hp]; simp), if_neg (by simp), if_pos rfl]
        by_cases h20 : W.net.length = 20
        · have e : doE W ⟨6, xn, (p : Int), nm, bs⟩ = 11 := by rw [e0]; unfold passE; rw [if_pos (by omega)]
          rw [hbad 11 (by decide) e, e]
          exact step_dbl_full p xn nm bs h hx hok hpn h20
        · have e : doE W ⟨6, xn, (p : Int), nm, bs⟩ = 0 := by rw [e0]; unfold passE; rw [if_neg (by have := hok.nt; omega)]
          have ec : (cgC W ⟨6, xn, (p : Int), nm, bs⟩).act W = passW m W := by
            unfold cgC
            rw [if_neg (by simp), if_neg (by simp)]
            unfold netC
            rw [if_neg (by simp), if_pos rfl]
            unfold msgAt
            simp only [Int.toNat_natCast]
            rw [getD_of hm]
            rfl
          rw [hgood e, e, ec]
          exact step_dbl p xn nm bs h hx hok hpn h20 m hm
end Go.Proofs.YtmgmganbamjnmaaGreatDoor
