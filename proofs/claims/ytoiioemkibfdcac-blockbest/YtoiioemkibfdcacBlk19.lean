/-
  One block of a part behind a row.
-/
import Derived.Test.YtoiioemkibfdcacBlk17
import Derived.Test.YtoiioemkibfdcacBlk18
namespace Go.Proofs.Ytoiioemkibfdcac
open Go.RowKit
set_option linter.unusedVariables false
set_option maxRecDepth 100000

theorem Rp.down {No No' : Nat → Prop} {B rb : Nat} {w w2 w3 w' : World} {S S' : List Bool} (h : Rp No B w rb S w2) (hB : Below w2.heap.size w2 w3) (hR : Rp No' B w3 rb S' w') (hle : ∀ g, No g → No' g) : Rp No B w rb S' w' := by
  have hz := h.below.size
  have hz3 := hB.size
  have hlt := h.is.lt
  have hba := h.is.base
  refine ⟨hR.is.grow (Below.refl _ _) (fun g e => .inl (hle g e)), h.below.trans ((hB.mono (by omega)).trans hR.below), fun g hg hn => ?_⟩
  rw [hR.kp g (by omega) (hle g hn), hB.block g (by omega)]
  exact h.kp g hg hn
theorem fix_len {bs : List Nat} (hx : ∀ j, bs.getD j 0 < 256) (hl : bs.length ≤ 3000) : (fixBits (toks bs)).length ≤ 15 + 60 * bs.length := by
  have hV := toks_vt hx hl
  have h1 := putIs_len fixA fixB fixA_good fixB_good (itsOf (toks bs)) (fix_has hV) (itsOf_vi hV)
  have h2 := itsOf_len (toks bs)
  have h3 := toks_len bs
  unfold fixBits
  omega
theorem stor_len (S : List Bool) (bs : List Nat) : (storB S bs).length ≤ S.length + 40 + 8 * bs.length := by
  have := freeN_lt S.length
  unfold storB
  simp only [List.length_append, List.length_replicate, numBits_length, rowB_length]
  omega

set_option maxHeartbeats 2000000 in
theorem putBlock_any (No : Nat → Prop) (B rb : Nat) (a : Option Addr) (n cap kind : Nat) (last : Bool) (bs : List Nat) (S : List Bool) (w : World) (h : RIs No B w rb S) (hl : bs.length = n) (hn : n ≤ 3000) (hcap : n ≤ cap) (hnil : a = none → cap = 0) (hk : kind ≤ 2) (hB : BytesIn w a bs) (hx : ∀ j, bs.getD j 0 < 256) (hTn : ∀ b o, a = some ⟨b, o, none⟩ → bs ≠ [] → No b) (hNo : ∀ g, w.heap.size ≤ g → ¬ No g) (hS2 : S.length + 60 * n ≤ 276000) :
    Calls Try.prog 26 #[.pointer (some ⟨rb, 0, none⟩), .slice a n cap, .int .i64 (kind : Int), .bool last] w fun e w' => e = .returned (.tuple #[]) ∧ (blkB S bs kind last).length ≤ S.length + 2400 + 60 * n ∧ Rp No B w rb (blkB S bs kind last) w' := by
  obtain ⟨S1, hS1⟩ : ∃ S1, S ++ [last] = S1 := ⟨_, rfl⟩
  obtain ⟨S2, hS2e⟩ : ∃ S2, S1 ++ numBits kind 2 = S2 := ⟨_, rfl⟩
  have l1 : S1.length = S.length + 1 := by rw [← hS1]; simp
  have l2 : S2.length = S.length + 3 := by rw [← hS2e, List.length_append, numBits_length, l1]
  have hblk : blkB S bs kind last = if kind = 0 then storB S2 bs else if kind = 1 then S2 ++ fixBits (toks bs) else S2 ++ dynB bs := by unfold blkB; rw [hS1, hS2e]
  have HP1 : Hid (Calls Try.prog 34 #[.pointer (some ⟨rb, 0, none⟩), .int .i64 (if last then 1 else 0), .int .i64 1] w fun e w' => e = .returned (.tuple #[]) ∧ Rp No B w rb S1 w') := by
    rw [← hS1]
    cases last with
    | true => exact rput_any No B rb 1 1 S w h (by decide) (by decide) (by omega) hNo
    | false => exact rput_any No B rb 0 1 S w h (by decide) (by decide) (by omega) hNo
  have HP2 : Hid (∀ w1, Rp No B w rb S1 w1 → Calls Try.prog 34 #[.pointer (some ⟨rb, 0, none⟩), .int .i64 (kind : Int), .int .i64 2] w1 fun e w' => e = .returned (.tuple #[]) ∧ Rp No B w rb S2 w') := fun w1 r => by
    refine (rput_any No B rb kind 2 S1 w1 r.is (by omega) (by decide) (by omega) (fun g hg => hNo g (by have := r.below.size; omega))).mono ?_
    rintro e w' ⟨rfl, r2⟩
    rw [hS2e] at r2
    exact ⟨rfl, r.trans r2⟩
  have HBY : Hid (∀ w2, Rp No B w rb S2 w2 → BytesIn w2 a bs) := fun w2 r => bytes_kp hB r.below.size (fun b o e hne hb => r.kp b hb (hTn b o e hne))
  have HST : Hid (∀ w2, Rp No B w rb S2 w2 → Calls Try.prog 35 #[.pointer (some ⟨rb, 0, none⟩), .slice a n cap] w2 fun e w' => e = .returned (.tuple #[]) ∧ Rp No B w rb (storB S2 bs) w') := fun w2 r => by
    refine (putStored_any No B rb a n cap bs S2 w2 r.is hl hn hnil (unhide HBY w2 r) hx hTn (fun g hg => hNo g (by have := r.below.size; omega)) (by omega)).mono ?_
    rintro e w' ⟨rfl, r2⟩
    exact ⟨rfl, r.trans r2⟩
  obtain ⟨L, hL⟩ : ∃ L, (toks bs).length = L := ⟨_, rfl⟩
  have hLn : L ≤ n := by have := toks_len bs; omega
  have HTK : Hid (∀ w2, Rp No B w rb S2 w2 → Calls Try.prog 8 #[.slice a n cap] w2 fun e w' => ∃ a1 c1, e = .returned (.tuple #[.slice a1 L c1, .int .i64 0]) ∧ TokIn w' a1 (toks bs) ∧ (∀ b o, a1 = some ⟨b, o, none⟩ → toks bs ≠ [] → w2.heap.size ≤ b ∧ b < w'.heap.size) ∧ Below w2.heap.size w2 w') := fun w2 r => tokens_new a n cap bs w2 hl hn hcap (unhide HBY w2 r) hx L (hide hL)
  have HNN : Hid (∀ (w2 w3 : World), Rp No B w rb S2 w2 → Below w2.heap.size w2 w3 → RIs (fun g => No g ∨ (w2.heap.size ≤ g ∧ g < w3.heap.size)) B w3 rb S2 ∧ ∀ g, w3.heap.size ≤ g → ¬ (No g ∨ (w2.heap.size ≤ g ∧ g < w3.heap.size))) := fun w2 w3 r hb => by
    refine ⟨r.is.grow hb (fun g e => by rcases e with e | e; exact .inl e; exact .inr e.1), fun g hg e => ?_⟩
    have := hb.size
    have := r.below.size
    rcases e with e | e
    · exact hNo g (by omega) e
    · omega
  have HFX : Hid (∀ (w2 w3 : World) (a1 : Option Addr) (c1 : Nat), Rp No B w rb S2 w2 → Below w2.heap.size w2 w3 → TokIn w3 a1 (toks bs) → (∀ b o, a1 = some ⟨b, o, none⟩ → toks bs ≠ [] → w2.heap.size ≤ b ∧ b < w3.heap.size) → Calls Try.prog 36 #[.pointer (some ⟨rb, 0, none⟩), .slice a1 L c1] w3 fun e w' => e = .returned (.tuple #[]) ∧ Rp No B w rb (S2 ++ fixBits (toks bs)) w') := fun w2 w3 a1 c1 r hb ht ha => by
    obtain ⟨q1, q2⟩ := unhide HNN w2 w3 r hb
    refine (putFixed_any _ B rb a1 L c1 (toks bs) S2 w3 q1 hL (by omega) (toks_vt hx (by omega)) ht (fun b o e hne => .inr (ha b o e hne)) q2 (by omega)).mono ?_
    rintro e w' ⟨rfl, r2⟩
    exact ⟨rfl, r.down hb r2 (fun g hg => .inl hg)⟩
  have HDN : Hid (∀ (w2 w3 : World) (a1 : Option Addr) (c1 : Nat), Rp No B w rb S2 w2 → Below w2.heap.size w2 w3 → TokIn w3 a1 (toks bs) → (∀ b o, a1 = some ⟨b, o, none⟩ → toks bs ≠ [] → w2.heap.size ≤ b ∧ b < w3.heap.size) → Calls Try.prog 37 #[.pointer (some ⟨rb, 0, none⟩), .slice a n cap, .slice a1 L c1] w3 fun e w' => e = .returned (.tuple #[]) ∧ (dynB bs).length ≤ 2300 + 60 * n ∧ Rp No B w rb (S2 ++ dynB bs) w') := fun w2 w3 a1 c1 r hb ht ha => by
    obtain ⟨q1, q2⟩ := unhide HNN w2 w3 r hb
    refine (putDynamic_any _ B rb a a1 n cap L c1 bs S2 w3 q1 hl hn ((unhide HBY w2 r).below hb (Nat.le_refl _)) hx ht hL hLn (fun b o e hne => .inr (ha b o e hne)) q2 (by omega)).mono ?_
    rintro e w' ⟨rfl, hp, r2⟩
    exact ⟨rfl, hp, r.down hb r2 (fun g hg => .inl hg)⟩
  have HLF := hide (fix_len hx (by omega : bs.length ≤ 3000))
  have HLS := hide (stor_len S2 bs)
  have HL := hide hl
  rw [hblk]
  obtain ⟨FB, hFB⟩ : ∃ FB, fixBits (toks bs) = FB := ⟨_, rfl⟩
  obtain ⟨DB, hDB⟩ : ∃ DB, dynB bs = DB := ⟨_, rfl⟩
  obtain ⟨SB, hSB⟩ : ∃ SB, storB S2 bs = SB := ⟨_, rfl⟩
  rw [hFB] at HFX HLF ⊢
  rw [hDB] at HDN ⊢
  rw [hSB] at HST HLS ⊢
  clear hblk hB hTn hNo hnil h hx HNN HBY hl hFB hDB hSB hS1 hS2e
  have hkk : kind = 0 ∨ kind = 1 ∨ kind = 2 := by omega
  go_enter Try.func26, Try.ntmps26
  go_upto_if 10 with (fail)
  go_cut [] (fun wc => Hid (Rp No B w rb S1 wc))
  case first =>
    cases last with
    | true =>
      go_wp2_with fail
      refine (unhide HP1).mono ?_
      rintro e w1 ⟨rfl, r⟩
      have HR := hide r
      clear r
      go_wp2
      go_meet
      exact HR
    | false =>
      go_wp2_with fail
      refine (unhide HP1).mono ?_
      rintro e w1 ⟨rfl, r⟩
      have HR := hide r
      clear r
      go_wp2
      go_meet
      exact HR
  case rest =>
    have HR1 := hcut
    clear hcut
    go_wp2_with fail
    refine (unhide HP2 wc (unhide HR1)).mono ?_
    rintro e w2 ⟨rfl, r2⟩
    have HR2 := hide r2
    clear r2 HP1 HP2
    rcases hkk with rfl | rfl | rfl
    · go_wp2_with fail
      refine (unhide HST w2 (unhide HR2)).mono ?_
      rintro e w3 ⟨rfl, r3⟩
      have HR3 := hide r3
      clear r3
      go_wp2
      refine bodyPost_ret (results_none rfl _ _ _) rfl ⟨rfl, ?_⟩
      exact ⟨by have := unhide HLS; rw [unhide HL] at this; omega, unhide HR3⟩
    · go_wp2_with fail
      refine (unhide HTK w2 (unhide HR2)).mono ?_
      rintro e w3 ⟨a1, c1, rfl, ht, ha, hb⟩
      have HC := hide (unhide HFX w2 w3 a1 c1 (unhide HR2) hb ht ha)
      clear ht ha hb
      go_wp2_with fail
      refine (unhide HC).mono ?_
      rintro e w4 ⟨rfl, r4⟩
      have HR4 := hide r4
      clear r4
      go_wp2
      go_end0
      refine ⟨rfl, ?_⟩
      exact ⟨by have := unhide HLF; rw [unhide HL] at this; omega, unhide HR4⟩
    · go_wp2_with fail
      refine (unhide HTK w2 (unhide HR2)).mono ?_
      rintro e w3 ⟨a1, c1, rfl, ht, ha, hb⟩
      have HC := hide (unhide HDN w2 w3 a1 c1 (unhide HR2) hb ht ha)
      clear ht ha hb
      go_wp2_with fail
      refine (unhide HC).mono ?_
      rintro e w4 ⟨rfl, hp, r4⟩
      have HR4 := hide (And.intro hp r4)
      clear r4 hp
      go_wp2
      go_end0
      refine ⟨rfl, ?_⟩
      exact ⟨by have := (unhide HR4).1; omega, (unhide HR4).2⟩
end Go.Proofs.Ytoiioemkibfdcac
