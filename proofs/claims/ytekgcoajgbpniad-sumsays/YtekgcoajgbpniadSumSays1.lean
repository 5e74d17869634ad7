/-
  The law SumSays.
-/
import Derived.Test.YtekgcoajgbpniadSum3
import Derived.Test.YtekgcoajgbpniadSumRef
namespace Go.Proofs.Ytekgcoajgbpniad
open Go.RowKit
set_option linter.unusedVariables false
set_option maxRecDepth 100000

theorem sumSays_many (p : Nat) (a : Option Addr) (n cap : Nat) (w : World) (hn : 12000 < n) :
    Calls Try.prog 3 #[.int .u32 (p : Int), .slice a n cap] w fun e w' => e = .returned (.bool true) ∧ Below w.heap.size w w' := by
  have h : (12000 : Int) < (n : Int) := by omega
  go_enter Try.func3, Try.ntmps3
  go_wp2_with fail
  refine (crc_many p a n cap w hn).mono ?_
  rintro e w' ⟨rfl, rfl⟩
  go_wp2_with fail
  refine (adler_many a n cap w' hn).mono ?_
  rintro e w' ⟨rfl, rfl⟩
  go_wp2_with fail
  refine (summed_any w').mono ?_
  rintro e w1 ⟨rfl, hB⟩
  have HB := hide hB
  clear hB
  go_wp2_with fail
  refine (summed_any w1).mono ?_
  rintro e w2 ⟨rfl, hB2⟩
  have HB2 := hide ((unhide HB).trans (hB2.mono (unhide HB).size))
  clear hB2
  go_wp2
  go_ret
  exact ⟨rfl, unhide HB2⟩
theorem sumSays_few (p : Nat) (a : Option Addr) (n cap : Nat) (bs : List Nat) (w : World) (hl : bs.length = n) (hn : n ≤ 12000) (hp : p < 4294967296) (hby : BytesIn w a bs) (hv : ∀ j, bs.getD j 0 < 256) :
    Calls Try.prog 3 #[.int .u32 (p : Int), .slice a n cap] w fun e w' => e = .returned (.bool true) ∧ Below w.heap.size w w' := by
  have h : ¬ (12000 : Int) < (n : Int) := by omega
  have HBY := hide hby
  have HV := hide hv
  have HL := hide hl
  clear hby hv hl
  go_enter Try.func3, Try.ntmps3
  go_wp2_with fail
  refine (crc_ok p a n cap bs w (unhide HL) hn hp (unhide HBY) (unhide HV)).mono ?_
  rintro e w1 ⟨rfl, hB⟩
  have HB1 := hide hB
  clear hB
  go_wp2_with fail
  refine (adler_ok a n cap bs w1 (unhide HL) hn ((unhide HBY).below (unhide HB1) (Nat.le_refl _)) (unhide HV)).mono ?_
  rintro e w2 ⟨rfl, hB⟩
  have HB2 := hide ((unhide HB1).trans (hB.mono (unhide HB1).size))
  clear hB
  go_wp2_with fail
  refine (summed_any w2).mono ?_
  rintro e w3 ⟨rfl, hB⟩
  have HB3 := hide ((unhide HB2).trans (hB.mono (unhide HB2).size))
  clear hB
  go_wp2_with fail
  refine (crcOf_any p a n cap bs w3 (unhide HL) hn hp ((unhide HBY).below (unhide HB3) (Nat.le_refl _)) (unhide HV)).mono ?_
  rintro e w4 ⟨rfl, rfl⟩
  generalize crcN p bs = c
  go_wp2_with fail
  refine (adlerOf_any a n cap bs w4 (unhide HL) hn ((unhide HBY).below (unhide HB3) (Nat.le_refl _)) (unhide HV)).mono ?_
  rintro e w5 ⟨rfl, rfl⟩
  generalize adlN bs = d
  go_wp2
  go_ret
  exact ⟨rfl, unhide HB3⟩
end Go.Proofs.Ytekgcoajgbpniad
