/-
  The library's sort.SliceStable over the pairs that the document's own CodesOf sorts.
-/
import Derived.Test.YtmafecagcglaoaaSort5
import Derived.Laws.Externs
import Derived.BigCall
import Derived.BigGuard
namespace Go.Proofs.Ytmafecagcglaoaa
open Go.RowKit Go.Lib
set_option linter.unusedVariables false

theorem infoPs : (Try.prog.info? 80).map (·.desc) = some (.slice 82) := by kernel_rfl
theorem infoPl : (Try.prog.info? 82).map (fun i => (i.hasPointers, i.bytes)) = some (false, 16) := by kernel_rfl
theorem kindPl (w : World) : (Extern.Rtype.kind 82).run Try.prog w = .ok 25 w := by kernel_rfl
theorem packPs : Try.prog.packed 80 = false := by kernel_rfl

/-- the world in which stable_func is called: two new blocks -/
def stW (G : Nat) (p : Option Addr) (n c : Nat) (w : World) : World :=
  (w.alloc (.cells #[.slice p n c] 80)).alloc (.cells #[.pointer (some ⟨G, 80, none⟩), .pointer (some ⟨w.heap.size, 0, none⟩), .int .u64 151] 94)

set_option maxHeartbeats 1000000 in
set_option maxRecDepth 100000 in
theorem sliceStable_of (G : Nat) (hH : .pointer (some ⟨G, 80, none⟩) = typeHandle Try.prog 80) (ie : TypeInfo) (hie : Try.prog.info? 82 = some ie) (p : Option Addr) (n c f : Nat) (hf : Try.prog.funcs.findIdx? (·.name == "internal/reflectlite" ++ ".Swapper$" ++ toString (swapperK n ie 25)) = some f) (B : Array Value) (hB : B = if swapperK n ie 25 ≤ 2 then #[] else #[.slice p n c, typeHandle Try.prog 82])
    (lf : Fn) (la lb : Array Value) (w : World) (R : World → Prop) (hp : Hid (Calls Try.prog 55 #[.agg #[.func lf la lb, .func (.func f) #[] B], .int .i64 n] (stW G p n c w) fun e w' => e = .returned (.tuple #[]) ∧ R w')) :
    Calls Try.prog 45 #[.iface 80 (.slice p n c), .func lf la lb] w fun e w' => e = .returned (.tuple #[]) ∧ R w' := by
  obtain ⟨i, hi, hd⟩ := Option.map_eq_some_iff.1 infoPs
  have hv := run_valueOf_slice (P := Try.prog) 80 82 i hi hd p n c w
  have hs := fun w => run_swapper_slice (P := Try.prog) 80 82 i ie hi hd hie 25 kindPl p n c f hf w
  have hl := fun a w ha => run_valueLen_slice (P := Try.prog) 80 82 i hi hd packPs a p n c w ha
  rw [← hB] at hs
  rw [← hH] at hv hl
  have HV := hide hv
  have HSw := hide hs
  have HLn := hide hl
  clear hB hi hd hie hf hv hs hl hH
  go_enter Try.func45, Try.ntmps45
  go_wp2
  rw [run_callFunc_extern Try.func53 (by kernel_rfl) (by kernel_rfl) (by kernel_rfl) (e := fun args => Extern.ReflectliteValue.unpack (args.getD 0 (.tuple #[]))) (by kernel_rfl),
    show Sem.run Try.prog ((fun args : Array Value => Extern.ReflectliteValue.unpack (args.getD 0 (.tuple #[]))) #[.iface 80 (.slice p n c)]) w = _ from unhide HV]
  simp only [Result.andThen]
  rw [Oper.upon_value]
  go_wp2
  rw [run_callFunc_extern Try.func54 (by kernel_rfl) (by kernel_rfl) (by kernel_rfl) (e := Extern.ReflectliteSwapper.swapper "internal/reflectlite" (Extern.ReflectliteValue.valueError "Swapper")) (by kernel_rfl), unhide HSw]
  simp only [Result.andThen]
  rw [Oper.upon_value]
  go_wp2
  rw [run_callFunc_extern Try.func56 (by kernel_rfl) (by kernel_rfl) (by kernel_rfl) (e := Extern.ReflectliteValue.method (Extern.ReflectliteValue.valueError "reflectlite.Value.Len" 0) Extern.ReflectliteValue.len) (by kernel_rfl),
    unhide HLn _ _ (by simp)]
  simp only [Result.andThen]
  rw [Oper.upon_value]
  go_wp2_with (go_at_call 55; refine (unhide hp).mono ?_; rintro e w' ⟨rfl, hR⟩)
  go_end0
  exact ⟨rfl, hR⟩
end Go.Proofs.Ytmafecagcglaoaa
