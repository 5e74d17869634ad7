import Derived.Test.YtleocpdblhbimaaGreatDoorQ43
import Derived.Laws.Externs
import Derived.BigCall
import Derived.BigGuard
set_option linter.unusedSimpArgs false
set_option linter.unusedVariables false
set_option maxHeartbeats 1000000
namespace Go.Proofs.YtleocpdblhbimaaGreatDoor
open Go.RowKit Go.Lib
theorem Z71:(Tryz.prog.info? 228).map (·.desc)=some (.slice 230):=by kernel_rfl
theorem Z72:(Tryz.prog.info? 230).map (fun i=>(i.hasPointers,i.bytes))=some (false,16):=by kernel_rfl
theorem Z6x (w:World):(Extern.Rtype.kind 230).run Tryz.prog w=.ok 25 w:=by kernel_rfl
theorem Z6f:Tryz.prog.packed 228=false:=by kernel_rfl
def stW (G:Nat)(p:Option Addr)(n c:Nat)(w:World):World:=
 (w.alloc (.cells #[.slice p n c] 228)).alloc (.cells #[.pointer (some ⟨G,228,none⟩),.pointer (some ⟨w.heap.size,0,none⟩),.int .u64 151] 272)
set_option maxRecDepth 100000 in
theorem Gv (Y:Nat)(I: .pointer (some ⟨Y,228,none⟩)=typeHandle Tryz.prog 228)(F:TypeInfo)(M:Tryz.prog.info? 230=some F)(p:Option Addr)(n c f:Nat)(O:Tryz.prog.funcs.findIdx? (·.name== "internal/reflectlite" ++ ".Swapper$" ++toString (swapperK n F 25))=some f)(B:Array Value)(T:B=if swapperK n F 25<=2 then #[]else #[.slice p n c,typeHandle Tryz.prog 230])
 (Z:Fn) (U lb:Array Value) (w:World) (R:World->Prop) (aa:Hid (Calls Tryz.prog 197 #[.agg #[.func Z U lb,.func (.func f) #[] B],.int .i64 n] (stW Y p n c w) fun e w'=>e=.returned (.tuple #[])/\R w')):
 Calls Tryz.prog 162 #[.iface 228 (.slice p n c),.func Z U lb] w fun e w'=>e=.returned (.tuple #[])/\R w':=by
 obtain⟨i,hi,E⟩:=XF.1 Z71;have H:=run_valueOf_slice (P:=Tryz.prog) 228 230 i hi E p n c w;have G:=fun w=>run_swapper_slice (P:=Tryz.prog) 228 230 i F hi E M 25 Z6x p n c f O w
 have hl:=fun a w ac=>run_valueLen_slice (P:=Tryz.prog) 228 230 i hi E Z6f a p n c w ac
 rw[<-T]at G;rw[<-I]at H hl;have ah:=Ab H;have ae:=Ab G;have af:=Ab hl;clear T hi E M O H G hl I;go_enter Tryz.func162,Tryz.ntmps162
 go_wp2
 rw[run_callFunc_extern Tryz.func195 (by kernel_rfl) (by kernel_rfl) (by kernel_rfl) (e:=fun args=>Extern.ReflectliteValue.unpack (args.getD 0 (.tuple #[]))) (by kernel_rfl),
  show Sem.run Tryz.prog ((fun args:Array Value=>Extern.ReflectliteValue.unpack (args.getD 0 (.tuple #[]))) #[.iface 228 (.slice p n c)]) w=_ from Aa ah]
 simp only[Result.andThen];rw[Oper.upon_value];go_wp2;rw[run_callFunc_extern Tryz.func196 (by kernel_rfl) (by kernel_rfl) (by kernel_rfl) (e:=Extern.ReflectliteSwapper.swapper "internal/reflectlite" (Extern.ReflectliteValue.valueError "Swapper")) (by kernel_rfl),Aa ae];simp only[Result.andThen];rw[Oper.upon_value];go_wp2
 rw[run_callFunc_extern Tryz.func198 (by kernel_rfl) (by kernel_rfl) (by kernel_rfl) (e:=Extern.ReflectliteValue.method (Extern.ReflectliteValue.valueError "reflectlite.Value.Len" 0) Extern.ReflectliteValue.len) (by kernel_rfl),
  Aa af _ _ (by simp)]
 simp only[Result.andThen];rw[Oper.upon_value];go_wp2_with (go_at_call 197;refine(Aa aa).mono ?_;rintro e w' ⟨rfl,ag⟩)
 go_end0
 exact⟨rfl,ag⟩
end Go.Proofs.YtleocpdblhbimaaGreatDoor
