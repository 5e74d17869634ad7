import Derived.Test.YtleocpdblhbimaaGreatDoorQ43
import Derived.Laws.Externs
import Derived.BigCall
import Derived.BigGuard
set_option linter.unusedSimpArgs false
set_option linter.unusedVariables false
set_option maxHeartbeats 1000000
namespace Go.Proofs.YtleocpdblhbimaaGreatDoor
open Go.RowKit Go.Lib
theorem Z71:(Tryz.prog.info? 228).map (·.desc)=some (.slice 230):=oR
theorem Z72:(Tryz.prog.info? 230).map (fun i=>(i.hasPointers,i.bytes))=some (false,16):=oR
theorem Z6x (w:World):(Extern.Rtype.kind 230).run Tryz.prog w=.ok 25 w:=oR
theorem Z6f:Tryz.prog.packed 228=false:=oR
def stW (G:Nat)(p:Option Addr)(n c:Nat)(w:World):World:=
 (w.alloc (.cells #[.slice p n c] 228)).alloc (.cells #[.pointer (some ⟨G,228,none⟩),.pointer (some ⟨w.heap.size,0,none⟩),.int .u64 151] 272)
set_option maxRecDepth 100000 in
theorem Gv (I:Nat)(U: .pointer (some ⟨I,228,none⟩)=typeHandle Tryz.prog 228)(E:TypeInfo)(O:Tryz.prog.info? 230=some E)(p:Option Addr)(n c f:Nat)(Z:Tryz.prog.funcs.findIdx? (·.name== "internal/reflectlite" ++ ".Swapper$" ++toString (swapperK n E 25))=some f)(B:Array Value)(T:B=if swapperK n E 25<=2 then #[]else #[.slice p n c,typeHandle Tryz.prog 230]) (Y:Fn) (M lb:Array Value) (w:World) (R:World->Prop) (aa:Hid (Calls Tryz.prog 197 #[.agg #[.func Y M lb,.func (.func f) #[] B],.int .i64 n] (stW I p n c w) fun e w'=>e=.returned (.tuple #[])/\R w')):Calls Tryz.prog 162 #[.iface 228 (.slice p n c),.func Y M lb] w fun e w'=>e=.returned (.tuple #[])/\R w':=by
 obtain⟨i,hi,F⟩:=XF.1 Z71;have G:=run_valueOf_slice (P:=Tryz.prog) 228 230 i hi F p n c w;have H:=fun w=>run_swapper_slice (P:=Tryz.prog) 228 230 i E hi F O 25 Z6x p n c f Z w;have hl:=fun a w af=>run_valueLen_slice (P:=Tryz.prog) 228 230 i hi F Z6f a p n c w af;rw[<-T]at H;rw[<-U]at G hl;have ag:=Ab G;have ae:=Ab H;have ac:=Ab hl;clear T hi F O Z G H hl U;go_enter Tryz.func162,Tryz.ntmps162;go_wp2
 rw[run_callFunc_extern Tryz.func195 oR oR oR (e:=fun args=>Extern.ReflectliteValue.unpack (args.getD 0 (.tuple #[]))) oR,
  show Sem.run Tryz.prog ((fun args:Array Value=>Extern.ReflectliteValue.unpack (args.getD 0 (.tuple #[]))) #[.iface 228 (.slice p n c)]) w=_ from Aa ag]
 simp only[Result.andThen];rw[Oper.upon_value];go_wp2;rw[run_callFunc_extern Tryz.func196 oR oR oR (e:=Extern.ReflectliteSwapper.swapper "internal/reflectlite" (Extern.ReflectliteValue.valueError "Swapper")) oR,Aa ae];simp only[Result.andThen];rw[Oper.upon_value];go_wp2
 rw[run_callFunc_extern Tryz.func198 oR oR oR (e:=Extern.ReflectliteValue.method (Extern.ReflectliteValue.valueError "reflectlite.Value.Len" 0) Extern.ReflectliteValue.len) oR,
  Aa ac _ _ oS]
 simp only[Result.andThen];rw[Oper.upon_value];go_wp2_with (go_at_call 197;refine(Aa aa).mono ?_;rintro e w' ⟨rfl,ah⟩);go_end0;exact⟨rfl,ah⟩
end Go.Proofs.YtleocpdblhbimaaGreatDoor
