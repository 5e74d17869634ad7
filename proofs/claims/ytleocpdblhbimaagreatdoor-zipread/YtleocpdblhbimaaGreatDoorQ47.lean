import Derived.Test.YtleocpdblhbimaaGreatDoorQ46
import Derived.Deep.RegionHeld3
set_option linter.unusedSimpArgs false
set_option linter.unusedVariables false
set_option maxRecDepth 100000
namespace Go.Proofs.YtleocpdblhbimaaGreatDoor
open Go.RowKit
def N1 (No:Nat->Prop)(N:Nat):Nat->Prop:=fun g=>No g\/N<=g
theorem UIs.newer {No:Nat->Prop}{B b N:Nat}{w w':World}{row:List Bool}{u:US}(E:UIs (N1 No N) B w b row u)(G:Below N w w'):UIs (N1 No N) B w' b row u:=by obtain⟨ov,kv,U,M,T,O,I,H⟩:=E.ex;(have F:∀g,¬N1 No N g->g<N:=fun g Y=>by by_cases e:g<N;exact e;exact absurd (.inr om) Y);exact⟨E.base,E.no,ov,kv,(G.block b (F b E.no)).trans U,Au M (fun g e=>G.block g (F g (I g e))),Au T (fun g e=>G.block g (F g (H g e))),O,I,H⟩
theorem UUp.newer {No:Nat->Prop}{B b N:Nat}{F w w':World}{row:List Bool}{u:US}(E:UUp (N1 No N) B F b row u w)(I:F.heap.size<=N)(G:Below N w w'):UUp (N1 No N) B F b row u w':=by(have hb:b<N:=by by_cases e:b<N;exact e;exact absurd (.inr om) E.is.no);have:=E.is.base;exact⟨E.is.newer G,E.below.trans (G.mono om),fun g H hn=>(G.block g om).trans (E.kp g H hn)⟩
theorem UIs.opened {No:Nat->Prop}{B b:Nat}{w:World}{row:List Bool}{u:US}(E:UIs No B w b row u):UIs (N1 No w.heap.size) B w b row u:=
 E.more (fun e=>by rcases e with e|e;exact E.no e;have:=E.lt;omega) (fun g F=>F)
theorem UUp.closed {No:Nat->Prop}{B b N:Nat}{G w:World}{row:List Bool}{u:US}(E:UUp (N1 No N) B G b row u w):UUp No B G b row u w:=
 ⟨E.is.more (fun e=>E.is.no (.inl e)) (fun g F=>.inl (.inl F)),E.below,E.kp.weaken (fun g F=>.inl F)⟩
theorem UUp.own {No:Nat->Prop}{B b N e G n:Nat}{w w':World}{row:List Bool}{u:US}{v:Value}{xs:List Value}(H:UUp (N1 No N) B w b row u w')(E:w.ownsRow N e G v n xs):w'.ownsRow N e G v n xs:=
 Au E (fun g F=>H.kp g (E.lt g F).2 (.inr (E.lt g F).1))
theorem UUp.rows {No:Nat->Prop}{B b N:Nat}{w w':World}{row:List Bool}{u:US}{a:Option Addr}{xs:List Int}(T:UUp (N1 No N) B w b row u w')(I:RowIn .i64 w a xs)(M:∀g o,a=some ⟨g,o,none⟩->N<=g):RowIn .i64 w' a xs:=by rcases I with E|⟨g,o,E,F,H⟩;exact .inl E;have G:=T.kp g F (.inr (M g o E));exact .inr ⟨g,o,E,(VK.1 (G.trans (Array.getElem?_eq_getElem F))).1,fun j O=>by rw[World.cell?_of_block G];exact H j O⟩
theorem UUp.book {No:Nat->Prop}{B b N E I:Nat}{w w':World}{row:List Bool}{u:US}{H:DataW Unit}(Y:UUp (N1 No N) B w b row u w')(G:Em w E I H)(M:N<=E):Em w' E I H:=by have O:=G.lt;obtain⟨es,clock,hb,F,T,U⟩:=G;exact⟨es,clock,(Y.kp E O (.inr M)).trans hb,F,T,U⟩
theorem Wc {w w':World}{B E H:Nat}{G:DataW Unit}(I:Em w E H G)(O:Below B w w')(M:E<B):Em w' E H G:=by obtain⟨es,clock,hb,F,T,U⟩:=I;exact⟨es,clock,(O.block E M).trans hb,F,T,U⟩
theorem Z0k {j:Nat}(E:j<19):ord19.getD j 0<19:=by have:∀j,j<19->ord19.getD j 0<19:=od;exact this j E
def Z8l:Value->Nat
 | .slice _ n _=>n
 |_=>0
theorem Z45 {w:World}{B e G n:Nat}{v:Value}{xs:List Value}(H:w.ownsRow B e G v n xs):Z8l v=n:=by(rcases H.2 with ⟨E,F⟩|⟨g,cap,cur,E,_⟩);rw[E,F];rfl;rw[E];rfl
theorem MT {w:World}{B e G n:Nat}{v:Value}{xs:List Value}(H:w.ownsRow B e G v n xs):∃a c,v=.slice a n c:=by(rcases H.2 with ⟨E,F⟩|⟨g,cap,cur,E,_⟩);exact⟨none,0,by rw[E,F]⟩;exact⟨_,_,E⟩
theorem FO {w:World}{B e T n F O:Nat}{v:Value}{xs:List Value}{I:DataW Unit}(M:w.ownsRow B e T v n xs)(H:Em w F O I):some F≠v.ownBlock:=by intro e;obtain⟨es,clock,hb,_⟩:=H;(rcases M.2 with ⟨E,_⟩|⟨g,cap,cur,E,_,G,_⟩);(. rw[E]at e;cases e);. rw[E]at e;have:F=g:=VM e;subst this;rw[hb]at G;cases G
theorem Z6z (n:Nat)(x:Int):iv (List.replicate n x)=List.replicate n (.int .i64 x):=by simp[iv]
def Z2k:Array Value:= #[.int .i64 16,.int .i64 17,.int .i64 18,.int .i64 0,.int .i64 8,.int .i64 7,.int .i64 9,.int .i64 6,.int .i64 10,.int .i64 5,.int .i64 11,.int .i64 4,.int .i64 12,.int .i64 3,.int .i64 13,.int .i64 2,.int .i64 14,.int .i64 1,.int .i64 15]
theorem Z48:Z2k=(ord19.map fun n=>Value.int .i64 ((n:Nat):Int)).toArray:=rfl
theorem Z49 {j:Nat}(E:j<19):Z2k[j]? =some (.int .i64 ((ord19.getD j 0:Nat):Int)):=by have hl:j<ord19.length:=E;rw[Z48];simp[List.getD,hl]
theorem Z0i {j M:Nat}(F:j<M)(E:M<=19):(ord19.take M).drop j=ord19.getD j 0::(ord19.take M).drop (j+1):=by have hl:ord19.length=19:=rfl;rw[WS (by rw[VL];omega)];congr 1;rw[YN,List.getD,VP om];rfl
end Go.Proofs.YtleocpdblhbimaaGreatDoor
