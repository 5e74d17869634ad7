import Derived.Test.YtleocpdblhbimaaGreatDoorQ46
import Derived.Deep.RegionHeld3
set_option linter.unusedSimpArgs false
set_option linter.unusedVariables false
set_option maxRecDepth 100000
namespace Go.Proofs.YtleocpdblhbimaaGreatDoor
open Go.RowKit
def N1 (No:Nat->Prop)(N:Nat):Nat->Prop:=fun g=>No g\/N<=g
theorem UIs.newer {No:Nat->Prop}{B b N:Nat}{w w':World}{row:List Bool}{u:US}(E:UIs (N1 No N) B w b row u)(F:Below N w w'):UIs (N1 No N) B w' b row u:=by
 obtain⟨ov,kv,O,M,Y,T,H,I⟩:=E.ex
 have G:∀g,¬N1 No N g->g<N:=fun g U=>by
  by_cases e:g<N
  . exact e
  . exact absurd (.inr (by omega)) U
 exact⟨E.base,E.no,ov,kv,(F.block b (G b E.no)).trans O,Au M (fun g e=>F.block g (G g (H g e))),Au Y (fun g e=>F.block g (G g (I g e))),T,H,I⟩
theorem UUp.newer {No:Nat->Prop}{B b N:Nat}{G w w':World}{row:List Bool}{u:US}(E:UUp (N1 No N) B G b row u w)(I:G.heap.size<=N)(F:Below N w w'):UUp (N1 No N) B G b row u w':=by
 have hb:b<N:=by
  by_cases e:b<N
  . exact e
  . exact absurd (.inr (by omega)) E.is.no
 have:=E.is.base
 exact⟨E.is.newer F,E.below.trans (F.mono (by omega)),fun g H hn=>(F.block g (by omega)).trans (E.kp g H hn)⟩
theorem UIs.opened {No:Nat->Prop}{B b:Nat}{w:World}{row:List Bool}{u:US}(E:UIs No B w b row u):UIs (N1 No w.heap.size) B w b row u:=
 E.more (fun e=>by rcases e with e|e;exact E.no e;have:=E.lt;omega) (fun g F=>F)
theorem UUp.closed {No:Nat->Prop}{B b N:Nat}{G w:World}{row:List Bool}{u:US}(E:UUp (N1 No N) B G b row u w):UUp No B G b row u w:=
 ⟨E.is.more (fun e=>E.is.no (.inl e)) (fun g F=>.inl (.inl F)),E.below,E.kp.weaken (fun g F=>.inl F)⟩
theorem UUp.own {No:Nat->Prop}{B b N e F n:Nat}{w w':World}{row:List Bool}{u:US}{v:Value}{xs:List Value}(H:UUp (N1 No N) B w b row u w')(E:w.ownsRow N e F v n xs):w'.ownsRow N e F v n xs:=
 Au E (fun g G=>H.kp g (E.lt g G).2 (.inr (E.lt g G).1))
theorem UUp.rows {No:Nat->Prop}{B b N:Nat}{w w':World}{row:List Bool}{u:US}{a:Option Addr}{xs:List Int}(I:UUp (N1 No N) B w b row u w')(H:RowIn .i64 w a xs)(M:∀g o,a=some ⟨g,o,none⟩->N<=g):RowIn .i64 w' a xs:=by
 rcases H with E|⟨g,o,E,F,T⟩
 . exact .inl E
 . have G:=I.kp g F (.inr (M g o E));exact .inr ⟨g,o,E,(VK.1 (G.trans (Array.getElem?_eq_getElem F))).1,fun j O=>by rw[World.cell?_of_block G];exact T j O⟩
theorem UUp.book {No:Nat->Prop}{B b N E H:Nat}{w w':World}{row:List Bool}{u:US}{G:DataW Unit}(M:UUp (N1 No N) B w b row u w')(I:Em w E H G)(O:N<=E):Em w' E H G:=by
 have Y:=I.lt;obtain⟨es,clock,hb,F,U,T⟩:=I;exact⟨es,clock,(M.kp E Y (.inr O)).trans hb,F,U,T⟩
theorem Wc {w w':World}{B E H:Nat}{G:DataW Unit}(U:Em w E H G)(T:Below B w w')(I:E<B):Em w' E H G:=by
 obtain⟨es,clock,hb,F,O,M⟩:=U;exact⟨es,clock,(T.block E I).trans hb,F,O,M⟩
theorem Z0k {j:Nat}(E:j<19):ord19.getD j 0<19:=by
 have:∀j,j<19->ord19.getD j 0<19:=by decide
 exact this j E
def Z8l:Value->Nat
 | .slice _ n _=>n
 |_=>0
theorem Z45 {w:World}{B e G n:Nat}{v:Value}{xs:List Value}(F:w.ownsRow B e G v n xs):Z8l v=n:=by
 rcases F.2 with ⟨E,H⟩|⟨g,cap,cur,E,_⟩
 . rw[E,H];rfl
 . rw[E];rfl
theorem MT {w:World}{B e G n:Nat}{v:Value}{xs:List Value}(F:w.ownsRow B e G v n xs):∃a c,v=.slice a n c:=by
 rcases F.2 with ⟨E,H⟩|⟨g,cap,cur,E,_⟩
 . exact⟨none,0,by rw[E,H]⟩
 . exact⟨_,_,E⟩
theorem FO {w:World}{B e T n F M:Nat}{v:Value}{xs:List Value}{H:DataW Unit}(I:w.ownsRow B e T v n xs)(O:Em w F M H):some F≠v.ownBlock:=by
 intro e;obtain⟨es,clock,hb,_⟩:=O
 rcases I.2 with ⟨E,_⟩|⟨g,cap,cur,E,_,G,_⟩
 . rw[E]at e;cases e
 . rw[E]at e;have:F=g:=VM e
   subst this;rw[hb]at G
   cases G
theorem Z6z (n:Nat)(x:Int):iv (List.replicate n x)=List.replicate n (.int .i64 x):=by simp[iv]
def Z2k:Array Value:= #[.int .i64 16,.int .i64 17,.int .i64 18,.int .i64 0,.int .i64 8,.int .i64 7,.int .i64 9,.int .i64 6,.int .i64 10,.int .i64 5,.int .i64 11,.int .i64 4,.int .i64 12,.int .i64 3,.int .i64 13,.int .i64 2,.int .i64 14,.int .i64 1,.int .i64 15]
theorem Z48:Z2k=(ord19.map fun n=>Value.int .i64 ((n:Nat):Int)).toArray:=rfl
theorem Z49 {j:Nat}(E:j<19):Z2k[j]? =some (.int .i64 ((ord19.getD j 0:Nat):Int)):=by
 have hl:j<ord19.length:=E;rw[Z48];simp[List.getD,hl]
theorem Z0i {j M:Nat}(F:j<M)(E:M<=19):(ord19.take M).drop j=ord19.getD j 0::(ord19.take M).drop (j+1):=by
 have hl:ord19.length=19:=rfl;rw[WS (by rw[VL];omega)]
 congr 1
 rw[YN,List.getD,VP (by omega)];rfl
end Go.Proofs.YtleocpdblhbimaaGreatDoor
