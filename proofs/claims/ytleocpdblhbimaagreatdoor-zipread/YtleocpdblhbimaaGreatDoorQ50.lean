import Derived.Test.YtleocpdblhbimaaGreatDoorQ49
import Derived.Deep.RegionHeld3
set_option linter.unusedSimpArgs false
namespace Go.Proofs.YtleocpdblhbimaaGreatDoor
open Go.RowKit
set_option linter.unusedVariables false
set_option maxRecDepth 100000
def N1 (No:Nat->Prop)(N:Nat):Nat->Prop:=fun g=>No g\/N<=g
theorem UIs.newer {No:Nat->Prop}{B b N:Nat}{w w':World}{row:List Bool}{u:US}(h:UIs (N1 No N) B w b row u)(hB:Below N w w'):UIs (N1 No N) B w' b row u:=by
 obtain⟨ov,kv,h1,h2,h3,h4,h5,h6⟩:=h.ex
 have hlt:∀g,¬N1 No N g->g<N:=fun g hg=>by
  by_cases e:g<N
  . exact e
  . exact absurd (.inr (by omega)) hg
 exact⟨h.base,h.no,ov,kv,(hB.block b (hlt b h.no)).trans h1,Au h2 (fun g e=>hB.block g (hlt g (h5 g e))),Au h3 (fun g e=>hB.block g (hlt g (h6 g e))),h4,h5,h6⟩
theorem UUp.newer {No:Nat->Prop}{B b N:Nat}{w0 w w':World}{row:List Bool}{u:US}(h:UUp (N1 No N) B w0 b row u w)(hN:w0.heap.size<=N)(hB:Below N w w'):UUp (N1 No N) B w0 b row u w':=by
 have hb:b<N:=by
  by_cases e:b<N
  . exact e
  . exact absurd (.inr (by omega)) h.is.no
 have:=h.is.base
 exact⟨h.is.newer hB,h.below.trans (hB.mono (by omega)),fun g hg hn=>(hB.block g (by omega)).trans (h.kp g hg hn)⟩
theorem UIs.opened {No:Nat->Prop}{B b:Nat}{w:World}{row:List Bool}{u:US}(h:UIs No B w b row u):UIs (N1 No w.heap.size) B w b row u:=
 h.more (fun e=>by rcases e with e|e;exact h.no e;have:=h.lt;omega) (fun g hg=>hg)
theorem UUp.closed {No:Nat->Prop}{B b N:Nat}{w0 w:World}{row:List Bool}{u:US}(h:UUp (N1 No N) B w0 b row u w):UUp No B w0 b row u w:=
 ⟨h.is.more (fun e=>h.is.no (.inl e)) (fun g hg=>.inl (.inl hg)),h.below,h.kp.weaken (fun g hg=>.inl hg)⟩
theorem UUp.own {No:Nat->Prop}{B b N e size n:Nat}{w w':World}{row:List Bool}{u:US}{v:Value}{xs:List Value}(h:UUp (N1 No N) B w b row u w')(ho:w.ownsRow N e size v n xs):w'.ownsRow N e size v n xs:=
 Au ho (fun g hg=>h.kp g (ho.lt g hg).2 (.inr (ho.lt g hg).1))
theorem UUp.rows {No:Nat->Prop}{B b N:Nat}{w w':World}{row:List Bool}{u:US}{a:Option Addr}{xs:List Int}(h:UUp (N1 No N) B w b row u w')(ho:RowIn .i64 w a xs)(ha:∀g o,a=some ⟨g,o,none⟩->N<=g):RowIn .i64 w' a xs:=by
 rcases ho with h1|⟨g,o,h1,h2,h3⟩
 . exact .inl h1
 . have hk:=h.kp g h2 (.inr (ha g o h1));exact .inr ⟨g,o,h1,(VK.1 (hk.trans (Array.getElem?_eq_getElem h2))).1,fun j hj=>by rw[World.cell?_of_block hk];exact h3 j hj⟩
theorem UUp.book {No:Nat->Prop}{B b N mb nn:Nat}{w w':World}{row:List Bool}{u:US}{D:DataW Unit}(h:UUp (N1 No N) B w b row u w')(hM:Em w mb nn D)(hm:N<=mb):Em w' mb nn D:=by
 have hlt:=hM.lt;obtain⟨es,clock,hb,F,hs,hD⟩:=hM;exact⟨es,clock,(h.kp mb hlt (.inr hm)).trans hb,F,hs,hD⟩
theorem Wc {w w':World}{B mb nn:Nat}{D:DataW Unit}(hM:Em w mb nn D)(hB:Below B w w')(hm:mb<B):Em w' mb nn D:=by
 obtain⟨es,clock,hb,F,hs,hD⟩:=hM;exact⟨es,clock,(hB.block mb hm).trans hb,F,hs,hD⟩
theorem Z0k {j:Nat}(h:j<19):ord19.getD j 0<19:=by
 have:∀j,j<19->ord19.getD j 0<19:=by decide
 exact this j h
def Z8l:Value->Nat
 | .slice _ n _=>n
 |_=>0
theorem Z45 {w:World}{B e size n:Nat}{v:Value}{xs:List Value}(h:w.ownsRow B e size v n xs):Z8l v=n:=by
 rcases h.2 with ⟨h1,h2⟩|⟨g,cap,cur,h1,_⟩
 . rw[h1,h2];rfl
 . rw[h1];rfl
theorem MT {w:World}{B e size n:Nat}{v:Value}{xs:List Value}(h:w.ownsRow B e size v n xs):∃a c,v=.slice a n c:=by
 rcases h.2 with ⟨h1,h2⟩|⟨g,cap,cur,h1,_⟩
 . exact⟨none,0,by rw[h1,h2]⟩
 . exact⟨_,_,h1⟩
theorem FO {w:World}{B e size n mb nn:Nat}{v:Value}{xs:List Value}{D:DataW Unit}(h:w.ownsRow B e size v n xs)(hM:Em w mb nn D):some mb≠v.ownBlock:=by
 intro e;obtain⟨es,clock,hb,_⟩:=hM
 rcases h.2 with ⟨h1,_⟩|⟨g,cap,cur,h1,_,h2,_⟩
 . rw[h1]at e;cases e
 . rw[h1]at e;have:mb=g:=VM e
   subst this;rw[hb]at h2
   cases h2
theorem Z6z (n:Nat)(x:Int):iv (List.replicate n x)=List.replicate n (.int .i64 x):=by simp[iv]
def Z2k:Array Value:= #[.int .i64 16,.int .i64 17,.int .i64 18,.int .i64 0,.int .i64 8,.int .i64 7,.int .i64 9,.int .i64 6,.int .i64 10,.int .i64 5,.int .i64 11,.int .i64 4,.int .i64 12,.int .i64 3,.int .i64 13,.int .i64 2,.int .i64 14,.int .i64 1,.int .i64 15]
theorem Z48:Z2k=(ord19.map fun n=>Value.int .i64 ((n:Nat):Int)).toArray:=rfl
theorem Z49 {j:Nat}(h:j<19):Z2k[j]? =some (.int .i64 ((ord19.getD j 0:Nat):Int)):=by
 have hl:j<ord19.length:=h;rw[Z48];simp[List.getD,hl]
theorem Z0i {j M:Nat}(h:j<M)(hM:M<=19):(ord19.take M).drop j=ord19.getD j 0::(ord19.take M).drop (j+1):=by
 have hl:ord19.length=19:=rfl;rw[WS (by rw[VL];omega)]
 congr 1
 rw[YN,List.getD,VP (by omega)];rfl
end Go.Proofs.YtleocpdblhbimaaGreatDoor
