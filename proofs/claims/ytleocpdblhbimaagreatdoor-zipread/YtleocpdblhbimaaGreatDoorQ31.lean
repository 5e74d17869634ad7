import Derived.Test.YtleocpdblhbimaaGreatDoorQ30
import Derived.Deep.OwnRows
set_option linter.unusedSimpArgs false
set_option maxHeartbeats 4000000
namespace Go.Proofs.YtleocpdblhbimaaGreatDoor
open Go.RowKit
set_option linter.unusedVariables false
theorem OL:(Tryz.prog.info? 4).map (fun i=>(i.zero,i.size,i.bytes))=some (some (.bool false),1,1):=by kernel_rfl
structure BRow (w:World)(g:Nat)(xs:List Bool):Prop where
 lt:g<w.heap.size
 at_:∀j,j<xs.length->w.cell? ⟨g,j,none⟩=some (.bool (xs.getD j false))/\w.frozen? ⟨g,j,none⟩=false
theorem BRow.below {w w':World}{B E:Nat}{xs:List Bool}(F:BRow w E xs)(G:Below B w w')(H:E<B):BRow w' E xs:=
 ⟨VG F.lt G.size,fun j I=>⟨by rw[G.cell (p:=⟨E,j,none⟩) H];exact(F.at_ j I).1,by rw[G.frozen (p:=⟨E,j,none⟩) H];exact(F.at_ j I).2⟩⟩
theorem BRow.set {w:World}{G:Nat}{xs:List Bool}(E:BRow w G xs)(i:Nat)(H:i<xs.length)(v:Bool):BRow (w.setCell ⟨G,i,none⟩ (.bool v)) G (xs.set i v):=by
 refine⟨by simpa using E.lt,fun j F=> ?_⟩;rw[XS]at F;refine⟨?_,by simp[(E.at_ j F).2]⟩
 by_cases e:i=j
 . subst e;rw[World.cell?_setCell_same _ _ _ (E.at_ i F).1];simp[List.getD,H]
 . rw[World.cell?_setCell_other _ _ _ _ (by intro E;injection E;omega),(E.at_ j F).1];simp[List.getD,e]
theorem BRow.other {w:World}{F:Nat}{xs:List Bool}(E:BRow w F xs){a:Addr}(H:a.block≠F)(v:Value):BRow (w.setCell a v) F xs:=by
 refine⟨by simpa using E.lt,fun j G=>⟨?_,by simp[(E.at_ j G).2]⟩⟩;rw[World.cell?_setCell_other _ _ _ _ (by intro E;subst E;exact H rfl)];exact(E.at_ j G).1
theorem BRow.drew {w:World}{E:Nat}{xs:List Bool}(F:BRow w E xs):BRow w.drew E xs:=⟨F.lt,F.at_⟩
theorem BRow.grown {w w':World}{E:Nat}{xs:List Bool}{r:Option Nat}(F:BRow w E xs)(G:w.grownBy w' r)(I:some E≠r):BRow w' E xs:=by
 refine⟨VG F.lt G.size,fun j H=> ?_⟩;have e:=G.block E F.lt I;exact⟨by rw[World.cell?_of_block (w:=w) (a:=⟨E,j,none⟩) e];exact(F.at_ j H).1,by rw[World.frozen?_of_block (w:=w) (a:=⟨E,j,none⟩) e];exact(F.at_ j H).2⟩
theorem WRow.made (w:World)(N:Nat)(t:TypeId)(E:Nat)(F:E=w.heap.size):WRow (w.alloc (.cells (madeCells #[Value.int .i64 0] N) t)) E (List.replicate N 0):=by
 subst F;refine⟨by simp,fun j H=>⟨?_,by simp⟩⟩;rw[World.cell?_alloc_at _ _ _ _ rfl];have G:j<N:=by simpa using H
 simp[madeCells,G,List.getD,Nat.mod_one]
theorem BRow.made (w:World)(N:Nat)(t:TypeId)(E:Nat)(F:E=w.heap.size):BRow (w.alloc (.cells (madeCells #[Value.bool false] N) t)) E (List.replicate N false):=by
 subst F;refine⟨by simp,fun j H=>⟨?_,by simp⟩⟩;rw[World.cell?_alloc_at _ _ _ _ rfl];have G:j<N:=by simpa using H
 simp[madeCells,G,List.getD,Nat.mod_one]
theorem WRow.alloc {w:World}{E:Nat}{xs:List Int}(F:WRow w E xs)(o:Obj):WRow (w.alloc o) E xs:=F.grown (World.grownBy_alloc w o none) (by simp)
theorem BRow.alloc {w:World}{E:Nat}{xs:List Bool}(F:BRow w E xs)(o:Obj):BRow (w.alloc o) E xs:=F.grown (World.grownBy_alloc w o none) (by simp)
def partB (f:Nat->Bool)(m:Nat):Nat->List Bool
 |0=>List.replicate m false
 |k+1=>(partB f m k).set k (f k)
theorem As (f:Nat->Bool)(m:Nat):∀k,(partB f m k).length=m
 |0=>by simp[partB]
 |k+1=>by rw[partB,XS,As f m k]
theorem PE (xs:List Bool)(i j:Nat)(v:Bool):(xs.set i v).getD j false=if i=j/\i<xs.length then v else xs.getD j false:=by
 simp only[List.getD];rw[YM]
 by_cases e:i=j
 . subst e
   by_cases h:i<xs.length
   . simp[h]
   . simp[h]
 . simp[e]
theorem Jw (f:Nat->Bool)(m:Nat):∀k j,j<m->(partB f m k).getD j false=if j<k then f j else false
 |0,j,hj=>by simp[partB,List.getD,hj]
 |k+1,j,hj=>by
  rw[partB,PE,As,Jw f m k j hj]
  by_cases e:k=j
  . subst e;rw[if_pos ⟨rfl,hj⟩,if_pos (by omega)]
  . rw[if_neg (by omega)]
    by_cases h:j<k
    . rw[if_pos h,if_pos (by omega)]
    . rw[if_neg h,if_neg (by omega)]
theorem MN (f:Nat->Bool)(m:Nat)(xs:List Bool)(G:xs.length=m)(I:∀j,j<m->xs.getD j false=f j):partB f m m=xs:=by
 apply XK
 . rw[As,G]
 . intro i E H;rw[As]at E;have F:=Jw f m m i E;rw[if_pos E,<-I i E]at F;simpa[List.getD,As,E,H]using F
theorem FN (f:Nat->Bool)(m k:Nat)(G:f k=false)(H:k<m):partB f m (k+1)=partB f m k:=by
 apply XK
 . rw[As,As]
 . intro i E I;rw[As]at E;have F:=Jw f m (k+1) i E;have e2:=Jw f m k i E;simp only[List.getD,As,E,VP,YH]at F e2;rw[F,e2]
   by_cases e:i=k
   . subst e;rw[if_pos (by omega),if_neg (by omega),G]
   . by_cases h:i<k
     . rw[if_pos h,if_pos (by omega)]
     . rw[if_neg h,if_neg (by omega)]
theorem Bo:∀xs ys:List Int,(mrg xs ys).length=xs.length+ys.length
 | [],ys=>by simp[Kn]
 |x::xs,[]=>by
  rw[Nj,VJ,Bo xs []];simp
 |x::xs,y::ys=>by
  rw[Jc]
  split
  . rw[VJ,Bo xs (y::ys)];simp;omega
  . rw[VJ,Bo (x::xs) ys];simp;omega
termination_by xs ys=>xs.length+ys.length
theorem OG:(Tryz.prog.info? 340).map (·.size)=some 2:=by kernel_rfl
theorem F3 {w:World}{b o:Nat}{x y:Value}(F:w.cell? ⟨b,o,none⟩=some x)(G:w.cell? ⟨b,o+1,none⟩=some y):(loadVar 340 ⟨b,o,none⟩).run Tryz.prog w=.ok (.agg #[x,y]) w:=by
 have hl:(loadCells ⟨b,o,none⟩ [x,y].length).run Tryz.prog w=.ok [x,y].toArray w:=
  run_loadCells_list (P:=Tryz.prog) w ⟨b,o,none⟩ [x,y] (fun j v E=>by
   match j,E with
   |0,E=>simp at E;subst E;simpa[Addr.add]using F
   |1,E=>simp at E;subst E;simpa[Addr.add]using G)
 obtain⟨i,hi,H⟩:=XF.1 OG;simp only[VJ,WE,WG,Nat.reduceAdd]at hl;simp[loadVar,Sem.run_bind,sizeOf,typeInfo,hi,H,hl]
theorem Z06 {F:Func}{p:Tmp}(H:F.results= #[.cell p 340])(E:Array Value)(w:World)(b:Nat)(x y:Value)(M:E.getD p undef=.pointer (some ⟨b,0,none⟩))(G:w.cell? ⟨b,0,none⟩=some x)(O:w.cell? ⟨b,1,none⟩=some y):
 (results F E).run Tryz.prog w=.ok (.agg #[x,y]) w:=by
 have I:E[p]?.getD undef=.pointer (some ⟨b,0,none⟩):=by simpa using M
 simp[results,H,I,asAddr,F3 G O]
def MgAt (xs ys:List Int)(i j:Nat):Prop:=(mrg xs ys).drop (i+j)=mrg (xs.drop i) (ys.drop j)
theorem Vq {E:Type}(l:List E)(n:Nat)(d:E):l.getD n d=(l.drop n).getD 0 d:=by simp[List.getD]
theorem Jl {xs:List Int}{i:Nat}(E:i<xs.length):xs.drop i=xs.getD i 0::xs.drop (i+1):=by
 rw[WS E];simp[List.getD,E]
theorem MgAt.one {xs ys:List Int}{i j:Nat}(E:MgAt xs ys i j)(H:i<xs.length)(G:¬j<ys.length\/xs.getD i 0<=ys.getD j 0):(mrg xs ys).getD (i+j) (0,false)=(xs.getD i 0,true)/\MgAt xs ys (i+1) j:=by
 unfold MgAt at*
 have e:mrg (xs.drop i) (ys.drop j)=(xs.getD i 0,true)::mrg (xs.drop (i+1)) (ys.drop j):=by
  rw[Jl H]
  by_cases F:j<ys.length
  . rw[Jl F,Jc,if_pos (by rcases G with E|E;exact absurd F E;exact E),<-Jl F]
  . rw[show ys.drop j= [] from XQ (by omega),Nj]
 constructor
 . rw[Vq,E,e];rfl
 . rw[show i+1+j=(i+j)+1 by omega,<-YK,E,e];rfl
theorem MgAt.two {xs ys:List Int}{i j:Nat}(E:MgAt xs ys i j)(G:j<ys.length)(F:¬i<xs.length\/¬xs.getD i 0<=ys.getD j 0):(mrg xs ys).getD (i+j) (0,false)=(ys.getD j 0,false)/\MgAt xs ys i (j+1):=by
 unfold MgAt at*
 have e:mrg (xs.drop i) (ys.drop j)=(ys.getD j 0,false)::mrg (xs.drop i) (ys.drop (j+1)):=by
  rw[Jl G]
  by_cases hi:i<xs.length
  . rw[Jl hi,Jc,if_neg (by rcases F with E|E;exact absurd hi E;exact E)]
  . rw[show xs.drop i= [] from XQ (by omega),Kn,Kn];rfl
 constructor
 . rw[Vq,E,e];rfl
 . rw[show i+(j+1)=(i+j)+1 by omega,<-YK,E,e];rfl
def mf (xs ys:List Int)(k:Nat):Int:=((mrg xs ys).getD k (0,false)).1
def ms (xs ys:List Int)(k:Nat):Bool:=((mrg xs ys).getD k (0,false)).2
structure MgSt (w W:World)(N g1 g2 g6:Nat)(xs ys:List Int)(k:Nat):Prop where
 b1:w.heap.size<g1
 b2:w.heap.size<g2
 b6:w.heap.size<g6
 n12:g1≠g2
 n16:g1≠g6
 n26:g2≠g6
 ws:WRow W g1 (part (mf xs ys) N k)
 fs:BRow W g2 (partB (ms xs ys) N k)
 c0:W.cell? ⟨g6,0,none⟩=some (.slice (some ⟨g1,0,none⟩) N N)
 c1:W.cell? ⟨g6,1,none⟩=some (.slice (some ⟨g2,0,none⟩) N N)
 r0:W.cell? ⟨w.heap.size,0,none⟩=some (.slice none 0 0)
 r1:W.cell? ⟨w.heap.size,1,none⟩=some (.slice none 0 0)
 f0:W.frozen? ⟨w.heap.size,0,none⟩=false
 f1:W.frozen? ⟨w.heap.size,1,none⟩=false
 bel:Below w.heap.size w W
theorem MgSt.drew {w W:World}{N g1 g2 F:Nat}{xs ys:List Int}{k:Nat}(E:MgSt w W N g1 g2 F xs ys k):MgSt w W.drew N g1 g2 F xs ys k:=
 ⟨E.b1,E.b2,E.b6,E.n12,E.n16,E.n26,E.ws.drew,E.fs.drew,E.c0,E.c1,E.r0,E.r1,E.f0,E.f1,Ae E.bel 1⟩
theorem MgSt.set1 {w W:World}{N g1 g2 G:Nat}{xs ys:List Int}{k:Nat}(E:MgSt w W N g1 g2 G xs ys k)(F:k<N)(x:Int)(H:mf xs ys k=x)(I:ms xs ys k=false):MgSt w (W.setCell ⟨g1,k,none⟩ (.int .i64 x)).drew N g1 g2 G xs ys (k+1):=by
 have M:=E.b1;have o:∀b o,b≠g1->(W.setCell ⟨g1,k,none⟩ (.int .i64 x)).drew.cell? ⟨b,o,none⟩=W.cell? ⟨b,o,none⟩:=fun b o hb=>World.cell?_setCell_other _ _ _ _ (by intro E;injection E with h1;exact hb h1.symm)
 refine⟨E.b1,E.b2,E.b6,E.n12,E.n16,E.n26, ?_, ?_, ?_, ?_, ?_, ?_, ?_, ?_, ?_⟩
 . rw[part,H];exact(E.ws.set k (by rw[Ay];exact F) x).drew
 . rw[FN _ _ _ I F];exact(E.fs.other (a:=⟨g1,k,none⟩) E.n12 _).drew
 . rw[o _ _ (fun e=>E.n16 e.symm)];exact E.c0
 . rw[o _ _ (fun e=>E.n16 e.symm)];exact E.c1
 . rw[o _ _ (by omega)];exact E.r0
 . rw[o _ _ (by omega)];exact E.r1
 . show (W.setCell ⟨g1,k,none⟩ (.int .i64 x)).frozen? _=_
   rw[World.frozen?_setCell];exact E.f0
 . show (W.setCell ⟨g1,k,none⟩ (.int .i64 x)).frozen? _=_
   rw[World.frozen?_setCell];exact E.f1
 . exact Ae (E.bel.setCell (p:=⟨g1,k,none⟩) (by simp;omega) _) 1
theorem MgSt.set2 {w W:World}{N g1 g2 F:Nat}{xs ys:List Int}{k:Nat}(E:MgSt w W N g1 g2 F xs ys k)(H:k<N)(x:Int)(G:mf xs ys k=x)(O:ms xs ys k=true):
 MgSt w ((W.setCell ⟨g1,k,none⟩ (.int .i64 x)).setCell ⟨g2,k,none⟩ (.bool true)).drew N g1 g2 F xs ys (k+1)/\MgSt w ((W.setCell ⟨g2,k,none⟩ (.bool true)).setCell ⟨g1,k,none⟩ (.int .i64 x)).drew N g1 g2 F xs ys (k+1):=by
 have U:=E.b1;have T:=E.b2;have o1:∀(V:World) b o v,b≠g1->(V.setCell ⟨g1,k,none⟩ v).cell? ⟨b,o,none⟩=V.cell? ⟨b,o,none⟩:=fun V b o v hb=>World.cell?_setCell_other _ _ _ _ (by intro E;injection E with h1;exact hb h1.symm)
 have o2:∀(V:World) b o v,b≠g2->(V.setCell ⟨g2,k,none⟩ v).cell? ⟨b,o,none⟩=V.cell? ⟨b,o,none⟩:=fun V b o v hb=>World.cell?_setCell_other _ _ _ _ (by intro E;injection E with h1;exact hb h1.symm)
 have M:k<(part (mf xs ys) N k).length:=by rw[Ay];exact H
 have I:k<(partB (ms xs ys) N k).length:=by rw[As];exact H
 constructor
 . refine⟨E.b1,E.b2,E.b6,E.n12,E.n16,E.n26, ?_, ?_, ?_, ?_, ?_, ?_, ?_, ?_, ?_⟩
   . rw[part,G];exact((E.ws.set k M x).other (a:=⟨g2,k,none⟩) (fun e=>E.n12 e.symm) _).drew
   . rw[partB,O];exact((E.fs.other (a:=⟨g1,k,none⟩) E.n12 _).set k I true).drew
   . exact(o2 _ _ _ _ (fun e=>E.n26 e.symm)).trans ((o1 _ _ _ _ (fun e=>E.n16 e.symm)).trans E.c0)
   . exact(o2 _ _ _ _ (fun e=>E.n26 e.symm)).trans ((o1 _ _ _ _ (fun e=>E.n16 e.symm)).trans E.c1)
   . exact(o2 _ _ _ _ (by omega)).trans ((o1 _ _ _ _ (by omega)).trans E.r0)
   . exact(o2 _ _ _ _ (by omega)).trans ((o1 _ _ _ _ (by omega)).trans E.r1)
   . show ((W.setCell _ _).setCell _ _).frozen? _=_
     rw[World.frozen?_setCell,World.frozen?_setCell];exact E.f0
   . show ((W.setCell _ _).setCell _ _).frozen? _=_
     rw[World.frozen?_setCell,World.frozen?_setCell];exact E.f1
   . exact Ae ((E.bel.setCell (p:=⟨g1,k,none⟩) (by simp;omega) _).setCell (p:=⟨g2,k,none⟩) (by simp;omega) _) 1
 . refine⟨E.b1,E.b2,E.b6,E.n12,E.n16,E.n26, ?_, ?_, ?_, ?_, ?_, ?_, ?_, ?_, ?_⟩
   . rw[part,G];exact((E.ws.other (a:=⟨g2,k,none⟩) (fun e=>E.n12 e.symm) _).set k M x).drew
   . rw[partB,O];exact((E.fs.set k I true).other (a:=⟨g1,k,none⟩) E.n12 _).drew
   . exact(o1 _ _ _ _ (fun e=>E.n16 e.symm)).trans ((o2 _ _ _ _ (fun e=>E.n26 e.symm)).trans E.c0)
   . exact(o1 _ _ _ _ (fun e=>E.n16 e.symm)).trans ((o2 _ _ _ _ (fun e=>E.n26 e.symm)).trans E.c1)
   . exact(o1 _ _ _ _ (by omega)).trans ((o2 _ _ _ _ (by omega)).trans E.r0)
   . exact(o1 _ _ _ _ (by omega)).trans ((o2 _ _ _ _ (by omega)).trans E.r1)
   . show ((W.setCell _ _).setCell _ _).frozen? _=_
     rw[World.frozen?_setCell,World.frozen?_setCell];exact E.f0
   . show ((W.setCell _ _).setCell _ _).frozen? _=_
     rw[World.frozen?_setCell,World.frozen?_setCell];exact E.f1
   . exact Ae ((E.bel.setCell (p:=⟨g2,k,none⟩) (by simp;omega) _).setCell (p:=⟨g1,k,none⟩) (by simp;omega) _) 1
theorem Z4m (w:World)(N:Nat)(xs ys:List Int):MgSt w ((((w.alloc (.cells #[.slice none 0 0,.slice none 0 0] 340)).alloc (.cells (madeCells #[.int .i64 0] N) 3)).alloc (.cells (madeCells #[.bool false] N) 4)).alloc (.cells #[.slice (some ⟨w.heap.size+1,0,none⟩) N N,.slice (some ⟨w.heap.size+2,0,none⟩) N N] 340)).drew N (w.heap.size+1) (w.heap.size+2) (w.heap.size+3) xs ys 0:=by
 refine⟨by omega,by omega,by omega,by omega,by omega,by omega,(((WRow.made (w.alloc (.cells #[.slice none 0 0,.slice none 0 0] 340)) N 3 (w.heap.size+1) (by simp)).alloc _).alloc _).drew,((BRow.made ((w.alloc (.cells #[.slice none 0 0,.slice none 0 0] 340)).alloc (.cells (madeCells #[.int .i64 0] N) 3)) N 4 (w.heap.size+2) (by simp)).alloc _).drew, ?_, ?_, ?_, ?_, ?_, ?_, ?_⟩
 all_goals first|exact Ae (((((Below.refl w.heap.size w).alloc (VB _) _).alloc (by simp) _).alloc (by simp;omega) _).alloc (by simp;omega) _) 1|skip
 all_goals (simp only[World.alloc,World.cell?,World.frozen?,World.drew,YC,YV];simp[WT])
theorem Z4l (w:World)(N:Nat)(xs ys:List Int):MgSt w ((((w.alloc (.cells #[.slice none 0 0,.slice none 0 0] 340)).alloc (.cells (madeCells #[.int .i64 0] N) 3)).alloc (.cells #[.slice (some ⟨w.heap.size+1,0,none⟩) N N,.slice (some ⟨w.heap.size+3,0,none⟩) N N] 340)).alloc (.cells (madeCells #[.bool false] N) 4)).drew N (w.heap.size+1) (w.heap.size+3) (w.heap.size+2) xs ys 0:=by
 refine⟨by omega,by omega,by omega,by omega,by omega,by omega,(((WRow.made (w.alloc (.cells #[.slice none 0 0,.slice none 0 0] 340)) N 3 (w.heap.size+1) (by simp)).alloc _).alloc _).drew,(BRow.made (((w.alloc (.cells #[.slice none 0 0,.slice none 0 0] 340)).alloc (.cells (madeCells #[.int .i64 0] N) 3)).alloc (.cells #[.slice (some ⟨w.heap.size+1,0,none⟩) N N,.slice (some ⟨w.heap.size+3,0,none⟩) N N] 340)) N 4 (w.heap.size+3) (by simp)).drew, ?_, ?_, ?_, ?_, ?_, ?_, ?_⟩
 all_goals first|exact Ae (((((Below.refl w.heap.size w).alloc (VB _) _).alloc (by simp) _).alloc (by simp;omega) _).alloc (by simp;omega) _) 1|skip
 all_goals (simp only[World.alloc,World.cell?,World.frozen?,World.drew,YC,YV];simp[WT])
theorem Z4k (w:World)(N:Nat)(xs ys:List Int):MgSt w ((((w.alloc (.cells #[.slice none 0 0,.slice none 0 0] 340)).alloc (.cells (madeCells #[.bool false] N) 4)).alloc (.cells (madeCells #[.int .i64 0] N) 3)).alloc (.cells #[.slice (some ⟨w.heap.size+2,0,none⟩) N N,.slice (some ⟨w.heap.size+1,0,none⟩) N N] 340)).drew N (w.heap.size+2) (w.heap.size+1) (w.heap.size+3) xs ys 0:=by
 refine⟨by omega,by omega,by omega,by omega,by omega,by omega,((WRow.made ((w.alloc (.cells #[.slice none 0 0,.slice none 0 0] 340)).alloc (.cells (madeCells #[.bool false] N) 4)) N 3 (w.heap.size+2) (by simp)).alloc _).drew,(((BRow.made (w.alloc (.cells #[.slice none 0 0,.slice none 0 0] 340)) N 4 (w.heap.size+1) (by simp)).alloc _).alloc _).drew, ?_, ?_, ?_, ?_, ?_, ?_, ?_⟩
 all_goals first|exact Ae (((((Below.refl w.heap.size w).alloc (VB _) _).alloc (by simp) _).alloc (by simp;omega) _).alloc (by simp;omega) _) 1|skip
 all_goals (simp only[World.alloc,World.cell?,World.frozen?,World.drew,YC,YV];simp[WT])
theorem Z4j (w:World)(N:Nat)(xs ys:List Int):MgSt w ((((w.alloc (.cells #[.slice none 0 0,.slice none 0 0] 340)).alloc (.cells (madeCells #[.bool false] N) 4)).alloc (.cells #[.slice (some ⟨w.heap.size+3,0,none⟩) N N,.slice (some ⟨w.heap.size+1,0,none⟩) N N] 340)).alloc (.cells (madeCells #[.int .i64 0] N) 3)).drew N (w.heap.size+3) (w.heap.size+1) (w.heap.size+2) xs ys 0:=by
 refine⟨by omega,by omega,by omega,by omega,by omega,by omega,(WRow.made (((w.alloc (.cells #[.slice none 0 0,.slice none 0 0] 340)).alloc (.cells (madeCells #[.bool false] N) 4)).alloc (.cells #[.slice (some ⟨w.heap.size+3,0,none⟩) N N,.slice (some ⟨w.heap.size+1,0,none⟩) N N] 340)) N 3 (w.heap.size+3) (by simp)).drew,(((BRow.made (w.alloc (.cells #[.slice none 0 0,.slice none 0 0] 340)) N 4 (w.heap.size+1) (by simp)).alloc _).alloc _).drew, ?_, ?_, ?_, ?_, ?_, ?_, ?_⟩
 all_goals first|exact Ae (((((Below.refl w.heap.size w).alloc (VB _) _).alloc (by simp) _).alloc (by simp;omega) _).alloc (by simp;omega) _) 1|skip
 all_goals (simp only[World.alloc,World.cell?,World.frozen?,World.drew,YC,YV];simp[WT])
theorem Z4i (w:World)(N:Nat)(xs ys:List Int):MgSt w ((((w.alloc (.cells #[.slice none 0 0,.slice none 0 0] 340)).alloc (.cells #[.slice (some ⟨w.heap.size+2,0,none⟩) N N,.slice (some ⟨w.heap.size+3,0,none⟩) N N] 340)).alloc (.cells (madeCells #[.int .i64 0] N) 3)).alloc (.cells (madeCells #[.bool false] N) 4)).drew N (w.heap.size+2) (w.heap.size+3) (w.heap.size+1) xs ys 0:=by
 refine⟨by omega,by omega,by omega,by omega,by omega,by omega,((WRow.made ((w.alloc (.cells #[.slice none 0 0,.slice none 0 0] 340)).alloc (.cells #[.slice (some ⟨w.heap.size+2,0,none⟩) N N,.slice (some ⟨w.heap.size+3,0,none⟩) N N] 340)) N 3 (w.heap.size+2) (by simp)).alloc _).drew,(BRow.made (((w.alloc (.cells #[.slice none 0 0,.slice none 0 0] 340)).alloc (.cells #[.slice (some ⟨w.heap.size+2,0,none⟩) N N,.slice (some ⟨w.heap.size+3,0,none⟩) N N] 340)).alloc (.cells (madeCells #[.int .i64 0] N) 3)) N 4 (w.heap.size+3) (by simp)).drew, ?_, ?_, ?_, ?_, ?_, ?_, ?_⟩
 all_goals first|exact Ae (((((Below.refl w.heap.size w).alloc (VB _) _).alloc (by simp) _).alloc (by simp;omega) _).alloc (by simp;omega) _) 1|skip
 all_goals (simp only[World.alloc,World.cell?,World.frozen?,World.drew,YC,YV];simp[WT])
theorem Z4h (w:World)(N:Nat)(xs ys:List Int):MgSt w ((((w.alloc (.cells #[.slice none 0 0,.slice none 0 0] 340)).alloc (.cells #[.slice (some ⟨w.heap.size+3,0,none⟩) N N,.slice (some ⟨w.heap.size+2,0,none⟩) N N] 340)).alloc (.cells (madeCells #[.bool false] N) 4)).alloc (.cells (madeCells #[.int .i64 0] N) 3)).drew N (w.heap.size+3) (w.heap.size+2) (w.heap.size+1) xs ys 0:=by
 refine⟨by omega,by omega,by omega,by omega,by omega,by omega,(WRow.made (((w.alloc (.cells #[.slice none 0 0,.slice none 0 0] 340)).alloc (.cells #[.slice (some ⟨w.heap.size+3,0,none⟩) N N,.slice (some ⟨w.heap.size+2,0,none⟩) N N] 340)).alloc (.cells (madeCells #[.bool false] N) 4)) N 3 (w.heap.size+3) (by simp)).drew,((BRow.made ((w.alloc (.cells #[.slice none 0 0,.slice none 0 0] 340)).alloc (.cells #[.slice (some ⟨w.heap.size+3,0,none⟩) N N,.slice (some ⟨w.heap.size+2,0,none⟩) N N] 340)) N 4 (w.heap.size+2) (by simp)).alloc _).drew, ?_, ?_, ?_, ?_, ?_, ?_, ?_⟩
 all_goals first|exact Ae (((((Below.refl w.heap.size w).alloc (VB _) _).alloc (by simp) _).alloc (by simp;omega) _).alloc (by simp;omega) _) 1|skip
 all_goals (simp only[World.alloc,World.cell?,World.frozen?,World.drew,YC,YV];simp[WT])
set_option maxRecDepth 100000 in
theorem NP (H U I Y O aq M ap:Nat)(xs ys:List Int)(w:World)(bc:xs.length=O)(bk:ys.length=M)(cu:O<=1000)(cw:M<=1000)(cn:O<=aq)(cj:M<=ap)(co:aq<=maxLen)(ch:ap<=maxLen)(bd:H<w.heap.size)(bj:I<w.heap.size)(bq:Row .i64 w H U xs)(bh:Row .i64 w I Y ys):
 Calls Tryz.prog 277 #[.slice (some ⟨H,U,none⟩) O aq,.slice (some ⟨I,Y,none⟩) M ap] w fun e w'=>∃g1 g2,e=.returned (.agg #[.slice (some ⟨g1,0,none⟩) (O+M) (O+M),.slice (some ⟨g2,0,none⟩) (O+M) (O+M)])/\
  WRow w' g1 ((mrg xs ys).map Prod.fst)/\BRow w' g2 ((mrg xs ys).map Prod.snd)/\Below w.heap.size w w'/\w.heap.size<=g1/\w.heap.size<=g2:=by
 unfold maxLen at co ch;have bv:=Ab bq;have bm:=Ab bh;obtain⟨N,ax⟩:∃N,N=O+M:=⟨_,rfl⟩
 rw[<-ax];have b3:=Ab ax;have cp:Hid ((O:Int)+(M:Int)=(N:Int)):=by unfold Hid;omega
 have b4:=fun W=>run_make_row' (P:=Tryz.prog) 76 3 (.int .i64 0) 8 Tryz.underlying76 Bv rfl .i64 .i64 N (by omega) (by omega) W
 have bz:=fun W=>run_make_row' (P:=Tryz.prog) 338 4 (.bool false) 1 Tryz.underlying338 OL rfl .i64 .i64 N (by omega) (by omega) W
 have ci:Hid (MgAt xs ys 0 0):=by unfold Hid MgAt;simp
 have cg:Hid (part (mf xs ys) N N=(mrg xs ys).map Prod.fst):=Xo _ _ _ (by rw[WL,Bo,bc,bk,ax]) (fun j cm=>by
  have:j<(mrg xs ys).length:=by rw[Bo];omega
  simp[mf,List.getD,this])
 have ck:Hid (partB (ms xs ys) N N=(mrg xs ys).map Prod.snd):=MN _ _ _ (by rw[WL,Bo,bc,bk,ax]) (fun j cm=>by
  have:j<(mrg xs ys).length:=by rw[Bo];omega
  simp[ms,List.getD,this])
 have cy:N<=2000:=by omega
 clear bq bh ax;go_enter Tryz.func277,Tryz.ntmps277
 go_wp2_with fail
 rw[Aa cp];rename_i Q K hK
 have as:∀(g1 g2 g6:Nat) (W:World),Hid (MgSt w W N g1 g2 g6 xs ys 0)->K ⟨#[.slice (some ⟨H,U,none⟩) O aq,.slice (some ⟨I,Y,none⟩) M ap,undef,undef,.pointer (some ⟨w.heap.size,0,none⟩),.int .i64 (N:Int),.pointer (some ⟨g6,0,none⟩),undef,.slice (some ⟨H,U,none⟩) O aq,.int .i64 (O:Int),.slice (some ⟨I,Y,none⟩) M ap,.int .i64 (M:Int),.int .i64 (N:Int),.int .i64 (N:Int),.slice (some ⟨g1,0,none⟩) N N,.int .i64 (N:Int),.slice (some ⟨g2,0,none⟩) N N,.agg #[.slice (some ⟨g1,0,none⟩) N N,.slice (some ⟨g2,0,none⟩) N N],undef,undef,undef,undef,undef,undef,undef,undef,undef,undef,undef,undef,undef,undef,undef,undef,undef,undef,undef,undef,undef,undef,undef,undef,undef,undef,undef,undef,undef,undef,undef,undef,undef,undef,undef,undef,undef,undef,undef,undef,undef,undef,undef,undef,undef],[]⟩ W:=by
  intro g1 g2 g6 W cd;refine hK _ _ ?_;clear hK b4 bz K;go_wp2;go_loopw [0,1,7,19] (fun b8 b7 _ a9 wr=>∃(i j k p q u v ai ah:Nat) (a1 a3:Option Addr),Hid ((k=i+j/\p=U+i/\q=Y+j)/\(0<u->a1=some ⟨H,p,none⟩)/\(0<v->a3=some ⟨I,q,none⟩))/\u+i=O/\v+j=M/\u<=ai/\v<=ah/\ai<=aq/\ah<=ap/\a9=.int .i64 (k:Int)/\b8=.slice a1 u ai/\b7=.slice a3 v ah/\MgAt xs ys i j/\MgSt w wr N g1 g2 g6 xs ys k) (fun _ _ _ a9 _=>N-(intOf a9).toNat)
  case atStart=>exact⟨0,0,0,U,Y,O,M,aq,ap,some ⟨H,U,none⟩,some ⟨I,Y,none⟩,Ab ⟨⟨rfl,rfl,rfl⟩,fun _=>rfl,fun _=>rfl⟩,rfl,rfl,cn,cj,VB _,VB _,rfl,rfl,rfl,Aa ci,Aa cd⟩
  case round=>
   obtain⟨i,j,k,p,q,u,v,ai,ah,a1,a3,az,c8,ct,c4,c5,c7,c6,rfl,rfl,rfl,bu,bg⟩:=hrel;have Z:=Ab (Aa az).1;have ba:=Ab (Aa az).2.1;have a8:=Ab (Aa az).2.2;have a4:=Ab bu;have G:=Ab bg;clear az;have c3:k+u+v=N:=by have:=(Aa Z).1;have:=Aa b3;omega
   clear bu bg;have d0:=(Aa G).c0;have ac:=(Aa G).c1
   by_cases F:k<N
   . have cv:(k:Int)<(N:Int):=by omega
     have ab:=((Aa G).ws.at_ k (by rw[Ay];exact F)).1;have e2:=((Aa G).ws.at_ k (by rw[Ay];exact F)).2;have e3:=((Aa G).fs.at_ k (by rw[As];exact F)).1;have ae:=((Aa G).fs.at_ k (by rw[As];exact F)).2
     by_cases cl:v=0
     . obtain⟨x,T⟩:=exq (xs.getD i 0);have an:wr.cell? ⟨H,p,none⟩=some (.int .i64 x):=by rw[(Aa Z).2.1,<-T];exact((Aa G).bel.cell (p:=⟨H,U+i,none⟩) bd).trans (Aa bv i (by omega))
       obtain⟨m1,m2⟩:=(Aa a4).one (by omega) (.inl (by omega));have ay:=Aa ba (by omega);subst ay;have E:=Ab (Aa G).drew;rw[<-(Aa Z).1]at m1;have ag:mf xs ys k=x:=by unfold mf;rw[m1,<-T]
       have af:ms xs ys k=true:=by unfold ms;rw[m1]
       have ao:Hid (k+1=i+1+j/\p+1=U+(i+1)/\q=Y+j):=by have:=Aa Z;unfold Hid;omega
       have al:=Ab m2;have ak:=Ab ag;have aj:=Ab af;clear m1 m2 ag af;subst cl;have bi:(0:Int)<(u:Int):=by omega
       have bo:=Ab T;clear T;have aw:wr.drew.cell? ⟨H,p,none⟩=some (.int .i64 x):=an;go_wp2_with fail
       go_big_region
       clear d0 ac ab e2 e3 ae;generalize wr.drew=a6 at*;have d0:=(Aa E).c0;have ac:=(Aa E).c1;have ab:=((Aa E).ws.at_ k (by rw[Ay];exact F)).1;have e2:=((Aa E).ws.at_ k (by rw[Ay];exact F)).2;have e3:=((Aa E).fs.at_ k (by rw[As];exact F)).1;have ae:=((Aa E).fs.at_ k (by rw[As];exact F)).2;generalize (part (mf xs ys) N k).getD k 0=a7 at*;generalize (partB (ms xs ys) N k).getD k false=bb at*;have n12:=(Aa E).n12;have am:=Ab ((Aa E).set2 F x (Aa ak) (Aa aj)).1;have n21:g2≠g1:=fun e=>n12 e.symm
       have n61:g6≠g1:=fun e=>(Aa E).n16 e.symm
       go_wp2_with fail
       go_big_region
       clear d0 ac ab e2 e3 ae aw an;go_wp2;go_roundw
       case rel=>
        refine⟨i+1,j,k+1,p+1,q,u-1,0,ai-1,ah,if ai=1 then some ⟨H,p,none⟩else some ⟨H,p+1,none⟩,a3,Ab ⟨Aa ao,fun h=>by rw[if_neg (by omega)],fun h=>by omega⟩,by omega,by omega,by omega,by omega,by omega,by omega,by go_num, ?_,rfl,Aa al,Aa am⟩;rfl
       case measure=>simp[intOf];omega
     . by_cases b5:u=0
       . obtain⟨y,aa⟩:=exq (ys.getD j 0);have ar:wr.cell? ⟨I,q,none⟩=some (.int .i64 y):=by rw[(Aa Z).2.2,<-aa];exact((Aa G).bel.cell (p:=⟨I,Y+j,none⟩) bj).trans (Aa bm j (by omega))
         obtain⟨m1,m2⟩:=(Aa a4).two (by omega) (.inl (by omega));have av:=Aa a8 (by omega);subst av;have E:=Ab (Aa G).drew;rw[<-(Aa Z).1]at m1;have ag:mf xs ys k=y:=by unfold mf;rw[m1,<-aa]
         have af:ms xs ys k=false:=by unfold ms;rw[m1]
         have ao:Hid (k+1=i+(j+1)/\p=U+i/\q+1=Y+(j+1)):=by have:=Aa Z;unfold Hid;omega
         have al:=Ab m2;have ak:=Ab ag;have aj:=Ab af;clear m1 m2 ag af;subst b5;have bt:((v:Int)==0)=false:=by rw[beq_eq_false_iff_ne];omega
         have bf:(0:Int)<(v:Int):=by omega
         have be:=Ab aa;clear aa;have au:wr.drew.cell? ⟨I,q,none⟩=some (.int .i64 y):=ar;go_wp2_with fail
         go_big_region
         clear d0 ac ab e2 e3 ae;generalize wr.drew=a6 at*;have d0:=(Aa E).c0;have ac:=(Aa E).c1;have ab:=((Aa E).ws.at_ k (by rw[Ay];exact F)).1;have e2:=((Aa E).ws.at_ k (by rw[Ay];exact F)).2;have e3:=((Aa E).fs.at_ k (by rw[As];exact F)).1;have ae:=((Aa E).fs.at_ k (by rw[As];exact F)).2;generalize (part (mf xs ys) N k).getD k 0=a7 at*;generalize (partB (ms xs ys) N k).getD k false=bb at*;have am:=Ab ((Aa E).set1 F y (Aa ak) (Aa aj));go_wp2_with fail
         go_big_region
         clear d0 ac ab e2 e3 ae au ar;go_wp2;go_roundw
         case rel=>
          refine⟨i,j+1,k+1,p,q+1,0,v-1,ai,ah-1,a1,if ah=1 then some ⟨I,q,none⟩else some ⟨I,q+1,none⟩,Ab ⟨Aa ao,fun h=>by omega,fun h=>by rw[if_neg (by omega)]⟩,by omega,by omega,by omega,by omega,by omega,by omega,by go_num,rfl, ?_,Aa al,Aa am⟩;rfl
         case measure=>simp[intOf];omega
       . obtain⟨x,T⟩:=exq (xs.getD i 0);have an:wr.cell? ⟨H,p,none⟩=some (.int .i64 x):=by rw[(Aa Z).2.1,<-T];exact((Aa G).bel.cell (p:=⟨H,U+i,none⟩) bd).trans (Aa bv i (by omega))
         obtain⟨y,aa⟩:=exq (ys.getD j 0);have ar:wr.cell? ⟨I,q,none⟩=some (.int .i64 y):=by rw[(Aa Z).2.2,<-aa];exact((Aa G).bel.cell (p:=⟨I,Y+j,none⟩) bj).trans (Aa bm j (by omega))
         by_cases a0:x<=y
         . obtain⟨m1,m2⟩:=(Aa a4).one (by omega) (.inr (by rw[T,aa];exact a0));have ay:=Aa ba (by omega);subst ay;have av:=Aa a8 (by omega);subst av;have E:=Ab (Aa G).drew;rw[<-(Aa Z).1]at m1;have ag:mf xs ys k=x:=by unfold mf;rw[m1,<-T]
           have af:ms xs ys k=true:=by unfold ms;rw[m1]
           have ao:Hid (k+1=i+1+j/\p+1=U+(i+1)/\q=Y+j):=by have:=Aa Z;unfold Hid;omega
           have al:=Ab m2;have ak:=Ab ag;have aj:=Ab af;clear m1 m2 ag af;have bt:((v:Int)==0)=false:=by rw[beq_eq_false_iff_ne];omega
           have bf:(0:Int)<(v:Int):=by omega
           have bi:(0:Int)<(u:Int):=by omega
           have cq:0<u:=by omega
           have bw:decide (x<=y)=true:=decide_eq_true a0;have bo:=Ab T;clear T;have be:=Ab aa;clear aa;have aw:wr.drew.cell? ⟨H,p,none⟩=some (.int .i64 x):=an;have au:wr.drew.cell? ⟨I,q,none⟩=some (.int .i64 y):=ar;go_wp2_with fail
           go_big_region
           clear d0 ac ab e2 e3 ae;generalize wr.drew=a6 at*;have d0:=(Aa E).c0;have ac:=(Aa E).c1;have ab:=((Aa E).ws.at_ k (by rw[Ay];exact F)).1;have e2:=((Aa E).ws.at_ k (by rw[Ay];exact F)).2;have e3:=((Aa E).fs.at_ k (by rw[As];exact F)).1;have ae:=((Aa E).fs.at_ k (by rw[As];exact F)).2;generalize (part (mf xs ys) N k).getD k 0=a7 at*;generalize (partB (ms xs ys) N k).getD k false=bb at*;have n12:=(Aa E).n12;have am:=Ab ((Aa E).set2 F x (Aa ak) (Aa aj)).1;have n21:g2≠g1:=fun e=>n12 e.symm
           have n61:g6≠g1:=fun e=>(Aa E).n16 e.symm
           go_wp2_with fail
           go_big_region
           clear d0 ac ab e2 e3 ae aw an au ar;go_wp2;go_roundw
           case rel=>
            refine⟨i+1,j,k+1,p+1,q,u-1,v,ai-1,ah,if ai=1 then some ⟨H,p,none⟩else some ⟨H,p+1,none⟩,_,Ab ⟨Aa ao,fun h=>by rw[if_neg (by omega)],fun _=>rfl⟩,by omega,by omega,by omega,by omega,by omega,by omega,by go_num, ?_,rfl,Aa al,Aa am⟩;rfl
           case measure=>simp[intOf];omega
         . obtain⟨m1,m2⟩:=(Aa a4).two (by omega) (.inr (by rw[T,aa];exact a0));have ay:=Aa ba (by omega);subst ay;have av:=Aa a8 (by omega);subst av;have E:=Ab (Aa G).drew;rw[<-(Aa Z).1]at m1;have ag:mf xs ys k=y:=by unfold mf;rw[m1,<-aa]
           have af:ms xs ys k=false:=by unfold ms;rw[m1]
           have ao:Hid (k+1=i+(j+1)/\p=U+i/\q+1=Y+(j+1)):=by have:=Aa Z;unfold Hid;omega
           have al:=Ab m2;have ak:=Ab ag;have aj:=Ab af;clear m1 m2 ag af;have bt:((v:Int)==0)=false:=by rw[beq_eq_false_iff_ne];omega
           have bf:(0:Int)<(v:Int):=by omega
           have bi:(0:Int)<(u:Int):=by omega
           have cq:0<u:=by omega
           have bw:decide (x<=y)=false:=decide_eq_false a0;have bo:=Ab T;clear T;have be:=Ab aa;clear aa;have aw:wr.drew.cell? ⟨H,p,none⟩=some (.int .i64 x):=an;have au:wr.drew.cell? ⟨I,q,none⟩=some (.int .i64 y):=ar;go_wp2_with fail
           go_big_region
           clear d0 ac ab e2 e3 ae;generalize wr.drew=a6 at*;have d0:=(Aa E).c0;have ac:=(Aa E).c1;have ab:=((Aa E).ws.at_ k (by rw[Ay];exact F)).1;have e2:=((Aa E).ws.at_ k (by rw[Ay];exact F)).2;have e3:=((Aa E).fs.at_ k (by rw[As];exact F)).1;have ae:=((Aa E).fs.at_ k (by rw[As];exact F)).2;generalize (part (mf xs ys) N k).getD k 0=a7 at*;generalize (partB (ms xs ys) N k).getD k false=bb at*;have am:=Ab ((Aa E).set1 F y (Aa ak) (Aa aj));go_wp2_with fail
           go_big_region
           clear d0 ac ab e2 e3 ae au ar aw an;go_wp2;go_roundw
           case rel=>
            refine⟨i,j+1,k+1,p,q+1,u,v-1,ai,ah-1,_,if ah=1 then some ⟨I,q,none⟩else some ⟨I,q+1,none⟩,Ab ⟨Aa ao,fun _=>rfl,fun h=>by rw[if_neg (by omega)]⟩,by omega,by omega,by omega,by omega,by omega,by omega,by go_num,rfl, ?_,Aa al,Aa am⟩;rfl
           case measure=>simp[intOf];omega
   . obtain rfl:k=N:=by omega
     have a5:=(Aa G).ws;have a2:=(Aa G).fs;rw[Aa cg]at a5;rw[Aa ck]at a2;have r0:=(Aa G).r0;have r1:=(Aa G).r1;have f0:=(Aa G).f0;have f1:=(Aa G).f1;have b0:=Ab (Aa G).bel;have bn:=Ab (And.intro (Aa G).b1 (Aa G).b2);have a5:=Ab a5;have a2:=Ab a2;go_wp2
     have b9:((wr.setCell ⟨w.heap.size,0,none⟩ (.slice (some ⟨g1,0,none⟩) k k)).setCell ⟨w.heap.size,1,none⟩ (.slice (some ⟨g2,0,none⟩) k k)).cell? ⟨w.heap.size,0,none⟩=some (.slice (some ⟨g1,0,none⟩) k k):=
      (World.cell?_setCell_other _ _ _ _ (by intro h;injection h;omega)).trans (World.cell?_setCell_same _ _ _ r0)
     have ce:((wr.setCell ⟨w.heap.size,0,none⟩ (.slice (some ⟨g1,0,none⟩) k k)).setCell ⟨w.heap.size,1,none⟩ (.slice (some ⟨g2,0,none⟩) k k)).cell? ⟨w.heap.size,1,none⟩=some (.slice (some ⟨g2,0,none⟩) k k):=
      World.cell?_setCell_same _ _ _ ((World.cell?_setCell_other _ _ _ _ (by intro h;injection h;omega)).trans r1)
     refine bodyPost_ret (Z06 rfl _ _ _ _ _ rfl b9 ce) rfl ?_;have c9:=(Aa bn).1;have cz:=(Aa bn).2
     exact⟨g1,g2,rfl,((Aa a5).other (a:=⟨w.heap.size,0,none⟩) (by simp;omega) _).other (a:=⟨w.heap.size,1,none⟩) (by simp;omega) _,((Aa a2).other (a:=⟨w.heap.size,0,none⟩) (by simp;omega) _).other (a:=⟨w.heap.size,1,none⟩) (by simp;omega) _,
      ((Aa b0).setCell (p:=⟨w.heap.size,0,none⟩) (VB _) _).setCell (p:=⟨w.heap.size,1,none⟩) (VB _) _,by omega,by omega⟩
 go_big_region
 . exact as _ _ _ _ (Z4m w N xs ys)
 . exact as _ _ _ _ (Z4l w N xs ys)
 . exact as _ _ _ _ (Z4k w N xs ys)
 . exact as _ _ _ _ (Z4j w N xs ys)
 . exact as _ _ _ _ (Z4i w N xs ys)
 . exact as _ _ _ _ (Z4h w N xs ys)
def Il (fs:List Bool):Nat->Nat
 |0=>0
 |k+1=>Il fs k+(if fs.getD k false=true then 1 else 0)
theorem P7 (E:List Bool):∀k,Il E k<=k
 |0=>VB _
 |k+1=>by
  have:=P7 E k
  rw[Il]
  split<;>omega
theorem Od (r:List (Int×Bool)):∀t,t<=r.length->Bz r t=Il (r.map Prod.snd) t
 |0,_=>by simp[Bz,Il]
 |t+1,h=>by
  have ih:=Od r t (by omega);have E:t<r.length:=by omega
  unfold Bz at*;rw[XB E,List.filter_append,VE,ih,Il];have e:(r.map Prod.snd).getD t false=r[t].2:=by simp[List.getD,E]
  rw[e]
  cases h:r[t].2<;>simp[h]
theorem Ty (v:Value)(ah:v.oneCell'=true)(F N c m:Nat)(E:List Bool)(w:World)(ai:E.length=N)(aa:m<=N)(af:N<=2000)(M:BRow w F E):
 Calls Tryz.prog 262 #[.agg #[v,.slice (some ⟨F,0,none⟩) N c],.int .i64 m] w fun e w'=>e=.returned (.int .i64 ((Il E m:Nat):Int))/\Below w.heap.size w w':=by
 have T:=Ab M;have ab:=M.lt;clear M;go_enter Tryz.func262,Tryz.ntmps262
 go_wp2;have hb:(w.alloc (.cells #[v,.slice (some ⟨F,0,none⟩) N c] 340)).cell? ⟨w.heap.size,1,none⟩=some (.slice (some ⟨F,0,none⟩) N c):=by simp
 have U:=Ab ((Below.refl w.heap.size w).alloc (VB _) (.cells #[v,.slice (some ⟨F,0,none⟩) N c] 340));have O:=Ab ((Aa T).alloc (.cells #[v,.slice (some ⟨F,0,none⟩) N c] 340));generalize w.alloc (.cells #[v,.slice (some ⟨F,0,none⟩) N c] 340)=W at*;go_loop [5,6,8] (fun Y _ I=>∃k:Nat,k<=m/\I=.int .i64 (k:Int)/\Y=.int .i64 ((Il E k:Nat):Int)) (fun _ _ I=>m-(intOf I).toNat)
 case atStart=>exact⟨0,VH _,rfl,rfl⟩
 case round=>
  obtain⟨k,Z,rfl,rfl⟩:=hrel;have ag:=P7 E k
  by_cases ae:k<m
  . have c1:=((Aa O).at_ k (by omega)).1;have ac:(k:Int)<(N:Int):=by omega
    have G:Hid (Il E (k+1)=Il E k+(if E.getD k false=true then 1 else 0)):=rfl;generalize Il E k=u at*
    cases H:E.getD k false with
    |true=>
     rw[H]at c1 G;rw[if_pos rfl]at G;clear H;go_wp2;go_round
     case rel=>exact⟨k+1,by omega,by go_num,by rw[Aa G];go_num⟩
     case measure=>simp[intOf];omega
    |false=>
     rw[H]at c1 G;rw[if_neg (by simp)]at G;clear H;go_wp2;go_round
     case rel=>exact⟨k+1,by omega,by go_num,by rw[Aa G];rfl⟩
     case measure=>simp[intOf];omega
  . obtain rfl:k=m:=by omega
    go_wp2;go_ret;exact⟨rfl,Aa U⟩
theorem Gy:∀(xs ys:List Int) (x:Int),x∈(mrg xs ys).map Prod.fst->x∈xs\/x∈ys
 | [],ys,x,h=>by
  rw[Kn]at h;simp at h
  exact .inr h
 |z::xs,[],x,h=>by
  rw[Nj,WQ,WH]at h
  rcases h with h|h
  . exact .inl (by rw[h];exact XP)
  . rcases Gy xs [] x h with h|h
    . exact .inl (WR _ h)
    . cases h
 |z::xs,y::ys,x,h=>by
  rw[Jc]at h
  split at h
  . rw[WQ,WH]at h
    rcases h with h|h
    . exact .inl (by rw[h];exact XP)
    . rcases Gy xs (y::ys) x h with h|h
      . exact .inl (WR _ h)
      . exact .inr h
  . rw[WQ,WH]at h
    rcases h with h|h
    . exact .inr (by rw[h];exact XP)
    . rcases Gy (z::xs) ys x h with h|h
      . exact .inl h
      . exact .inr (WR _ h)
termination_by xs ys=>xs.length+ys.length
theorem Xr:∀(xs:List Int) (x:Int),x∈prs xs->∃a b,a∈xs/\b∈xs/\x=a+b
 | [],x,h=>by simp[prs]at h
 | [y],x,h=>by simp[prs]at h
 |y::z::t,x,h=>by
  rw[prs,WH]at h
  rcases h with h|h
  . exact⟨y,z,by simp,by simp,h⟩
  . obtain⟨a,b,E,hb,e⟩:=Xr t x h;exact⟨a,b,by simp[E],by simp[hb],e⟩
theorem Iz (W:List Int):∀k,(rowAt W k).length<=2*W.length
 |0=>by rw[rowAt,Bo];simp;omega
 |k+1=>by
  have:=Iz W k
  rw[rowAt,Bo,Eo,WL];omega
theorem Kk (W:List Int)(M:Int)(E:∀x∈W,0<=x/\x<=M):∀k,∀x∈(rowAt W k).map Prod.fst,0<=x/\x<=M*2^k
 |0,x,h=>by
  rw[rowAt]at h
  rcases Gy W [] x h with h|h
  . have:=E x h;simpa using this
  . cases h
 |k+1,x,h=>by
  rw[rowAt]at h;have I:(0:Int)<2^k:=Int.pow_pos (by decide);rw[Int.pow_succ]
  rcases Gy _ _ x h with h|h
  . have:=E x h
    have H:0<=M:=by omega
    have F:M*1<=M*(2^k*2):=Int.mul_le_mul_of_nonneg_left (by omega) H;rw[Int.mul_one]at F;omega
  . obtain⟨a,b,G,hb,e⟩:=Xr _ x h;have O:=Kk W M E k a G;have F:=Kk W M E k b hb;rw[<-Int.mul_assoc];omega
theorem T3 (W:List Int)(H:∀x∈W,0<=x/\x<=1000000)(k:Nat)(F:k<=15)(j:Nat):0<=((rowAt W k).map Prod.fst).getD j 0/\((rowAt W k).map Prod.fst).getD j 0<=1000000000000:=by
 by_cases G:j<((rowAt W k).map Prod.fst).length
 . have h:=Kk W 1000000 H k (((rowAt W k).map Prod.fst).getD j 0) (by simp only[List.getD,VP G,YH];exact WK _);have I:(2:Nat)^k<=2^15:=VO (by decide) F;have E:((2:Int)^k)=((2^k:Nat):Int):=by push_cast;rfl
   rw[E]at h;generalize 2^k=q at*;omega
 . rw[List.getD,WJ (by omega)];decide
structure StSt (w W:World)(g m:Nat)(Ws:List Int)(k:Nat)(A B:Nat->Nat):Prop where
 glo:w.heap.size<=g
 ghi:g<W.heap.size
 fz:∀j,W.frozen? ⟨g,j,none⟩=false
 done:∀i,i<k->W.cell? ⟨g,i*2,none⟩=some (.slice (some ⟨A i,0,none⟩) (rowAt Ws i).length (rowAt Ws i).length)/\W.cell? ⟨g,i*2+1,none⟩=some (.slice (some ⟨B i,0,none⟩) (rowAt Ws i).length (rowAt Ws i).length)
 todo:∀i,k<=i->i<m->W.cell? ⟨g,i*2,none⟩=some (.slice none 0 0)/\W.cell? ⟨g,i*2+1,none⟩=some (.slice none 0 0)
 ws:∀i,i<k->w.heap.size<=A i/\A i≠g/\WRow W (A i) ((rowAt Ws i).map Prod.fst)
 fs:∀i,i<k->w.heap.size<=B i/\B i≠g/\BRow W (B i) ((rowAt Ws i).map Prod.snd)
 bel:Below w.heap.size w W
theorem StSt.below {w W W':World}{G m:Nat}{M:List Int}{k:Nat}{O B:Nat->Nat}(E:StSt w W G m M k O B)(F:Below W.heap.size W W'):StSt w W' G m M k O B:=by
 have T:w.heap.size<=W.heap.size:=E.bel.size;refine⟨E.glo,VG E.ghi F.size,fun j=> ?_,fun i hi=>⟨?_, ?_⟩,fun i H I=>⟨?_, ?_⟩,fun i hi=>⟨(E.ws i hi).1,(E.ws i hi).2.1,(E.ws i hi).2.2.below F (E.ws i hi).2.2.lt⟩,fun i hi=>⟨(E.fs i hi).1,(E.fs i hi).2.1,(E.fs i hi).2.2.below F (E.fs i hi).2.2.lt⟩,E.bel.trans (F.mono T)⟩
 . rw[F.frozen (p:=⟨G,j,none⟩) E.ghi];exact E.fz j
 . rw[F.cell (p:=⟨G,i*2,none⟩) E.ghi];exact(E.done i hi).1
 . rw[F.cell (p:=⟨G,i*2+1,none⟩) E.ghi];exact(E.done i hi).2
 . rw[F.cell (p:=⟨G,i*2,none⟩) E.ghi];exact(E.todo i H I).1
 . rw[F.cell (p:=⟨G,i*2+1,none⟩) E.ghi];exact(E.todo i H I).2
theorem StSt.next {w W:World}{E m:Nat}{I:List Int}{k:Nat}{Z B:Nat->Nat}(F:StSt w W E m I k Z B)(Y:k<m)(a b:Nat)(M:w.heap.size<=a/\a≠E)(O:w.heap.size<=b/\b≠E)(aa:WRow W a ((rowAt I k).map Prod.fst))(ac:BRow W b ((rowAt I k).map Prod.snd))(H:Nat)(ag:H=(rowAt I k).length):
 StSt w ((W.setCell ⟨E,k*2,none⟩ (.slice (some ⟨a,0,none⟩) H H)).setCell ⟨E,k*2+1,none⟩ (.slice (some ⟨b,0,none⟩) H H)) E m I (k+1) (fun i=>if i=k then a else Z i) (fun i=>if i=k then b else B i):=by
 subst ag
 have o:∀j x y,j≠k*2->j≠k*2+1->((W.setCell ⟨E,k*2,none⟩ x).setCell ⟨E,k*2+1,none⟩ y).cell? ⟨E,j,none⟩=W.cell? ⟨E,j,none⟩:=fun j x y ai e2=>
  (World.cell?_setCell_other _ _ _ _ (by intro F;injection F;omega)).trans (World.cell?_setCell_other _ _ _ _ (by intro F;injection F;omega))
 have ab:∀x y,((W.setCell ⟨E,k*2,none⟩ x).setCell ⟨E,k*2+1,none⟩ y).cell? ⟨E,k*2,none⟩=some x:=fun x y=>
  (World.cell?_setCell_other _ _ _ _ (by intro F;injection F;omega)).trans (World.cell?_setCell_same _ _ _ (F.todo k (VB _) Y).1)
 have ae:∀x y,((W.setCell ⟨E,k*2,none⟩ x).setCell ⟨E,k*2+1,none⟩ y).cell? ⟨E,k*2+1,none⟩=some y:=fun x y=>
  World.cell?_setCell_same _ _ _ ((World.cell?_setCell_other _ _ _ _ (by intro F;injection F;omega)).trans (F.todo k (VB _) Y).2)
 refine⟨F.glo,by simpa using F.ghi,fun j=>by simp[F.fz j],fun i hi=> ?_,fun i ah af=> ?_,fun i hi=> ?_,fun i hi=> ?_,(F.bel.setCell (p:=⟨E,k*2,none⟩) F.glo _).setCell (p:=⟨E,k*2+1,none⟩) F.glo _⟩
 . by_cases e:i=k
   . subst e;simp only[if_true];exact⟨ab _ _,ae _ _⟩
   . simp only[if_neg e];rw[o _ _ _ (by omega) (by omega),o _ _ _ (by omega) (by omega)];exact F.done i (by omega)
 . rw[o _ _ _ (by omega) (by omega),o _ _ _ (by omega) (by omega)];exact F.todo i (by omega) af
 . by_cases e:i=k
   . subst e;simp only[if_true];exact⟨M.1,M.2,(aa.other (a:=⟨E,i*2,none⟩) (fun e=>M.2 e.symm) _).other (a:=⟨E,i*2+1,none⟩) (fun e=>M.2 e.symm) _⟩
   . simp only[if_neg e];obtain⟨T,G,U⟩:=F.ws i (by omega);exact⟨T,G,(U.other (a:=⟨E,k*2,none⟩) (fun e=>G e.symm) _).other (a:=⟨E,k*2+1,none⟩) (fun e=>G e.symm) _⟩
 . by_cases e:i=k
   . subst e;simp only[if_true];exact⟨O.1,O.2,(ac.other (a:=⟨E,i*2,none⟩) (fun e=>O.2 e.symm) _).other (a:=⟨E,i*2+1,none⟩) (fun e=>O.2 e.symm) _⟩
   . simp only[if_neg e];obtain⟨T,G,U⟩:=F.fs i (by omega);exact⟨T,G,(U.other (a:=⟨E,k*2,none⟩) (fun e=>G e.symm) _).other (a:=⟨E,k*2+1,none⟩) (fun e=>G e.symm) _⟩
end Go.Proofs.YtleocpdblhbimaaGreatDoor
