import Derived.Test.YtieianhejdcgdaaGreatDoorQ23
import Derived.Deep.OwnRows
set_option maxHeartbeats 4000000
namespace Go.Proofs.YtieianhejdcgdaaGreatDoor
open Go.RowKit
set_option linter.unusedVariables false
theorem MQ:(Tryz.prog.info? 4).map (fun i=>(i.zero,i.size,i.bytes))=some (some (.bool false),1,1):=by kernel_rfl
structure BRow (w:World)(g:Nat)(xs:List Bool):Prop where
 lt:g<w.heap.size
 at_:∀j,j<xs.length->w.cell? ⟨g,j,none⟩=some (.bool (xs.getD j false))/\w.frozen? ⟨g,j,none⟩=false
theorem BRow.below {w w':World}{B g:Nat}{xs:List Bool}(h:BRow w g xs)(hB:Below B w w')(hb:g<B):BRow w' g xs:=
 ⟨VK h.lt hB.size,fun j hj=>⟨by rw[hB.cell (p:=⟨g,j,none⟩) hb];exact(h.at_ j hj).1,by rw[hB.frozen (p:=⟨g,j,none⟩) hb];exact(h.at_ j hj).2⟩⟩
theorem BRow.set {w:World}{g:Nat}{xs:List Bool}(h:BRow w g xs)(i:Nat)(hi:i<xs.length)(v:Bool):BRow (w.setCell ⟨g,i,none⟩ (.bool v)) g (xs.set i v):=by
 refine⟨by simpa using h.lt,fun j hj=> ?_⟩;rw[YA]at hj;refine⟨?_,by simp[(h.at_ j hj).2]⟩
 by_cases e:i=j
 . subst e;rw[World.cell?_setCell_same _ _ _ (h.at_ i hj).1];simp[List.getD,hi]
 . rw[World.cell?_setCell_other _ _ _ _ (by intro h;injection h;omega),(h.at_ j hj).1];simp[List.getD,e]
theorem BRow.other {w:World}{g:Nat}{xs:List Bool}(h:BRow w g xs){a:Addr}(ha:a.block≠g)(v:Value):BRow (w.setCell a v) g xs:=by
 refine⟨by simpa using h.lt,fun j hj=>⟨?_,by simp[(h.at_ j hj).2]⟩⟩;rw[World.cell?_setCell_other _ _ _ _ (by intro h;subst h;exact ha rfl)];exact(h.at_ j hj).1
theorem BRow.drew {w:World}{g:Nat}{xs:List Bool}(h:BRow w g xs):BRow w.drew g xs:=⟨h.lt,h.at_⟩
theorem BRow.grown {w w':World}{g:Nat}{xs:List Bool}{r:Option Nat}(h:BRow w g xs)(hg:w.grownBy w' r)(hne:some g≠r):BRow w' g xs:=by
 refine⟨VK h.lt hg.size,fun j hj=> ?_⟩;have e:=hg.block g h.lt hne;exact⟨by rw[World.cell?_of_block (w:=w) (a:=⟨g,j,none⟩) e];exact(h.at_ j hj).1,by rw[World.frozen?_of_block (w:=w) (a:=⟨g,j,none⟩) e];exact(h.at_ j hj).2⟩
theorem WRow.made (w:World)(N:Nat)(t:TypeId)(g:Nat)(hg:g=w.heap.size):WRow (w.alloc (.cells (madeCells #[Value.int .i64 0] N) t)) g (List.replicate N 0):=by
 subst hg;refine⟨by simp,fun j hj=>⟨?_,by simp⟩⟩;rw[World.cell?_alloc_at _ _ _ _ rfl];have hj':j<N:=by simpa using hj
 simp[madeCells,hj',List.getD,Nat.mod_one]
theorem BRow.made (w:World)(N:Nat)(t:TypeId)(g:Nat)(hg:g=w.heap.size):BRow (w.alloc (.cells (madeCells #[Value.bool false] N) t)) g (List.replicate N false):=by
 subst hg;refine⟨by simp,fun j hj=>⟨?_,by simp⟩⟩;rw[World.cell?_alloc_at _ _ _ _ rfl];have hj':j<N:=by simpa using hj
 simp[madeCells,hj',List.getD,Nat.mod_one]
theorem WRow.alloc {w:World}{g:Nat}{xs:List Int}(h:WRow w g xs)(o:Obj):WRow (w.alloc o) g xs:=h.grown (World.grownBy_alloc w o none) (by simp)
theorem BRow.alloc {w:World}{g:Nat}{xs:List Bool}(h:BRow w g xs)(o:Obj):BRow (w.alloc o) g xs:=h.grown (World.grownBy_alloc w o none) (by simp)
def partB (f:Nat->Bool)(m:Nat):Nat->List Bool
 |0=>List.replicate m false
 |k+1=>(partB f m k).set k (f k)
theorem Am (f:Nat->Bool)(m:Nat):∀k,(partB f m k).length=m
 |0=>by simp[partB]
 |k+1=>by rw[partB,YA,Am f m k]
theorem NM (xs:List Bool)(i j:Nat)(v:Bool):(xs.set i v).getD j false=if i=j/\i<xs.length then v else xs.getD j false:=by
 simp only[List.getD];rw[ZH]
 by_cases e:i=j
 . subst e
   by_cases h:i<xs.length
   . simp[h]
   . simp[h]
 . simp[e]
theorem Jk (f:Nat->Bool)(m:Nat):∀k j,j<m->(partB f m k).getD j false=if j<k then f j else false
 |0,j,hj=>by simp[partB,List.getD,hj]
 |k+1,j,hj=>by
  rw[partB,NM,Am,Jk f m k j hj]
  by_cases e:k=j
  . subst e;rw[if_pos ⟨rfl,hj⟩,if_pos (by omega)]
  . rw[if_neg (by omega)]
    by_cases h:j<k
    . rw[if_pos h,if_pos (by omega)]
    . rw[if_neg h,if_neg (by omega)]
theorem KZ (f:Nat->Bool)(m:Nat)(xs:List Bool)(hl:xs.length=m)(h:∀j,j<m->xs.getD j false=f j):partB f m m=xs:=by
 apply XF
 . rw[Am,hl]
 . intro i h1 h2;rw[Am]at h1;have e1:=Jk f m m i h1;rw[if_pos h1,<-h i h1]at e1;simpa[List.getD,Am,h1,h2]using e1
theorem DX (f:Nat->Bool)(m k:Nat)(hk:f k=false)(hm:k<m):partB f m (k+1)=partB f m k:=by
 apply XF
 . rw[Am,Am]
 . intro i h1 h2;rw[Am]at h1;have e1:=Jk f m (k+1) i h1;have e2:=Jk f m k i h1;simp only[List.getD,Am,h1,VR,XR]at e1 e2;rw[e1,e2]
   by_cases e:i=k
   . subst e;rw[if_pos (by omega),if_neg (by omega),hk]
   . by_cases h:i<k
     . rw[if_pos h,if_pos (by omega)]
     . rw[if_neg h,if_neg (by omega)]
theorem Be:∀xs ys:List Int,(mrg xs ys).length=xs.length+ys.length
 | [],ys=>by simp[Kg]
 |x::xs,[]=>by
  rw[Mv,VH,Be xs []];simp
 |x::xs,y::ys=>by
  rw[Iq]
  split
  . rw[VH,Be xs (y::ys)];simp;omega
  . rw[VH,Be (x::xs) ys];simp;omega
termination_by xs ys=>xs.length+ys.length
theorem MM:(Tryz.prog.info? 344).map (·.size)=some 2:=by kernel_rfl
theorem C9 {w:World}{b o:Nat}{x y:Value}(h0:w.cell? ⟨b,o,none⟩=some x)(h1:w.cell? ⟨b,o+1,none⟩=some y):(loadVar 344 ⟨b,o,none⟩).run Tryz.prog w=.ok (.agg #[x,y]) w:=by
 have hl:(loadCells ⟨b,o,none⟩ [x,y].length).run Tryz.prog w=.ok [x,y].toArray w:=
  run_loadCells_list (P:=Tryz.prog) w ⟨b,o,none⟩ [x,y] (fun j v hv=>by
   match j,hv with
   |0,hv=>simp at hv;subst hv;simpa[Addr.add]using h0
   |1,hv=>simp at hv;subst hv;simpa[Addr.add]using h1)
 obtain⟨i,hi,hs⟩:=ZA.1 MM;simp only[VH,VQ,WI,Nat.reduceAdd]at hl;simp[loadVar,Sem.run_bind,sizeOf,typeInfo,hi,hs,hl]
theorem RP {fn:Func}{p:Tmp}(h:fn.results= #[.cell p 344])(tmps:Array Value)(w:World)(b:Nat)(x y:Value)(hp:tmps.getD p undef=.pointer (some ⟨b,0,none⟩))(h0:w.cell? ⟨b,0,none⟩=some x)(h1:w.cell? ⟨b,1,none⟩=some y):
 (results fn tmps).run Tryz.prog w=.ok (.agg #[x,y]) w:=by
 have hp':tmps[p]?.getD undef=.pointer (some ⟨b,0,none⟩):=by simpa using hp
 simp[results,h,hp',asAddr,C9 h0 h1]
def MgAt (xs ys:List Int)(i j:Nat):Prop:=(mrg xs ys).drop (i+j)=mrg (xs.drop i) (ys.drop j)
theorem Uu {α:Type}(l:List α)(n:Nat)(d:α):l.getD n d=(l.drop n).getD 0 d:=by simp[List.getD]
theorem Jb {xs:List Int}{i:Nat}(h:i<xs.length):xs.drop i=xs.getD i 0::xs.drop (i+1):=by
 rw[XD h];simp[List.getD,h]
theorem MgAt.one {xs ys:List Int}{i j:Nat}(h:MgAt xs ys i j)(hi:i<xs.length)(hc:¬j<ys.length\/xs.getD i 0<=ys.getD j 0):(mrg xs ys).getD (i+j) (0,false)=(xs.getD i 0,true)/\MgAt xs ys (i+1) j:=by
 unfold MgAt at*
 have e:mrg (xs.drop i) (ys.drop j)=(xs.getD i 0,true)::mrg (xs.drop (i+1)) (ys.drop j):=by
  rw[Jb hi]
  by_cases hj:j<ys.length
  . rw[Jb hj,Iq,if_pos (by rcases hc with h|h;exact absurd hj h;exact h),<-Jb hj]
  . rw[show ys.drop j= [] from XL (by omega),Mv]
 constructor
 . rw[Uu,h,e];rfl
 . rw[show i+1+j=(i+j)+1 by omega,<-YY,h,e];rfl
theorem MgAt.two {xs ys:List Int}{i j:Nat}(h:MgAt xs ys i j)(hj:j<ys.length)(hc:¬i<xs.length\/¬xs.getD i 0<=ys.getD j 0):(mrg xs ys).getD (i+j) (0,false)=(ys.getD j 0,false)/\MgAt xs ys i (j+1):=by
 unfold MgAt at*
 have e:mrg (xs.drop i) (ys.drop j)=(ys.getD j 0,false)::mrg (xs.drop i) (ys.drop (j+1)):=by
  rw[Jb hj]
  by_cases hi:i<xs.length
  . rw[Jb hi,Iq,if_neg (by rcases hc with h|h;exact absurd hi h;exact h)]
  . rw[show xs.drop i= [] from XL (by omega),Kg,Kg];rfl
 constructor
 . rw[Uu,h,e];rfl
 . rw[show i+(j+1)=(i+j)+1 by omega,<-YY,h,e];rfl
def mf (xs ys:List Int)(k:Nat):Int:=((mrg xs ys).getD k (0,false)).1
def ms (xs ys:List Int)(k:Nat):Bool:=((mrg xs ys).getD k (0,false)).2
structure MgSt (w W:World)(N g1 g2 g6:Nat)(xs ys:List Int)(k:Nat):Prop where
 b1:w.heap.size<g1
 b2:w.heap.size<g2
 b6:w.heap.size<g6
 n12:g1≠g2
 n16:g1≠g6
 n26:g2≠g6
 ws:WRow W g1 (part (mf xs ys) N k)
 fs:BRow W g2 (partB (ms xs ys) N k)
 c0:W.cell? ⟨g6,0,none⟩=some (.slice (some ⟨g1,0,none⟩) N N)
 c1:W.cell? ⟨g6,1,none⟩=some (.slice (some ⟨g2,0,none⟩) N N)
 r0:W.cell? ⟨w.heap.size,0,none⟩=some (.slice none 0 0)
 r1:W.cell? ⟨w.heap.size,1,none⟩=some (.slice none 0 0)
 f0:W.frozen? ⟨w.heap.size,0,none⟩=false
 f1:W.frozen? ⟨w.heap.size,1,none⟩=false
 bel:Below w.heap.size w W
theorem MgSt.drew {w W:World}{N g1 g2 g6:Nat}{xs ys:List Int}{k:Nat}(h:MgSt w W N g1 g2 g6 xs ys k):MgSt w W.drew N g1 g2 g6 xs ys k:=
 ⟨h.b1,h.b2,h.b6,h.n12,h.n16,h.n26,h.ws.drew,h.fs.drew,h.c0,h.c1,h.r0,h.r1,h.f0,h.f1,Af h.bel 1⟩
theorem MgSt.set1 {w W:World}{N g1 g2 g6:Nat}{xs ys:List Int}{k:Nat}(h:MgSt w W N g1 g2 g6 xs ys k)(hk:k<N)(x:Int)(hx:mf xs ys k=x)(hs:ms xs ys k=false):MgSt w (W.setCell ⟨g1,k,none⟩ (.int .i64 x)).drew N g1 g2 g6 xs ys (k+1):=by
 have hb1:=h.b1;have o:∀b o,b≠g1->(W.setCell ⟨g1,k,none⟩ (.int .i64 x)).drew.cell? ⟨b,o,none⟩=W.cell? ⟨b,o,none⟩:=fun b o hb=>World.cell?_setCell_other _ _ _ _ (by intro h;injection h with h1;exact hb h1.symm)
 refine⟨h.b1,h.b2,h.b6,h.n12,h.n16,h.n26, ?_, ?_, ?_, ?_, ?_, ?_, ?_, ?_, ?_⟩
 . rw[part,hx];exact(h.ws.set k (by rw[Au];exact hk) x).drew
 . rw[DX _ _ _ hs hk];exact(h.fs.other (a:=⟨g1,k,none⟩) h.n12 _).drew
 . rw[o _ _ (fun e=>h.n16 e.symm)];exact h.c0
 . rw[o _ _ (fun e=>h.n16 e.symm)];exact h.c1
 . rw[o _ _ (by omega)];exact h.r0
 . rw[o _ _ (by omega)];exact h.r1
 . show (W.setCell ⟨g1,k,none⟩ (.int .i64 x)).frozen? _=_
   rw[World.frozen?_setCell];exact h.f0
 . show (W.setCell ⟨g1,k,none⟩ (.int .i64 x)).frozen? _=_
   rw[World.frozen?_setCell];exact h.f1
 . exact Af (h.bel.setCell (p:=⟨g1,k,none⟩) (by simp;omega) _) 1
theorem MgSt.set2 {w W:World}{N g1 g2 g6:Nat}{xs ys:List Int}{k:Nat}(h:MgSt w W N g1 g2 g6 xs ys k)(hk:k<N)(x:Int)(hx:mf xs ys k=x)(hs:ms xs ys k=true):
 MgSt w ((W.setCell ⟨g1,k,none⟩ (.int .i64 x)).setCell ⟨g2,k,none⟩ (.bool true)).drew N g1 g2 g6 xs ys (k+1)/\MgSt w ((W.setCell ⟨g2,k,none⟩ (.bool true)).setCell ⟨g1,k,none⟩ (.int .i64 x)).drew N g1 g2 g6 xs ys (k+1):=by
 have hb1:=h.b1;have hb2:=h.b2;have o1:∀(V:World) b o v,b≠g1->(V.setCell ⟨g1,k,none⟩ v).cell? ⟨b,o,none⟩=V.cell? ⟨b,o,none⟩:=fun V b o v hb=>World.cell?_setCell_other _ _ _ _ (by intro h;injection h with h1;exact hb h1.symm)
 have o2:∀(V:World) b o v,b≠g2->(V.setCell ⟨g2,k,none⟩ v).cell? ⟨b,o,none⟩=V.cell? ⟨b,o,none⟩:=fun V b o v hb=>World.cell?_setCell_other _ _ _ _ (by intro h;injection h with h1;exact hb h1.symm)
 have hw:k<(part (mf xs ys) N k).length:=by rw[Au];exact hk
 have hf:k<(partB (ms xs ys) N k).length:=by rw[Am];exact hk
 constructor
 . refine⟨h.b1,h.b2,h.b6,h.n12,h.n16,h.n26, ?_, ?_, ?_, ?_, ?_, ?_, ?_, ?_, ?_⟩
   . rw[part,hx];exact((h.ws.set k hw x).other (a:=⟨g2,k,none⟩) (fun e=>h.n12 e.symm) _).drew
   . rw[partB,hs];exact((h.fs.other (a:=⟨g1,k,none⟩) h.n12 _).set k hf true).drew
   . exact(o2 _ _ _ _ (fun e=>h.n26 e.symm)).trans ((o1 _ _ _ _ (fun e=>h.n16 e.symm)).trans h.c0)
   . exact(o2 _ _ _ _ (fun e=>h.n26 e.symm)).trans ((o1 _ _ _ _ (fun e=>h.n16 e.symm)).trans h.c1)
   . exact(o2 _ _ _ _ (by omega)).trans ((o1 _ _ _ _ (by omega)).trans h.r0)
   . exact(o2 _ _ _ _ (by omega)).trans ((o1 _ _ _ _ (by omega)).trans h.r1)
   . show ((W.setCell _ _).setCell _ _).frozen? _=_
     rw[World.frozen?_setCell,World.frozen?_setCell];exact h.f0
   . show ((W.setCell _ _).setCell _ _).frozen? _=_
     rw[World.frozen?_setCell,World.frozen?_setCell];exact h.f1
   . exact Af ((h.bel.setCell (p:=⟨g1,k,none⟩) (by simp;omega) _).setCell (p:=⟨g2,k,none⟩) (by simp;omega) _) 1
 . refine⟨h.b1,h.b2,h.b6,h.n12,h.n16,h.n26, ?_, ?_, ?_, ?_, ?_, ?_, ?_, ?_, ?_⟩
   . rw[part,hx];exact((h.ws.other (a:=⟨g2,k,none⟩) (fun e=>h.n12 e.symm) _).set k hw x).drew
   . rw[partB,hs];exact((h.fs.set k hf true).other (a:=⟨g1,k,none⟩) h.n12 _).drew
   . exact(o1 _ _ _ _ (fun e=>h.n16 e.symm)).trans ((o2 _ _ _ _ (fun e=>h.n26 e.symm)).trans h.c0)
   . exact(o1 _ _ _ _ (fun e=>h.n16 e.symm)).trans ((o2 _ _ _ _ (fun e=>h.n26 e.symm)).trans h.c1)
   . exact(o1 _ _ _ _ (by omega)).trans ((o2 _ _ _ _ (by omega)).trans h.r0)
   . exact(o1 _ _ _ _ (by omega)).trans ((o2 _ _ _ _ (by omega)).trans h.r1)
   . show ((W.setCell _ _).setCell _ _).frozen? _=_
     rw[World.frozen?_setCell,World.frozen?_setCell];exact h.f0
   . show ((W.setCell _ _).setCell _ _).frozen? _=_
     rw[World.frozen?_setCell,World.frozen?_setCell];exact h.f1
   . exact Af ((h.bel.setCell (p:=⟨g2,k,none⟩) (by simp;omega) _).setCell (p:=⟨g1,k,none⟩) (by simp;omega) _) 1
theorem Z32 (w:World)(N:Nat)(xs ys:List Int):MgSt w ((((w.alloc (.cells #[.slice none 0 0,.slice none 0 0] 344)).alloc (.cells (madeCells #[.int .i64 0] N) 3)).alloc (.cells (madeCells #[.bool false] N) 4)).alloc (.cells #[.slice (some ⟨w.heap.size+1,0,none⟩) N N,.slice (some ⟨w.heap.size+2,0,none⟩) N N] 344)).drew N (w.heap.size+1) (w.heap.size+2) (w.heap.size+3) xs ys 0:=by
 refine⟨by omega,by omega,by omega,by omega,by omega,by omega,(((WRow.made (w.alloc (.cells #[.slice none 0 0,.slice none 0 0] 344)) N 3 (w.heap.size+1) (by simp)).alloc _).alloc _).drew,((BRow.made ((w.alloc (.cells #[.slice none 0 0,.slice none 0 0] 344)).alloc (.cells (madeCells #[.int .i64 0] N) 3)) N 4 (w.heap.size+2) (by simp)).alloc _).drew, ?_, ?_, ?_, ?_, ?_, ?_, ?_⟩
 all_goals first|exact Af (((((Below.refl w.heap.size w).alloc (VC _) _).alloc (by simp) _).alloc (by simp;omega) _).alloc (by simp;omega) _) 1|skip
 all_goals (simp only[World.alloc,World.cell?,World.frozen?,World.drew,XZ,YS];simp[WJ])
theorem Z31 (w:World)(N:Nat)(xs ys:List Int):MgSt w ((((w.alloc (.cells #[.slice none 0 0,.slice none 0 0] 344)).alloc (.cells (madeCells #[.int .i64 0] N) 3)).alloc (.cells #[.slice (some ⟨w.heap.size+1,0,none⟩) N N,.slice (some ⟨w.heap.size+3,0,none⟩) N N] 344)).alloc (.cells (madeCells #[.bool false] N) 4)).drew N (w.heap.size+1) (w.heap.size+3) (w.heap.size+2) xs ys 0:=by
 refine⟨by omega,by omega,by omega,by omega,by omega,by omega,(((WRow.made (w.alloc (.cells #[.slice none 0 0,.slice none 0 0] 344)) N 3 (w.heap.size+1) (by simp)).alloc _).alloc _).drew,(BRow.made (((w.alloc (.cells #[.slice none 0 0,.slice none 0 0] 344)).alloc (.cells (madeCells #[.int .i64 0] N) 3)).alloc (.cells #[.slice (some ⟨w.heap.size+1,0,none⟩) N N,.slice (some ⟨w.heap.size+3,0,none⟩) N N] 344)) N 4 (w.heap.size+3) (by simp)).drew, ?_, ?_, ?_, ?_, ?_, ?_, ?_⟩
 all_goals first|exact Af (((((Below.refl w.heap.size w).alloc (VC _) _).alloc (by simp) _).alloc (by simp;omega) _).alloc (by simp;omega) _) 1|skip
 all_goals (simp only[World.alloc,World.cell?,World.frozen?,World.drew,XZ,YS];simp[WJ])
theorem Z30 (w:World)(N:Nat)(xs ys:List Int):MgSt w ((((w.alloc (.cells #[.slice none 0 0,.slice none 0 0] 344)).alloc (.cells (madeCells #[.bool false] N) 4)).alloc (.cells (madeCells #[.int .i64 0] N) 3)).alloc (.cells #[.slice (some ⟨w.heap.size+2,0,none⟩) N N,.slice (some ⟨w.heap.size+1,0,none⟩) N N] 344)).drew N (w.heap.size+2) (w.heap.size+1) (w.heap.size+3) xs ys 0:=by
 refine⟨by omega,by omega,by omega,by omega,by omega,by omega,((WRow.made ((w.alloc (.cells #[.slice none 0 0,.slice none 0 0] 344)).alloc (.cells (madeCells #[.bool false] N) 4)) N 3 (w.heap.size+2) (by simp)).alloc _).drew,(((BRow.made (w.alloc (.cells #[.slice none 0 0,.slice none 0 0] 344)) N 4 (w.heap.size+1) (by simp)).alloc _).alloc _).drew, ?_, ?_, ?_, ?_, ?_, ?_, ?_⟩
 all_goals first|exact Af (((((Below.refl w.heap.size w).alloc (VC _) _).alloc (by simp) _).alloc (by simp;omega) _).alloc (by simp;omega) _) 1|skip
 all_goals (simp only[World.alloc,World.cell?,World.frozen?,World.drew,XZ,YS];simp[WJ])
theorem Z2z (w:World)(N:Nat)(xs ys:List Int):MgSt w ((((w.alloc (.cells #[.slice none 0 0,.slice none 0 0] 344)).alloc (.cells (madeCells #[.bool false] N) 4)).alloc (.cells #[.slice (some ⟨w.heap.size+3,0,none⟩) N N,.slice (some ⟨w.heap.size+1,0,none⟩) N N] 344)).alloc (.cells (madeCells #[.int .i64 0] N) 3)).drew N (w.heap.size+3) (w.heap.size+1) (w.heap.size+2) xs ys 0:=by
 refine⟨by omega,by omega,by omega,by omega,by omega,by omega,(WRow.made (((w.alloc (.cells #[.slice none 0 0,.slice none 0 0] 344)).alloc (.cells (madeCells #[.bool false] N) 4)).alloc (.cells #[.slice (some ⟨w.heap.size+3,0,none⟩) N N,.slice (some ⟨w.heap.size+1,0,none⟩) N N] 344)) N 3 (w.heap.size+3) (by simp)).drew,(((BRow.made (w.alloc (.cells #[.slice none 0 0,.slice none 0 0] 344)) N 4 (w.heap.size+1) (by simp)).alloc _).alloc _).drew, ?_, ?_, ?_, ?_, ?_, ?_, ?_⟩
 all_goals first|exact Af (((((Below.refl w.heap.size w).alloc (VC _) _).alloc (by simp) _).alloc (by simp;omega) _).alloc (by simp;omega) _) 1|skip
 all_goals (simp only[World.alloc,World.cell?,World.frozen?,World.drew,XZ,YS];simp[WJ])
theorem Z2y (w:World)(N:Nat)(xs ys:List Int):MgSt w ((((w.alloc (.cells #[.slice none 0 0,.slice none 0 0] 344)).alloc (.cells #[.slice (some ⟨w.heap.size+2,0,none⟩) N N,.slice (some ⟨w.heap.size+3,0,none⟩) N N] 344)).alloc (.cells (madeCells #[.int .i64 0] N) 3)).alloc (.cells (madeCells #[.bool false] N) 4)).drew N (w.heap.size+2) (w.heap.size+3) (w.heap.size+1) xs ys 0:=by
 refine⟨by omega,by omega,by omega,by omega,by omega,by omega,((WRow.made ((w.alloc (.cells #[.slice none 0 0,.slice none 0 0] 344)).alloc (.cells #[.slice (some ⟨w.heap.size+2,0,none⟩) N N,.slice (some ⟨w.heap.size+3,0,none⟩) N N] 344)) N 3 (w.heap.size+2) (by simp)).alloc _).drew,(BRow.made (((w.alloc (.cells #[.slice none 0 0,.slice none 0 0] 344)).alloc (.cells #[.slice (some ⟨w.heap.size+2,0,none⟩) N N,.slice (some ⟨w.heap.size+3,0,none⟩) N N] 344)).alloc (.cells (madeCells #[.int .i64 0] N) 3)) N 4 (w.heap.size+3) (by simp)).drew, ?_, ?_, ?_, ?_, ?_, ?_, ?_⟩
 all_goals first|exact Af (((((Below.refl w.heap.size w).alloc (VC _) _).alloc (by simp) _).alloc (by simp;omega) _).alloc (by simp;omega) _) 1|skip
 all_goals (simp only[World.alloc,World.cell?,World.frozen?,World.drew,XZ,YS];simp[WJ])
theorem Z2x (w:World)(N:Nat)(xs ys:List Int):MgSt w ((((w.alloc (.cells #[.slice none 0 0,.slice none 0 0] 344)).alloc (.cells #[.slice (some ⟨w.heap.size+3,0,none⟩) N N,.slice (some ⟨w.heap.size+2,0,none⟩) N N] 344)).alloc (.cells (madeCells #[.bool false] N) 4)).alloc (.cells (madeCells #[.int .i64 0] N) 3)).drew N (w.heap.size+3) (w.heap.size+2) (w.heap.size+1) xs ys 0:=by
 refine⟨by omega,by omega,by omega,by omega,by omega,by omega,(WRow.made (((w.alloc (.cells #[.slice none 0 0,.slice none 0 0] 344)).alloc (.cells #[.slice (some ⟨w.heap.size+3,0,none⟩) N N,.slice (some ⟨w.heap.size+2,0,none⟩) N N] 344)).alloc (.cells (madeCells #[.bool false] N) 4)) N 3 (w.heap.size+3) (by simp)).drew,((BRow.made ((w.alloc (.cells #[.slice none 0 0,.slice none 0 0] 344)).alloc (.cells #[.slice (some ⟨w.heap.size+3,0,none⟩) N N,.slice (some ⟨w.heap.size+2,0,none⟩) N N] 344)) N 4 (w.heap.size+2) (by simp)).alloc _).drew, ?_, ?_, ?_, ?_, ?_, ?_, ?_⟩
 all_goals first|exact Af (((((Below.refl w.heap.size w).alloc (VC _) _).alloc (by simp) _).alloc (by simp;omega) _).alloc (by simp;omega) _) 1|skip
 all_goals (simp only[World.alloc,World.cell?,World.frozen?,World.drew,XZ,YS];simp[WJ])
set_option maxRecDepth 100000 in
theorem LQ (b1 o1 b2 o2 n1 c1 n2 c2:Nat)(xs ys:List Int)(w:World)(h1:xs.length=n1)(h2:ys.length=n2)(hn1:n1<=1000)(hn2:n2<=1000)(hc1:n1<=c1)(hc2:n2<=c2)(hm1:c1<=maxLen)(hm2:c2<=maxLen)(hb1:b1<w.heap.size)(hb2:b2<w.heap.size)(hR1:Row .i64 w b1 o1 xs)(hR2:Row .i64 w b2 o2 ys):
 Calls Tryz.prog 285 #[.slice (some ⟨b1,o1,none⟩) n1 c1,.slice (some ⟨b2,o2,none⟩) n2 c2] w fun e w'=>∃g1 g2,e=.returned (.agg #[.slice (some ⟨g1,0,none⟩) (n1+n2) (n1+n2),.slice (some ⟨g2,0,none⟩) (n1+n2) (n1+n2)])/\
  WRow w' g1 ((mrg xs ys).map Prod.fst)/\BRow w' g2 ((mrg xs ys).map Prod.snd)/\Below w.heap.size w w'/\w.heap.size<=g1/\w.heap.size<=g2:=by
 unfold maxLen at hm1 hm2;have HR1:=Ab hR1;have HR2:=Ab hR2;obtain⟨N,hN⟩:∃N,N=n1+n2:=⟨_,rfl⟩
 rw[<-hN];have HN:=Ab hN;have EN:Hid ((n1:Int)+(n2:Int)=(N:Int)):=by unfold Hid;omega
 have mk1:=fun W=>run_make_row' (P:=Tryz.prog) 81 3 (.int .i64 0) 8 Tryz.underlying81 Cn rfl .i64 .i64 N (by omega) (by omega) W
 have mk2:=fun W=>run_make_row' (P:=Tryz.prog) 342 4 (.bool false) 1 Tryz.underlying342 MQ rfl .i64 .i64 N (by omega) (by omega) W
 have HM0:Hid (MgAt xs ys 0 0):=by unfold Hid MgAt;simp
 have HF1:Hid (part (mf xs ys) N N=(mrg xs ys).map Prod.fst):=Wn _ _ _ (by rw[WN,Be,h1,h2,hN]) (fun j hj=>by
  have:j<(mrg xs ys).length:=by rw[Be];omega
  simp[mf,List.getD,this])
 have HF2:Hid (partB (ms xs ys) N N=(mrg xs ys).map Prod.snd):=KZ _ _ _ (by rw[WN,Be,h1,h2,hN]) (fun j hj=>by
  have:j<(mrg xs ys).length:=by rw[Be];omega
  simp[ms,List.getD,this])
 have hN2:N<=2000:=by omega
 clear hR1 hR2 hN;go_enter Tryz.func285,Tryz.ntmps285
 go_wp2_with fail
 rw[Aa EN];rename_i Q K hK
 have REST:∀(g1 g2 g6:Nat) (W:World),Hid (MgSt w W N g1 g2 g6 xs ys 0)->K ⟨#[.slice (some ⟨b1,o1,none⟩) n1 c1,.slice (some ⟨b2,o2,none⟩) n2 c2,undef,undef,.pointer (some ⟨w.heap.size,0,none⟩),.int .i64 (N:Int),.pointer (some ⟨g6,0,none⟩),undef,.slice (some ⟨b1,o1,none⟩) n1 c1,.int .i64 (n1:Int),.slice (some ⟨b2,o2,none⟩) n2 c2,.int .i64 (n2:Int),.int .i64 (N:Int),.int .i64 (N:Int),.slice (some ⟨g1,0,none⟩) N N,.int .i64 (N:Int),.slice (some ⟨g2,0,none⟩) N N,.agg #[.slice (some ⟨g1,0,none⟩) N N,.slice (some ⟨g2,0,none⟩) N N],undef,undef,undef,undef,undef,undef,undef,undef,undef,undef,undef,undef,undef,undef,undef,undef,undef,undef,undef,undef,undef,undef,undef,undef,undef,undef,undef,undef,undef,undef,undef,undef,undef,undef,undef,undef,undef,undef,undef,undef,undef,undef,undef,undef,undef],[]⟩ W:=by
  intro g1 g2 g6 W HS;refine hK _ _ ?_;clear hK mk1 mk2 K;go_wp2;go_loopw [0,1,7,19] (fun v0 v1 _ vi wr=>∃(i j k p q u v cu cv:Nat) (P0 P1:Option Addr),Hid ((k=i+j/\p=o1+i/\q=o2+j)/\(0<u->P0=some ⟨b1,p,none⟩)/\(0<v->P1=some ⟨b2,q,none⟩))/\u+i=n1/\v+j=n2/\u<=cu/\v<=cv/\cu<=c1/\cv<=c2/\vi=.int .i64 (k:Int)/\v0=.slice P0 u cu/\v1=.slice P1 v cv/\MgAt xs ys i j/\MgSt w wr N g1 g2 g6 xs ys k) (fun _ _ _ vi _=>N-(intOf vi).toNat)
  case atStart=>exact⟨0,0,0,o1,o2,n1,n2,c1,c2,some ⟨b1,o1,none⟩,some ⟨b2,o2,none⟩,Ab ⟨⟨rfl,rfl,rfl⟩,fun _=>rfl,fun _=>rfl⟩,rfl,rfl,hc1,hc2,VC _,VC _,rfl,rfl,rfl,Aa HM0,Aa HS⟩
  case round=>
   obtain⟨i,j,k,p,q,u,v,cu,cv,P0,P1,HE0,hu,hv,hcu,hcv,hcu2,hcv2,rfl,rfl,rfl,hM,hS⟩:=hrel;have HE:=Ab (Aa HE0).1;have HP0:=Ab (Aa HE0).2.1;have HP1:=Ab (Aa HE0).2.2;have HM:=Ab hM;have HSt:=Ab hS;clear HE0;have hkN:k+u+v=N:=by have:=(Aa HE).1;have:=Aa HN;omega
   clear hM hS;have d0:=(Aa HSt).c0;have d1:=(Aa HSt).c1
   by_cases hlt:k<N
   . have hltI:(k:Int)<(N:Int):=by omega
     have e1:=((Aa HSt).ws.at_ k (by rw[Au];exact hlt)).1;have e2:=((Aa HSt).ws.at_ k (by rw[Au];exact hlt)).2;have e3:=((Aa HSt).fs.at_ k (by rw[Am];exact hlt)).1;have e4:=((Aa HSt).fs.at_ k (by rw[Am];exact hlt)).2
     by_cases hv0:v=0
     . obtain⟨x,hxx⟩:∃x,xs.getD i 0=x:=⟨_,rfl⟩
       have hx:wr.cell? ⟨b1,p,none⟩=some (.int .i64 x):=by rw[(Aa HE).2.1,<-hxx];exact((Aa HSt).bel.cell (p:=⟨b1,o1+i,none⟩) hb1).trans (Aa HR1 i (by omega))
       obtain⟨m1,m2⟩:=(Aa HM).one (by omega) (.inl (by omega));have hP0:=Aa HP0 (by omega);subst hP0;have HQ:=Ab (Aa HSt).drew;rw[<-(Aa HE).1]at m1;have m3:mf xs ys k=x:=by unfold mf;rw[m1,<-hxx]
       have m4:ms xs ys k=true:=by unfold ms;rw[m1]
       have HE2:Hid (k+1=i+1+j/\p+1=o1+(i+1)/\q=o2+j):=by have:=Aa HE;unfold Hid;omega
       have HM2:=Ab m2;have HM3:=Ab m3;have HM4:=Ab m4;clear m1 m2 m3 m4;subst hv0;have hu1:(0:Int)<(u:Int):=by omega
       have HXX:=Ab hxx;clear hxx;have hxw:wr.drew.cell? ⟨b1,p,none⟩=some (.int .i64 x):=hx;go_wp2_with fail
       go_big_region
       clear d0 d1 e1 e2 e3 e4;generalize wr.drew=wq at*;have d0:=(Aa HQ).c0;have d1:=(Aa HQ).c1;have e1:=((Aa HQ).ws.at_ k (by rw[Au];exact hlt)).1;have e2:=((Aa HQ).ws.at_ k (by rw[Au];exact hlt)).2;have e3:=((Aa HQ).fs.at_ k (by rw[Am];exact hlt)).1;have e4:=((Aa HQ).fs.at_ k (by rw[Am];exact hlt)).2;generalize (part (mf xs ys) N k).getD k 0=z1 at*;generalize (partB (ms xs ys) N k).getD k false=z2 at*;have n12:=(Aa HQ).n12;have HS2:=Ab ((Aa HQ).set2 hlt x (Aa HM3) (Aa HM4)).1;have n21:g2≠g1:=fun e=>n12 e.symm
       have n61:g6≠g1:=fun e=>(Aa HQ).n16 e.symm
       go_wp2_with fail
       go_big_region
       clear d0 d1 e1 e2 e3 e4 hxw hx;go_wp2;go_roundw
       case rel=>
        refine⟨i+1,j,k+1,p+1,q,u-1,0,cu-1,cv,if cu=1 then some ⟨b1,p,none⟩else some ⟨b1,p+1,none⟩,P1,Ab ⟨Aa HE2,fun h=>by rw[if_neg (by omega)],fun h=>by omega⟩,by omega,by omega,by omega,by omega,by omega,by omega,by go_num, ?_,rfl,Aa HM2,Aa HS2⟩;rfl
       case measure=>simp[intOf];omega
     . by_cases hu0:u=0
       . obtain⟨y,hyy⟩:∃y,ys.getD j 0=y:=⟨_,rfl⟩
         have hy:wr.cell? ⟨b2,q,none⟩=some (.int .i64 y):=by rw[(Aa HE).2.2,<-hyy];exact((Aa HSt).bel.cell (p:=⟨b2,o2+j,none⟩) hb2).trans (Aa HR2 j (by omega))
         obtain⟨m1,m2⟩:=(Aa HM).two (by omega) (.inl (by omega));have hP1:=Aa HP1 (by omega);subst hP1;have HQ:=Ab (Aa HSt).drew;rw[<-(Aa HE).1]at m1;have m3:mf xs ys k=y:=by unfold mf;rw[m1,<-hyy]
         have m4:ms xs ys k=false:=by unfold ms;rw[m1]
         have HE2:Hid (k+1=i+(j+1)/\p=o1+i/\q+1=o2+(j+1)):=by have:=Aa HE;unfold Hid;omega
         have HM2:=Ab m2;have HM3:=Ab m3;have HM4:=Ab m4;clear m1 m2 m3 m4;subst hu0;have hv1:((v:Int)==0)=false:=by rw[beq_eq_false_iff_ne];omega
         have hv2:(0:Int)<(v:Int):=by omega
         have HYY:=Ab hyy;clear hyy;have hyw:wr.drew.cell? ⟨b2,q,none⟩=some (.int .i64 y):=hy;go_wp2_with fail
         go_big_region
         clear d0 d1 e1 e2 e3 e4;generalize wr.drew=wq at*;have d0:=(Aa HQ).c0;have d1:=(Aa HQ).c1;have e1:=((Aa HQ).ws.at_ k (by rw[Au];exact hlt)).1;have e2:=((Aa HQ).ws.at_ k (by rw[Au];exact hlt)).2;have e3:=((Aa HQ).fs.at_ k (by rw[Am];exact hlt)).1;have e4:=((Aa HQ).fs.at_ k (by rw[Am];exact hlt)).2;generalize (part (mf xs ys) N k).getD k 0=z1 at*;generalize (partB (ms xs ys) N k).getD k false=z2 at*;have HS2:=Ab ((Aa HQ).set1 hlt y (Aa HM3) (Aa HM4));go_wp2_with fail
         go_big_region
         clear d0 d1 e1 e2 e3 e4 hyw hy;go_wp2;go_roundw
         case rel=>
          refine⟨i,j+1,k+1,p,q+1,0,v-1,cu,cv-1,P0,if cv=1 then some ⟨b2,q,none⟩else some ⟨b2,q+1,none⟩,Ab ⟨Aa HE2,fun h=>by omega,fun h=>by rw[if_neg (by omega)]⟩,by omega,by omega,by omega,by omega,by omega,by omega,by go_num,rfl, ?_,Aa HM2,Aa HS2⟩;rfl
         case measure=>simp[intOf];omega
       . obtain⟨x,hxx⟩:∃x,xs.getD i 0=x:=⟨_,rfl⟩
         have hx:wr.cell? ⟨b1,p,none⟩=some (.int .i64 x):=by rw[(Aa HE).2.1,<-hxx];exact((Aa HSt).bel.cell (p:=⟨b1,o1+i,none⟩) hb1).trans (Aa HR1 i (by omega))
         obtain⟨y,hyy⟩:∃y,ys.getD j 0=y:=⟨_,rfl⟩
         have hy:wr.cell? ⟨b2,q,none⟩=some (.int .i64 y):=by rw[(Aa HE).2.2,<-hyy];exact((Aa HSt).bel.cell (p:=⟨b2,o2+j,none⟩) hb2).trans (Aa HR2 j (by omega))
         by_cases hxy:x<=y
         . obtain⟨m1,m2⟩:=(Aa HM).one (by omega) (.inr (by rw[hxx,hyy];exact hxy));have hP0:=Aa HP0 (by omega);subst hP0;have hP1:=Aa HP1 (by omega);subst hP1;have HQ:=Ab (Aa HSt).drew;rw[<-(Aa HE).1]at m1;have m3:mf xs ys k=x:=by unfold mf;rw[m1,<-hxx]
           have m4:ms xs ys k=true:=by unfold ms;rw[m1]
           have HE2:Hid (k+1=i+1+j/\p+1=o1+(i+1)/\q=o2+j):=by have:=Aa HE;unfold Hid;omega
           have HM2:=Ab m2;have HM3:=Ab m3;have HM4:=Ab m4;clear m1 m2 m3 m4;have hv1:((v:Int)==0)=false:=by rw[beq_eq_false_iff_ne];omega
           have hv2:(0:Int)<(v:Int):=by omega
           have hu1:(0:Int)<(u:Int):=by omega
           have hu2:0<u:=by omega
           have hxy2:decide (x<=y)=true:=decide_eq_true hxy;have HXX:=Ab hxx;clear hxx;have HYY:=Ab hyy;clear hyy;have hxw:wr.drew.cell? ⟨b1,p,none⟩=some (.int .i64 x):=hx;have hyw:wr.drew.cell? ⟨b2,q,none⟩=some (.int .i64 y):=hy;go_wp2_with fail
           go_big_region
           clear d0 d1 e1 e2 e3 e4;generalize wr.drew=wq at*;have d0:=(Aa HQ).c0;have d1:=(Aa HQ).c1;have e1:=((Aa HQ).ws.at_ k (by rw[Au];exact hlt)).1;have e2:=((Aa HQ).ws.at_ k (by rw[Au];exact hlt)).2;have e3:=((Aa HQ).fs.at_ k (by rw[Am];exact hlt)).1;have e4:=((Aa HQ).fs.at_ k (by rw[Am];exact hlt)).2;generalize (part (mf xs ys) N k).getD k 0=z1 at*;generalize (partB (ms xs ys) N k).getD k false=z2 at*;have n12:=(Aa HQ).n12;have HS2:=Ab ((Aa HQ).set2 hlt x (Aa HM3) (Aa HM4)).1;have n21:g2≠g1:=fun e=>n12 e.symm
           have n61:g6≠g1:=fun e=>(Aa HQ).n16 e.symm
           go_wp2_with fail
           go_big_region
           clear d0 d1 e1 e2 e3 e4 hxw hx hyw hy;go_wp2;go_roundw
           case rel=>
            refine⟨i+1,j,k+1,p+1,q,u-1,v,cu-1,cv,if cu=1 then some ⟨b1,p,none⟩else some ⟨b1,p+1,none⟩,_,Ab ⟨Aa HE2,fun h=>by rw[if_neg (by omega)],fun _=>rfl⟩,by omega,by omega,by omega,by omega,by omega,by omega,by go_num, ?_,rfl,Aa HM2,Aa HS2⟩;rfl
           case measure=>simp[intOf];omega
         . obtain⟨m1,m2⟩:=(Aa HM).two (by omega) (.inr (by rw[hxx,hyy];exact hxy));have hP0:=Aa HP0 (by omega);subst hP0;have hP1:=Aa HP1 (by omega);subst hP1;have HQ:=Ab (Aa HSt).drew;rw[<-(Aa HE).1]at m1;have m3:mf xs ys k=y:=by unfold mf;rw[m1,<-hyy]
           have m4:ms xs ys k=false:=by unfold ms;rw[m1]
           have HE2:Hid (k+1=i+(j+1)/\p=o1+i/\q+1=o2+(j+1)):=by have:=Aa HE;unfold Hid;omega
           have HM2:=Ab m2;have HM3:=Ab m3;have HM4:=Ab m4;clear m1 m2 m3 m4;have hv1:((v:Int)==0)=false:=by rw[beq_eq_false_iff_ne];omega
           have hv2:(0:Int)<(v:Int):=by omega
           have hu1:(0:Int)<(u:Int):=by omega
           have hu2:0<u:=by omega
           have hxy2:decide (x<=y)=false:=decide_eq_false hxy;have HXX:=Ab hxx;clear hxx;have HYY:=Ab hyy;clear hyy;have hxw:wr.drew.cell? ⟨b1,p,none⟩=some (.int .i64 x):=hx;have hyw:wr.drew.cell? ⟨b2,q,none⟩=some (.int .i64 y):=hy;go_wp2_with fail
           go_big_region
           clear d0 d1 e1 e2 e3 e4;generalize wr.drew=wq at*;have d0:=(Aa HQ).c0;have d1:=(Aa HQ).c1;have e1:=((Aa HQ).ws.at_ k (by rw[Au];exact hlt)).1;have e2:=((Aa HQ).ws.at_ k (by rw[Au];exact hlt)).2;have e3:=((Aa HQ).fs.at_ k (by rw[Am];exact hlt)).1;have e4:=((Aa HQ).fs.at_ k (by rw[Am];exact hlt)).2;generalize (part (mf xs ys) N k).getD k 0=z1 at*;generalize (partB (ms xs ys) N k).getD k false=z2 at*;have HS2:=Ab ((Aa HQ).set1 hlt y (Aa HM3) (Aa HM4));go_wp2_with fail
           go_big_region
           clear d0 d1 e1 e2 e3 e4 hyw hy hxw hx;go_wp2;go_roundw
           case rel=>
            refine⟨i,j+1,k+1,p,q+1,u,v-1,cu,cv-1,_,if cv=1 then some ⟨b2,q,none⟩else some ⟨b2,q+1,none⟩,Ab ⟨Aa HE2,fun _=>rfl,fun h=>by rw[if_neg (by omega)]⟩,by omega,by omega,by omega,by omega,by omega,by omega,by go_num,rfl, ?_,Aa HM2,Aa HS2⟩;rfl
           case measure=>simp[intOf];omega
   . obtain rfl:k=N:=by omega
     have HW1:=(Aa HSt).ws;have HW2:=(Aa HSt).fs;rw[Aa HF1]at HW1;rw[Aa HF2]at HW2;have r0:=(Aa HSt).r0;have r1:=(Aa HSt).r1;have f0:=(Aa HSt).f0;have f1:=(Aa HSt).f1;have HB:=Ab (Aa HSt).bel;have HG:=Ab (And.intro (Aa HSt).b1 (Aa HSt).b2);have HW1:=Ab HW1;have HW2:=Ab HW2;go_wp2
     have q0:((wr.setCell ⟨w.heap.size,0,none⟩ (.slice (some ⟨g1,0,none⟩) k k)).setCell ⟨w.heap.size,1,none⟩ (.slice (some ⟨g2,0,none⟩) k k)).cell? ⟨w.heap.size,0,none⟩=some (.slice (some ⟨g1,0,none⟩) k k):=
      (World.cell?_setCell_other _ _ _ _ (by intro h;injection h;omega)).trans (World.cell?_setCell_same _ _ _ r0)
     have q1:((wr.setCell ⟨w.heap.size,0,none⟩ (.slice (some ⟨g1,0,none⟩) k k)).setCell ⟨w.heap.size,1,none⟩ (.slice (some ⟨g2,0,none⟩) k k)).cell? ⟨w.heap.size,1,none⟩=some (.slice (some ⟨g2,0,none⟩) k k):=
      World.cell?_setCell_same _ _ _ ((World.cell?_setCell_other _ _ _ _ (by intro h;injection h;omega)).trans r1)
     refine bodyPost_ret (RP rfl _ _ _ _ _ rfl q0 q1) rfl ?_;have hg1:=(Aa HG).1;have hg2:=(Aa HG).2
     exact⟨g1,g2,rfl,((Aa HW1).other (a:=⟨w.heap.size,0,none⟩) (by simp;omega) _).other (a:=⟨w.heap.size,1,none⟩) (by simp;omega) _,((Aa HW2).other (a:=⟨w.heap.size,0,none⟩) (by simp;omega) _).other (a:=⟨w.heap.size,1,none⟩) (by simp;omega) _,
      ((Aa HB).setCell (p:=⟨w.heap.size,0,none⟩) (VC _) _).setCell (p:=⟨w.heap.size,1,none⟩) (VC _) _,by omega,by omega⟩
 go_big_region
 . exact REST _ _ _ _ (Z32 w N xs ys)
 . exact REST _ _ _ _ (Z31 w N xs ys)
 . exact REST _ _ _ _ (Z30 w N xs ys)
 . exact REST _ _ _ _ (Z2z w N xs ys)
 . exact REST _ _ _ _ (Z2y w N xs ys)
 . exact REST _ _ _ _ (Z2x w N xs ys)
end Go.Proofs.YtieianhejdcgdaaGreatDoor
