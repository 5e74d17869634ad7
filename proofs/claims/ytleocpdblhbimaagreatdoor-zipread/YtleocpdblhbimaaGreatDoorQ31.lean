import Derived.Test.YtleocpdblhbimaaGreatDoorQ30
import Derived.Deep.OwnRows
set_option linter.unusedSimpArgs false
set_option maxHeartbeats 4000000
namespace Go.Proofs.YtleocpdblhbimaaGreatDoor
open Go.RowKit
set_option linter.unusedVariables false
theorem OL:(Tryz.prog.info? 4).map (fun i=>(i.zero,i.size,i.bytes))=some (some (.bool false),1,1):=by kernel_rfl
structure BRow (w:World)(g:Nat)(xs:List Bool):Prop where
 lt:g<w.heap.size
 at_:∀j,j<xs.length->w.cell? ⟨g,j,none⟩=some (.bool (xs.getD j false))/\w.frozen? ⟨g,j,none⟩=false
theorem BRow.below {w w':World}{B g:Nat}{xs:List Bool}(h:BRow w g xs)(hB:Below B w w')(hb:g<B):BRow w' g xs:=
 ⟨VG h.lt hB.size,fun j hj=>⟨by rw[hB.cell (p:=⟨g,j,none⟩) hb];exact(h.at_ j hj).1,by rw[hB.frozen (p:=⟨g,j,none⟩) hb];exact(h.at_ j hj).2⟩⟩
theorem BRow.set {w:World}{g:Nat}{xs:List Bool}(h:BRow w g xs)(i:Nat)(hi:i<xs.length)(v:Bool):BRow (w.setCell ⟨g,i,none⟩ (.bool v)) g (xs.set i v):=by
 refine⟨by simpa using h.lt,fun j hj=> ?_⟩;rw[XS]at hj;refine⟨?_,by simp[(h.at_ j hj).2]⟩
 by_cases e:i=j
 . subst e;rw[World.cell?_setCell_same _ _ _ (h.at_ i hj).1];simp[List.getD,hi]
 . rw[World.cell?_setCell_other _ _ _ _ (by intro h;injection h;omega),(h.at_ j hj).1];simp[List.getD,e]
theorem BRow.other {w:World}{g:Nat}{xs:List Bool}(h:BRow w g xs){a:Addr}(ha:a.block≠g)(v:Value):BRow (w.setCell a v) g xs:=by
 refine⟨by simpa using h.lt,fun j hj=>⟨?_,by simp[(h.at_ j hj).2]⟩⟩;rw[World.cell?_setCell_other _ _ _ _ (by intro h;subst h;exact ha rfl)];exact(h.at_ j hj).1
theorem BRow.drew {w:World}{g:Nat}{xs:List Bool}(h:BRow w g xs):BRow w.drew g xs:=⟨h.lt,h.at_⟩
theorem BRow.grown {w w':World}{g:Nat}{xs:List Bool}{r:Option Nat}(h:BRow w g xs)(hg:w.grownBy w' r)(hne:some g≠r):BRow w' g xs:=by
 refine⟨VG h.lt hg.size,fun j hj=> ?_⟩;have e:=hg.block g h.lt hne;exact⟨by rw[World.cell?_of_block (w:=w) (a:=⟨g,j,none⟩) e];exact(h.at_ j hj).1,by rw[World.frozen?_of_block (w:=w) (a:=⟨g,j,none⟩) e];exact(h.at_ j hj).2⟩
theorem WRow.made (w:World)(N:Nat)(t:TypeId)(g:Nat)(hg:g=w.heap.size):WRow (w.alloc (.cells (madeCells #[Value.int .i64 0] N) t)) g (List.replicate N 0):=by
 subst hg;refine⟨by simp,fun j hj=>⟨?_,by simp⟩⟩;rw[World.cell?_alloc_at _ _ _ _ rfl];have hj':j<N:=by simpa using hj
 simp[madeCells,hj',List.getD,Nat.mod_one]
theorem BRow.made (w:World)(N:Nat)(t:TypeId)(g:Nat)(hg:g=w.heap.size):BRow (w.alloc (.cells (madeCells #[Value.bool false] N) t)) g (List.replicate N false):=by
 subst hg;refine⟨by simp,fun j hj=>⟨?_,by simp⟩⟩;rw[World.cell?_alloc_at _ _ _ _ rfl];have hj':j<N:=by simpa using hj
 simp[madeCells,hj',List.getD,Nat.mod_one]
theorem WRow.alloc {w:World}{g:Nat}{xs:List Int}(h:WRow w g xs)(o:Obj):WRow (w.alloc o) g xs:=h.grown (World.grownBy_alloc w o none) (by simp)
theorem BRow.alloc {w:World}{g:Nat}{xs:List Bool}(h:BRow w g xs)(o:Obj):BRow (w.alloc o) g xs:=h.grown (World.grownBy_alloc w o none) (by simp)
def partB (f:Nat->Bool)(m:Nat):Nat->List Bool
 |0=>List.replicate m false
 |k+1=>(partB f m k).set k (f k)
theorem As (f:Nat->Bool)(m:Nat):∀k,(partB f m k).length=m
 |0=>by simp[partB]
 |k+1=>by rw[partB,XS,As f m k]
theorem PE (xs:List Bool)(i j:Nat)(v:Bool):(xs.set i v).getD j false=if i=j/\i<xs.length then v else xs.getD j false:=by
 simp only[List.getD];rw[YM]
 by_cases e:i=j
 . subst e
   by_cases h:i<xs.length
   . simp[h]
   . simp[h]
 . simp[e]
theorem Jw (f:Nat->Bool)(m:Nat):∀k j,j<m->(partB f m k).getD j false=if j<k then f j else false
 |0,j,hj=>by simp[partB,List.getD,hj]
 |k+1,j,hj=>by
  rw[partB,PE,As,Jw f m k j hj]
  by_cases e:k=j
  . subst e;rw[if_pos ⟨rfl,hj⟩,if_pos (by omega)]
  . rw[if_neg (by omega)]
    by_cases h:j<k
    . rw[if_pos h,if_pos (by omega)]
    . rw[if_neg h,if_neg (by omega)]
theorem MN (f:Nat->Bool)(m:Nat)(xs:List Bool)(hl:xs.length=m)(h:∀j,j<m->xs.getD j false=f j):partB f m m=xs:=by
 apply XK
 . rw[As,hl]
 . intro i h1 h2;rw[As]at h1;have e1:=Jw f m m i h1;rw[if_pos h1,<-h i h1]at e1;simpa[List.getD,As,h1,h2]using e1
theorem FN (f:Nat->Bool)(m k:Nat)(hk:f k=false)(hm:k<m):partB f m (k+1)=partB f m k:=by
 apply XK
 . rw[As,As]
 . intro i h1 h2;rw[As]at h1;have e1:=Jw f m (k+1) i h1;have e2:=Jw f m k i h1;simp only[List.getD,As,h1,VP,YH]at e1 e2;rw[e1,e2]
   by_cases e:i=k
   . subst e;rw[if_pos (by omega),if_neg (by omega),hk]
   . by_cases h:i<k
     . rw[if_pos h,if_pos (by omega)]
     . rw[if_neg h,if_neg (by omega)]
theorem Bo:∀xs ys:List Int,(mrg xs ys).length=xs.length+ys.length
 | [],ys=>by simp[Kn]
 |x::xs,[]=>by
  rw[Nj,VJ,Bo xs []];simp
 |x::xs,y::ys=>by
  rw[Jc]
  split
  . rw[VJ,Bo xs (y::ys)];simp;omega
  . rw[VJ,Bo (x::xs) ys];simp;omega
termination_by xs ys=>xs.length+ys.length
theorem OG:(Tryz.prog.info? 340).map (·.size)=some 2:=by kernel_rfl
theorem F3 {w:World}{b o:Nat}{x y:Value}(h0:w.cell? ⟨b,o,none⟩=some x)(h1:w.cell? ⟨b,o+1,none⟩=some y):(loadVar 340 ⟨b,o,none⟩).run Tryz.prog w=.ok (.agg #[x,y]) w:=by
 have hl:(loadCells ⟨b,o,none⟩ [x,y].length).run Tryz.prog w=.ok [x,y].toArray w:=
  run_loadCells_list (P:=Tryz.prog) w ⟨b,o,none⟩ [x,y] (fun j v hv=>by
   match j,hv with
   |0,hv=>simp at hv;subst hv;simpa[Addr.add]using h0
   |1,hv=>simp at hv;subst hv;simpa[Addr.add]using h1)
 obtain⟨i,hi,hs⟩:=XF.1 OG;simp only[VJ,WE,WG,Nat.reduceAdd]at hl;simp[loadVar,Sem.run_bind,sizeOf,typeInfo,hi,hs,hl]
theorem Z06 {fn:Func}{p:Tmp}(h:fn.results= #[.cell p 340])(tmps:Array Value)(w:World)(b:Nat)(x y:Value)(hp:tmps.getD p undef=.pointer (some ⟨b,0,none⟩))(h0:w.cell? ⟨b,0,none⟩=some x)(h1:w.cell? ⟨b,1,none⟩=some y):
 (results fn tmps).run Tryz.prog w=.ok (.agg #[x,y]) w:=by
 have hp':tmps[p]?.getD undef=.pointer (some ⟨b,0,none⟩):=by simpa using hp
 simp[results,h,hp',asAddr,F3 h0 h1]
def MgAt (xs ys:List Int)(i j:Nat):Prop:=(mrg xs ys).drop (i+j)=mrg (xs.drop i) (ys.drop j)
theorem Vq {α:Type}(l:List α)(n:Nat)(d:α):l.getD n d=(l.drop n).getD 0 d:=by simp[List.getD]
theorem Jl {xs:List Int}{i:Nat}(h:i<xs.length):xs.drop i=xs.getD i 0::xs.drop (i+1):=by
 rw[WS h];simp[List.getD,h]
theorem MgAt.one {xs ys:List Int}{i j:Nat}(h:MgAt xs ys i j)(hi:i<xs.length)(hc:¬j<ys.length\/xs.getD i 0<=ys.getD j 0):(mrg xs ys).getD (i+j) (0,false)=(xs.getD i 0,true)/\MgAt xs ys (i+1) j:=by
 unfold MgAt at*
 have e:mrg (xs.drop i) (ys.drop j)=(xs.getD i 0,true)::mrg (xs.drop (i+1)) (ys.drop j):=by
  rw[Jl hi]
  by_cases hj:j<ys.length
  . rw[Jl hj,Jc,if_pos (by rcases hc with h|h;exact absurd hj h;exact h),<-Jl hj]
  . rw[show ys.drop j= [] from XQ (by omega),Nj]
 constructor
 . rw[Vq,h,e];rfl
 . rw[show i+1+j=(i+j)+1 by omega,<-YK,h,e];rfl
theorem MgAt.two {xs ys:List Int}{i j:Nat}(h:MgAt xs ys i j)(hj:j<ys.length)(hc:¬i<xs.length\/¬xs.getD i 0<=ys.getD j 0):(mrg xs ys).getD (i+j) (0,false)=(ys.getD j 0,false)/\MgAt xs ys i (j+1):=by
 unfold MgAt at*
 have e:mrg (xs.drop i) (ys.drop j)=(ys.getD j 0,false)::mrg (xs.drop i) (ys.drop (j+1)):=by
  rw[Jl hj]
  by_cases hi:i<xs.length
  . rw[Jl hi,Jc,if_neg (by rcases hc with h|h;exact absurd hi h;exact h)]
  . rw[show xs.drop i= [] from XQ (by omega),Kn,Kn];rfl
 constructor
 . rw[Vq,h,e];rfl
 . rw[show i+(j+1)=(i+j)+1 by omega,<-YK,h,e];rfl
def mf (xs ys:List Int)(k:Nat):Int:=((mrg xs ys).getD k (0,false)).1
def ms (xs ys:List Int)(k:Nat):Bool:=((mrg xs ys).getD k (0,false)).2
structure MgSt (w W:World)(N g1 g2 g6:Nat)(xs ys:List Int)(k:Nat):Prop where
 b1:w.heap.size<g1
 b2:w.heap.size<g2
 b6:w.heap.size<g6
 n12:g1≠g2
 n16:g1≠g6
 n26:g2≠g6
 ws:WRow W g1 (part (mf xs ys) N k)
 fs:BRow W g2 (partB (ms xs ys) N k)
 c0:W.cell? ⟨g6,0,none⟩=some (.slice (some ⟨g1,0,none⟩) N N)
 c1:W.cell? ⟨g6,1,none⟩=some (.slice (some ⟨g2,0,none⟩) N N)
 r0:W.cell? ⟨w.heap.size,0,none⟩=some (.slice none 0 0)
 r1:W.cell? ⟨w.heap.size,1,none⟩=some (.slice none 0 0)
 f0:W.frozen? ⟨w.heap.size,0,none⟩=false
 f1:W.frozen? ⟨w.heap.size,1,none⟩=false
 bel:Below w.heap.size w W
theorem MgSt.drew {w W:World}{N g1 g2 g6:Nat}{xs ys:List Int}{k:Nat}(h:MgSt w W N g1 g2 g6 xs ys k):MgSt w W.drew N g1 g2 g6 xs ys k:=
 ⟨h.b1,h.b2,h.b6,h.n12,h.n16,h.n26,h.ws.drew,h.fs.drew,h.c0,h.c1,h.r0,h.r1,h.f0,h.f1,Ae h.bel 1⟩
theorem MgSt.set1 {w W:World}{N g1 g2 g6:Nat}{xs ys:List Int}{k:Nat}(h:MgSt w W N g1 g2 g6 xs ys k)(hk:k<N)(x:Int)(hx:mf xs ys k=x)(hs:ms xs ys k=false):MgSt w (W.setCell ⟨g1,k,none⟩ (.int .i64 x)).drew N g1 g2 g6 xs ys (k+1):=by
 have hb1:=h.b1;have o:∀b o,b≠g1->(W.setCell ⟨g1,k,none⟩ (.int .i64 x)).drew.cell? ⟨b,o,none⟩=W.cell? ⟨b,o,none⟩:=fun b o hb=>World.cell?_setCell_other _ _ _ _ (by intro h;injection h with h1;exact hb h1.symm)
 refine⟨h.b1,h.b2,h.b6,h.n12,h.n16,h.n26, ?_, ?_, ?_, ?_, ?_, ?_, ?_, ?_, ?_⟩
 . rw[part,hx];exact(h.ws.set k (by rw[Ay];exact hk) x).drew
 . rw[FN _ _ _ hs hk];exact(h.fs.other (a:=⟨g1,k,none⟩) h.n12 _).drew
 . rw[o _ _ (fun e=>h.n16 e.symm)];exact h.c0
 . rw[o _ _ (fun e=>h.n16 e.symm)];exact h.c1
 . rw[o _ _ (by omega)];exact h.r0
 . rw[o _ _ (by omega)];exact h.r1
 . show (W.setCell ⟨g1,k,none⟩ (.int .i64 x)).frozen? _=_
   rw[World.frozen?_setCell];exact h.f0
 . show (W.setCell ⟨g1,k,none⟩ (.int .i64 x)).frozen? _=_
   rw[World.frozen?_setCell];exact h.f1
 . exact Ae (h.bel.setCell (p:=⟨g1,k,none⟩) (by simp;omega) _) 1
theorem MgSt.set2 {w W:World}{N g1 g2 g6:Nat}{xs ys:List Int}{k:Nat}(h:MgSt w W N g1 g2 g6 xs ys k)(hk:k<N)(x:Int)(hx:mf xs ys k=x)(hs:ms xs ys k=true):
 MgSt w ((W.setCell ⟨g1,k,none⟩ (.int .i64 x)).setCell ⟨g2,k,none⟩ (.bool true)).drew N g1 g2 g6 xs ys (k+1)/\MgSt w ((W.setCell ⟨g2,k,none⟩ (.bool true)).setCell ⟨g1,k,none⟩ (.int .i64 x)).drew N g1 g2 g6 xs ys (k+1):=by
 have hb1:=h.b1;have hb2:=h.b2;have o1:∀(V:World) b o v,b≠g1->(V.setCell ⟨g1,k,none⟩ v).cell? ⟨b,o,none⟩=V.cell? ⟨b,o,none⟩:=fun V b o v hb=>World.cell?_setCell_other _ _ _ _ (by intro h;injection h with h1;exact hb h1.symm)
 have o2:∀(V:World) b o v,b≠g2->(V.setCell ⟨g2,k,none⟩ v).cell? ⟨b,o,none⟩=V.cell? ⟨b,o,none⟩:=fun V b o v hb=>World.cell?_setCell_other _ _ _ _ (by intro h;injection h with h1;exact hb h1.symm)
 have hw:k<(part (mf xs ys) N k).length:=by rw[Ay];exact hk
 have hf:k<(partB (ms xs ys) N k).length:=by rw[As];exact hk
 constructor
 . refine⟨h.b1,h.b2,h.b6,h.n12,h.n16,h.n26, ?_, ?_, ?_, ?_, ?_, ?_, ?_, ?_, ?_⟩
   . rw[part,hx];exact((h.ws.set k hw x).other (a:=⟨g2,k,none⟩) (fun e=>h.n12 e.symm) _).drew
   . rw[partB,hs];exact((h.fs.other (a:=⟨g1,k,none⟩) h.n12 _).set k hf true).drew
   . exact(o2 _ _ _ _ (fun e=>h.n26 e.symm)).trans ((o1 _ _ _ _ (fun e=>h.n16 e.symm)).trans h.c0)
   . exact(o2 _ _ _ _ (fun e=>h.n26 e.symm)).trans ((o1 _ _ _ _ (fun e=>h.n16 e.symm)).trans h.c1)
   . exact(o2 _ _ _ _ (by omega)).trans ((o1 _ _ _ _ (by omega)).trans h.r0)
   . exact(o2 _ _ _ _ (by omega)).trans ((o1 _ _ _ _ (by omega)).trans h.r1)
   . show ((W.setCell _ _).setCell _ _).frozen? _=_
     rw[World.frozen?_setCell,World.frozen?_setCell];exact h.f0
   . show ((W.setCell _ _).setCell _ _).frozen? _=_
     rw[World.frozen?_setCell,World.frozen?_setCell];exact h.f1
   . exact Ae ((h.bel.setCell (p:=⟨g1,k,none⟩) (by simp;omega) _).setCell (p:=⟨g2,k,none⟩) (by simp;omega) _) 1
 . refine⟨h.b1,h.b2,h.b6,h.n12,h.n16,h.n26, ?_, ?_, ?_, ?_, ?_, ?_, ?_, ?_, ?_⟩
   . rw[part,hx];exact((h.ws.other (a:=⟨g2,k,none⟩) (fun e=>h.n12 e.symm) _).set k hw x).drew
   . rw[partB,hs];exact((h.fs.set k hf true).other (a:=⟨g1,k,none⟩) h.n12 _).drew
   . exact(o1 _ _ _ _ (fun e=>h.n16 e.symm)).trans ((o2 _ _ _ _ (fun e=>h.n26 e.symm)).trans h.c0)
   . exact(o1 _ _ _ _ (fun e=>h.n16 e.symm)).trans ((o2 _ _ _ _ (fun e=>h.n26 e.symm)).trans h.c1)
   . exact(o1 _ _ _ _ (by omega)).trans ((o2 _ _ _ _ (by omega)).trans h.r0)
   . exact(o1 _ _ _ _ (by omega)).trans ((o2 _ _ _ _ (by omega)).trans h.r1)
   . show ((W.setCell _ _).setCell _ _).frozen? _=_
     rw[World.frozen?_setCell,World.frozen?_setCell];exact h.f0
   . show ((W.setCell _ _).setCell _ _).frozen? _=_
     rw[World.frozen?_setCell,World.frozen?_setCell];exact h.f1
   . exact Ae ((h.bel.setCell (p:=⟨g2,k,none⟩) (by simp;omega) _).setCell (p:=⟨g1,k,none⟩) (by simp;omega) _) 1
theorem Z4m (w:World)(N:Nat)(xs ys:List Int):MgSt w ((((w.alloc (.cells #[.slice none 0 0,.slice none 0 0] 340)).alloc (.cells (madeCells #[.int .i64 0] N) 3)).alloc (.cells (madeCells #[.bool false] N) 4)).alloc (.cells #[.slice (some ⟨w.heap.size+1,0,none⟩) N N,.slice (some ⟨w.heap.size+2,0,none⟩) N N] 340)).drew N (w.heap.size+1) (w.heap.size+2) (w.heap.size+3) xs ys 0:=by
 refine⟨by omega,by omega,by omega,by omega,by omega,by omega,(((WRow.made (w.alloc (.cells #[.slice none 0 0,.slice none 0 0] 340)) N 3 (w.heap.size+1) (by simp)).alloc _).alloc _).drew,((BRow.made ((w.alloc (.cells #[.slice none 0 0,.slice none 0 0] 340)).alloc (.cells (madeCells #[.int .i64 0] N) 3)) N 4 (w.heap.size+2) (by simp)).alloc _).drew, ?_, ?_, ?_, ?_, ?_, ?_, ?_⟩
 all_goals first|exact Ae (((((Below.refl w.heap.size w).alloc (VB _) _).alloc (by simp) _).alloc (by simp;omega) _).alloc (by simp;omega) _) 1|skip
 all_goals (simp only[World.alloc,World.cell?,World.frozen?,World.drew,YC,YV];simp[WT])
theorem Z4l (w:World)(N:Nat)(xs ys:List Int):MgSt w ((((w.alloc (.cells #[.slice none 0 0,.slice none 0 0] 340)).alloc (.cells (madeCells #[.int .i64 0] N) 3)).alloc (.cells #[.slice (some ⟨w.heap.size+1,0,none⟩) N N,.slice (some ⟨w.heap.size+3,0,none⟩) N N] 340)).alloc (.cells (madeCells #[.bool false] N) 4)).drew N (w.heap.size+1) (w.heap.size+3) (w.heap.size+2) xs ys 0:=by
 refine⟨by omega,by omega,by omega,by omega,by omega,by omega,(((WRow.made (w.alloc (.cells #[.slice none 0 0,.slice none 0 0] 340)) N 3 (w.heap.size+1) (by simp)).alloc _).alloc _).drew,(BRow.made (((w.alloc (.cells #[.slice none 0 0,.slice none 0 0] 340)).alloc (.cells (madeCells #[.int .i64 0] N) 3)).alloc (.cells #[.slice (some ⟨w.heap.size+1,0,none⟩) N N,.slice (some ⟨w.heap.size+3,0,none⟩) N N] 340)) N 4 (w.heap.size+3) (by simp)).drew, ?_, ?_, ?_, ?_, ?_, ?_, ?_⟩
 all_goals first|exact Ae (((((Below.refl w.heap.size w).alloc (VB _) _).alloc (by simp) _).alloc (by simp;omega) _).alloc (by simp;omega) _) 1|skip
 all_goals (simp only[World.alloc,World.cell?,World.frozen?,World.drew,YC,YV];simp[WT])
theorem Z4k (w:World)(N:Nat)(xs ys:List Int):MgSt w ((((w.alloc (.cells #[.slice none 0 0,.slice none 0 0] 340)).alloc (.cells (madeCells #[.bool false] N) 4)).alloc (.cells (madeCells #[.int .i64 0] N) 3)).alloc (.cells #[.slice (some ⟨w.heap.size+2,0,none⟩) N N,.slice (some ⟨w.heap.size+1,0,none⟩) N N] 340)).drew N (w.heap.size+2) (w.heap.size+1) (w.heap.size+3) xs ys 0:=by
 refine⟨by omega,by omega,by omega,by omega,by omega,by omega,((WRow.made ((w.alloc (.cells #[.slice none 0 0,.slice none 0 0] 340)).alloc (.cells (madeCells #[.bool false] N) 4)) N 3 (w.heap.size+2) (by simp)).alloc _).drew,(((BRow.made (w.alloc (.cells #[.slice none 0 0,.slice none 0 0] 340)) N 4 (w.heap.size+1) (by simp)).alloc _).alloc _).drew, ?_, ?_, ?_, ?_, ?_, ?_, ?_⟩
 all_goals first|exact Ae (((((Below.refl w.heap.size w).alloc (VB _) _).alloc (by simp) _).alloc (by simp;omega) _).alloc (by simp;omega) _) 1|skip
 all_goals (simp only[World.alloc,World.cell?,World.frozen?,World.drew,YC,YV];simp[WT])
theorem Z4j (w:World)(N:Nat)(xs ys:List Int):MgSt w ((((w.alloc (.cells #[.slice none 0 0,.slice none 0 0] 340)).alloc (.cells (madeCells #[.bool false] N) 4)).alloc (.cells #[.slice (some ⟨w.heap.size+3,0,none⟩) N N,.slice (some ⟨w.heap.size+1,0,none⟩) N N] 340)).alloc (.cells (madeCells #[.int .i64 0] N) 3)).drew N (w.heap.size+3) (w.heap.size+1) (w.heap.size+2) xs ys 0:=by
 refine⟨by omega,by omega,by omega,by omega,by omega,by omega,(WRow.made (((w.alloc (.cells #[.slice none 0 0,.slice none 0 0] 340)).alloc (.cells (madeCells #[.bool false] N) 4)).alloc (.cells #[.slice (some ⟨w.heap.size+3,0,none⟩) N N,.slice (some ⟨w.heap.size+1,0,none⟩) N N] 340)) N 3 (w.heap.size+3) (by simp)).drew,(((BRow.made (w.alloc (.cells #[.slice none 0 0,.slice none 0 0] 340)) N 4 (w.heap.size+1) (by simp)).alloc _).alloc _).drew, ?_, ?_, ?_, ?_, ?_, ?_, ?_⟩
 all_goals first|exact Ae (((((Below.refl w.heap.size w).alloc (VB _) _).alloc (by simp) _).alloc (by simp;omega) _).alloc (by simp;omega) _) 1|skip
 all_goals (simp only[World.alloc,World.cell?,World.frozen?,World.drew,YC,YV];simp[WT])
theorem Z4i (w:World)(N:Nat)(xs ys:List Int):MgSt w ((((w.alloc (.cells #[.slice none 0 0,.slice none 0 0] 340)).alloc (.cells #[.slice (some ⟨w.heap.size+2,0,none⟩) N N,.slice (some ⟨w.heap.size+3,0,none⟩) N N] 340)).alloc (.cells (madeCells #[.int .i64 0] N) 3)).alloc (.cells (madeCells #[.bool false] N) 4)).drew N (w.heap.size+2) (w.heap.size+3) (w.heap.size+1) xs ys 0:=by
 refine⟨by omega,by omega,by omega,by omega,by omega,by omega,((WRow.made ((w.alloc (.cells #[.slice none 0 0,.slice none 0 0] 340)).alloc (.cells #[.slice (some ⟨w.heap.size+2,0,none⟩) N N,.slice (some ⟨w.heap.size+3,0,none⟩) N N] 340)) N 3 (w.heap.size+2) (by simp)).alloc _).drew,(BRow.made (((w.alloc (.cells #[.slice none 0 0,.slice none 0 0] 340)).alloc (.cells #[.slice (some ⟨w.heap.size+2,0,none⟩) N N,.slice (some ⟨w.heap.size+3,0,none⟩) N N] 340)).alloc (.cells (madeCells #[.int .i64 0] N) 3)) N 4 (w.heap.size+3) (by simp)).drew, ?_, ?_, ?_, ?_, ?_, ?_, ?_⟩
 all_goals first|exact Ae (((((Below.refl w.heap.size w).alloc (VB _) _).alloc (by simp) _).alloc (by simp;omega) _).alloc (by simp;omega) _) 1|skip
 all_goals (simp only[World.alloc,World.cell?,World.frozen?,World.drew,YC,YV];simp[WT])
theorem Z4h (w:World)(N:Nat)(xs ys:List Int):MgSt w ((((w.alloc (.cells #[.slice none 0 0,.slice none 0 0] 340)).alloc (.cells #[.slice (some ⟨w.heap.size+3,0,none⟩) N N,.slice (some ⟨w.heap.size+2,0,none⟩) N N] 340)).alloc (.cells (madeCells #[.bool false] N) 4)).alloc (.cells (madeCells #[.int .i64 0] N) 3)).drew N (w.heap.size+3) (w.heap.size+2) (w.heap.size+1) xs ys 0:=by
 refine⟨by omega,by omega,by omega,by omega,by omega,by omega,(WRow.made (((w.alloc (.cells #[.slice none 0 0,.slice none 0 0] 340)).alloc (.cells #[.slice (some ⟨w.heap.size+3,0,none⟩) N N,.slice (some ⟨w.heap.size+2,0,none⟩) N N] 340)).alloc (.cells (madeCells #[.bool false] N) 4)) N 3 (w.heap.size+3) (by simp)).drew,((BRow.made ((w.alloc (.cells #[.slice none 0 0,.slice none 0 0] 340)).alloc (.cells #[.slice (some ⟨w.heap.size+3,0,none⟩) N N,.slice (some ⟨w.heap.size+2,0,none⟩) N N] 340)) N 4 (w.heap.size+2) (by simp)).alloc _).drew, ?_, ?_, ?_, ?_, ?_, ?_, ?_⟩
 all_goals first|exact Ae (((((Below.refl w.heap.size w).alloc (VB _) _).alloc (by simp) _).alloc (by simp;omega) _).alloc (by simp;omega) _) 1|skip
 all_goals (simp only[World.alloc,World.cell?,World.frozen?,World.drew,YC,YV];simp[WT])
set_option maxRecDepth 100000 in
theorem NP (b1 o1 b2 o2 n1 c1 n2 c2:Nat)(xs ys:List Int)(w:World)(h1:xs.length=n1)(h2:ys.length=n2)(hn1:n1<=1000)(hn2:n2<=1000)(hc1:n1<=c1)(hc2:n2<=c2)(hm1:c1<=maxLen)(hm2:c2<=maxLen)(hb1:b1<w.heap.size)(hb2:b2<w.heap.size)(hR1:Row .i64 w b1 o1 xs)(hR2:Row .i64 w b2 o2 ys):
 Calls Tryz.prog 277 #[.slice (some ⟨b1,o1,none⟩) n1 c1,.slice (some ⟨b2,o2,none⟩) n2 c2] w fun e w'=>∃g1 g2,e=.returned (.agg #[.slice (some ⟨g1,0,none⟩) (n1+n2) (n1+n2),.slice (some ⟨g2,0,none⟩) (n1+n2) (n1+n2)])/\
  WRow w' g1 ((mrg xs ys).map Prod.fst)/\BRow w' g2 ((mrg xs ys).map Prod.snd)/\Below w.heap.size w w'/\w.heap.size<=g1/\w.heap.size<=g2:=by
 unfold maxLen at hm1 hm2;have HR1:=Ab hR1;have HR2:=Ab hR2;obtain⟨N,hN⟩:∃N,N=n1+n2:=⟨_,rfl⟩
 rw[<-hN];have HN:=Ab hN;have EN:Hid ((n1:Int)+(n2:Int)=(N:Int)):=by unfold Hid;omega
 have mk1:=fun W=>run_make_row' (P:=Tryz.prog) 76 3 (.int .i64 0) 8 Tryz.underlying76 Bv rfl .i64 .i64 N (by omega) (by omega) W
 have mk2:=fun W=>run_make_row' (P:=Tryz.prog) 338 4 (.bool false) 1 Tryz.underlying338 OL rfl .i64 .i64 N (by omega) (by omega) W
 have HM0:Hid (MgAt xs ys 0 0):=by unfold Hid MgAt;simp
 have HF1:Hid (part (mf xs ys) N N=(mrg xs ys).map Prod.fst):=Xo _ _ _ (by rw[WL,Bo,h1,h2,hN]) (fun j hj=>by
  have:j<(mrg xs ys).length:=by rw[Bo];omega
  simp[mf,List.getD,this])
 have HF2:Hid (partB (ms xs ys) N N=(mrg xs ys).map Prod.snd):=MN _ _ _ (by rw[WL,Bo,h1,h2,hN]) (fun j hj=>by
  have:j<(mrg xs ys).length:=by rw[Bo];omega
  simp[ms,List.getD,this])
 have hN2:N<=2000:=by omega
 clear hR1 hR2 hN;go_enter Tryz.func277,Tryz.ntmps277
 go_wp2_with fail
 rw[Aa EN];rename_i Q K hK
 have REST:∀(g1 g2 g6:Nat) (W:World),Hid (MgSt w W N g1 g2 g6 xs ys 0)->K ⟨#[.slice (some ⟨b1,o1,none⟩) n1 c1,.slice (some ⟨b2,o2,none⟩) n2 c2,undef,undef,.pointer (some ⟨w.heap.size,0,none⟩),.int .i64 (N:Int),.pointer (some ⟨g6,0,none⟩),undef,.slice (some ⟨b1,o1,none⟩) n1 c1,.int .i64 (n1:Int),.slice (some ⟨b2,o2,none⟩) n2 c2,.int .i64 (n2:Int),.int .i64 (N:Int),.int .i64 (N:Int),.slice (some ⟨g1,0,none⟩) N N,.int .i64 (N:Int),.slice (some ⟨g2,0,none⟩) N N,.agg #[.slice (some ⟨g1,0,none⟩) N N,.slice (some ⟨g2,0,none⟩) N N],undef,undef,undef,undef,undef,undef,undef,undef,undef,undef,undef,undef,undef,undef,undef,undef,undef,undef,undef,undef,undef,undef,undef,undef,undef,undef,undef,undef,undef,undef,undef,undef,undef,undef,undef,undef,undef,undef,undef,undef,undef,undef,undef,undef,undef],[]⟩ W:=by
  intro g1 g2 g6 W HS;refine hK _ _ ?_;clear hK mk1 mk2 K;go_wp2;go_loopw [0,1,7,19] (fun v0 v1 _ vi wr=>∃(i j k p q u v cu cv:Nat) (P0 P1:Option Addr),Hid ((k=i+j/\p=o1+i/\q=o2+j)/\(0<u->P0=some ⟨b1,p,none⟩)/\(0<v->P1=some ⟨b2,q,none⟩))/\u+i=n1/\v+j=n2/\u<=cu/\v<=cv/\cu<=c1/\cv<=c2/\vi=.int .i64 (k:Int)/\v0=.slice P0 u cu/\v1=.slice P1 v cv/\MgAt xs ys i j/\MgSt w wr N g1 g2 g6 xs ys k) (fun _ _ _ vi _=>N-(intOf vi).toNat)
  case atStart=>exact⟨0,0,0,o1,o2,n1,n2,c1,c2,some ⟨b1,o1,none⟩,some ⟨b2,o2,none⟩,Ab ⟨⟨rfl,rfl,rfl⟩,fun _=>rfl,fun _=>rfl⟩,rfl,rfl,hc1,hc2,VB _,VB _,rfl,rfl,rfl,Aa HM0,Aa HS⟩
  case round=>
   obtain⟨i,j,k,p,q,u,v,cu,cv,P0,P1,HE0,hu,hv,hcu,hcv,hcu2,hcv2,rfl,rfl,rfl,hM,hS⟩:=hrel;have HE:=Ab (Aa HE0).1;have HP0:=Ab (Aa HE0).2.1;have HP1:=Ab (Aa HE0).2.2;have HM:=Ab hM;have HSt:=Ab hS;clear HE0;have hkN:k+u+v=N:=by have:=(Aa HE).1;have:=Aa HN;omega
   clear hM hS;have d0:=(Aa HSt).c0;have d1:=(Aa HSt).c1
   by_cases hlt:k<N
   . have hltI:(k:Int)<(N:Int):=by omega
     have e1:=((Aa HSt).ws.at_ k (by rw[Ay];exact hlt)).1;have e2:=((Aa HSt).ws.at_ k (by rw[Ay];exact hlt)).2;have e3:=((Aa HSt).fs.at_ k (by rw[As];exact hlt)).1;have e4:=((Aa HSt).fs.at_ k (by rw[As];exact hlt)).2
     by_cases hv0:v=0
     . obtain⟨x,hxx⟩:∃x,xs.getD i 0=x:=⟨_,rfl⟩
       have hx:wr.cell? ⟨b1,p,none⟩=some (.int .i64 x):=by rw[(Aa HE).2.1,<-hxx];exact((Aa HSt).bel.cell (p:=⟨b1,o1+i,none⟩) hb1).trans (Aa HR1 i (by omega))
       obtain⟨m1,m2⟩:=(Aa HM).one (by omega) (.inl (by omega));have hP0:=Aa HP0 (by omega);subst hP0;have HQ:=Ab (Aa HSt).drew;rw[<-(Aa HE).1]at m1;have m3:mf xs ys k=x:=by unfold mf;rw[m1,<-hxx]
       have m4:ms xs ys k=true:=by unfold ms;rw[m1]
       have HE2:Hid (k+1=i+1+j/\p+1=o1+(i+1)/\q=o2+j):=by have:=Aa HE;unfold Hid;omega
       have HM2:=Ab m2;have HM3:=Ab m3;have HM4:=Ab m4;clear m1 m2 m3 m4;subst hv0;have hu1:(0:Int)<(u:Int):=by omega
       have HXX:=Ab hxx;clear hxx;have hxw:wr.drew.cell? ⟨b1,p,none⟩=some (.int .i64 x):=hx;go_wp2_with fail
       go_big_region
       clear d0 d1 e1 e2 e3 e4;generalize wr.drew=wq at*;have d0:=(Aa HQ).c0;have d1:=(Aa HQ).c1;have e1:=((Aa HQ).ws.at_ k (by rw[Ay];exact hlt)).1;have e2:=((Aa HQ).ws.at_ k (by rw[Ay];exact hlt)).2;have e3:=((Aa HQ).fs.at_ k (by rw[As];exact hlt)).1;have e4:=((Aa HQ).fs.at_ k (by rw[As];exact hlt)).2;generalize (part (mf xs ys) N k).getD k 0=z1 at*;generalize (partB (ms xs ys) N k).getD k false=z2 at*;have n12:=(Aa HQ).n12;have HS2:=Ab ((Aa HQ).set2 hlt x (Aa HM3) (Aa HM4)).1;have n21:g2≠g1:=fun e=>n12 e.symm
       have n61:g6≠g1:=fun e=>(Aa HQ).n16 e.symm
       go_wp2_with fail
       go_big_region
       clear d0 d1 e1 e2 e3 e4 hxw hx;go_wp2;go_roundw
       case rel=>
        refine⟨i+1,j,k+1,p+1,q,u-1,0,cu-1,cv,if cu=1 then some ⟨b1,p,none⟩else some ⟨b1,p+1,none⟩,P1,Ab ⟨Aa HE2,fun h=>by rw[if_neg (by omega)],fun h=>by omega⟩,by omega,by omega,by omega,by omega,by omega,by omega,by go_num, ?_,rfl,Aa HM2,Aa HS2⟩;rfl
       case measure=>simp[intOf];omega
     . by_cases hu0:u=0
       . obtain⟨y,hyy⟩:∃y,ys.getD j 0=y:=⟨_,rfl⟩
         have hy:wr.cell? ⟨b2,q,none⟩=some (.int .i64 y):=by rw[(Aa HE).2.2,<-hyy];exact((Aa HSt).bel.cell (p:=⟨b2,o2+j,none⟩) hb2).trans (Aa HR2 j (by omega))
         obtain⟨m1,m2⟩:=(Aa HM).two (by omega) (.inl (by omega));have hP1:=Aa HP1 (by omega);subst hP1;have HQ:=Ab (Aa HSt).drew;rw[<-(Aa HE).1]at m1;have m3:mf xs ys k=y:=by unfold mf;rw[m1,<-hyy]
         have m4:ms xs ys k=false:=by unfold ms;rw[m1]
         have HE2:Hid (k+1=i+(j+1)/\p=o1+i/\q+1=o2+(j+1)):=by have:=Aa HE;unfold Hid;omega
         have HM2:=Ab m2;have HM3:=Ab m3;have HM4:=Ab m4;clear m1 m2 m3 m4;subst hu0;have hv1:((v:Int)==0)=false:=by rw[beq_eq_false_iff_ne];omega
         have hv2:(0:Int)<(v:Int):=by omega
         have HYY:=Ab hyy;clear hyy;have hyw:wr.drew.cell? ⟨b2,q,none⟩=some (.int .i64 y):=hy;go_wp2_with fail
         go_big_region
         clear d0 d1 e1 e2 e3 e4;generalize wr.drew=wq at*;have d0:=(Aa HQ).c0;have d1:=(Aa HQ).c1;have e1:=((Aa HQ).ws.at_ k (by rw[Ay];exact hlt)).1;have e2:=((Aa HQ).ws.at_ k (by rw[Ay];exact hlt)).2;have e3:=((Aa HQ).fs.at_ k (by rw[As];exact hlt)).1;have e4:=((Aa HQ).fs.at_ k (by rw[As];exact hlt)).2;generalize (part (mf xs ys) N k).getD k 0=z1 at*;generalize (partB (ms xs ys) N k).getD k false=z2 at*;have HS2:=Ab ((Aa HQ).set1 hlt y (Aa HM3) (Aa HM4));go_wp2_with fail
         go_big_region
         clear d0 d1 e1 e2 e3 e4 hyw hy;go_wp2;go_roundw
         case rel=>
          refine⟨i,j+1,k+1,p,q+1,0,v-1,cu,cv-1,P0,if cv=1 then some ⟨b2,q,none⟩else some ⟨b2,q+1,none⟩,Ab ⟨Aa HE2,fun h=>by omega,fun h=>by rw[if_neg (by omega)]⟩,by omega,by omega,by omega,by omega,by omega,by omega,by go_num,rfl, ?_,Aa HM2,Aa HS2⟩;rfl
         case measure=>simp[intOf];omega
       . obtain⟨x,hxx⟩:∃x,xs.getD i 0=x:=⟨_,rfl⟩
         have hx:wr.cell? ⟨b1,p,none⟩=some (.int .i64 x):=by rw[(Aa HE).2.1,<-hxx];exact((Aa HSt).bel.cell (p:=⟨b1,o1+i,none⟩) hb1).trans (Aa HR1 i (by omega))
         obtain⟨y,hyy⟩:∃y,ys.getD j 0=y:=⟨_,rfl⟩
         have hy:wr.cell? ⟨b2,q,none⟩=some (.int .i64 y):=by rw[(Aa HE).2.2,<-hyy];exact((Aa HSt).bel.cell (p:=⟨b2,o2+j,none⟩) hb2).trans (Aa HR2 j (by omega))
         by_cases hxy:x<=y
         . obtain⟨m1,m2⟩:=(Aa HM).one (by omega) (.inr (by rw[hxx,hyy];exact hxy));have hP0:=Aa HP0 (by omega);subst hP0;have hP1:=Aa HP1 (by omega);subst hP1;have HQ:=Ab (Aa HSt).drew;rw[<-(Aa HE).1]at m1;have m3:mf xs ys k=x:=by unfold mf;rw[m1,<-hxx]
           have m4:ms xs ys k=true:=by unfold ms;rw[m1]
           have HE2:Hid (k+1=i+1+j/\p+1=o1+(i+1)/\q=o2+j):=by have:=Aa HE;unfold Hid;omega
           have HM2:=Ab m2;have HM3:=Ab m3;have HM4:=Ab m4;clear m1 m2 m3 m4;have hv1:((v:Int)==0)=false:=by rw[beq_eq_false_iff_ne];omega
           have hv2:(0:Int)<(v:Int):=by omega
           have hu1:(0:Int)<(u:Int):=by omega
           have hu2:0<u:=by omega
           have hxy2:decide (x<=y)=true:=decide_eq_true hxy;have HXX:=Ab hxx;clear hxx;have HYY:=Ab hyy;clear hyy;have hxw:wr.drew.cell? ⟨b1,p,none⟩=some (.int .i64 x):=hx;have hyw:wr.drew.cell? ⟨b2,q,none⟩=some (.int .i64 y):=hy;go_wp2_with fail
           go_big_region
           clear d0 d1 e1 e2 e3 e4;generalize wr.drew=wq at*;have d0:=(Aa HQ).c0;have d1:=(Aa HQ).c1;have e1:=((Aa HQ).ws.at_ k (by rw[Ay];exact hlt)).1;have e2:=((Aa HQ).ws.at_ k (by rw[Ay];exact hlt)).2;have e3:=((Aa HQ).fs.at_ k (by rw[As];exact hlt)).1;have e4:=((Aa HQ).fs.at_ k (by rw[As];exact hlt)).2;generalize (part (mf xs ys) N k).getD k 0=z1 at*;generalize (partB (ms xs ys) N k).getD k false=z2 at*;have n12:=(Aa HQ).n12;have HS2:=Ab ((Aa HQ).set2 hlt x (Aa HM3) (Aa HM4)).1;have n21:g2≠g1:=fun e=>n12 e.symm
           have n61:g6≠g1:=fun e=>(Aa HQ).n16 e.symm
           go_wp2_with fail
           go_big_region
           clear d0 d1 e1 e2 e3 e4 hxw hx hyw hy;go_wp2;go_roundw
           case rel=>
            refine⟨i+1,j,k+1,p+1,q,u-1,v,cu-1,cv,if cu=1 then some ⟨b1,p,none⟩else some ⟨b1,p+1,none⟩,_,Ab ⟨Aa HE2,fun h=>by rw[if_neg (by omega)],fun _=>rfl⟩,by omega,by omega,by omega,by omega,by omega,by omega,by go_num, ?_,rfl,Aa HM2,Aa HS2⟩;rfl
           case measure=>simp[intOf];omega
         . obtain⟨m1,m2⟩:=(Aa HM).two (by omega) (.inr (by rw[hxx,hyy];exact hxy));have hP0:=Aa HP0 (by omega);subst hP0;have hP1:=Aa HP1 (by omega);subst hP1;have HQ:=Ab (Aa HSt).drew;rw[<-(Aa HE).1]at m1;have m3:mf xs ys k=y:=by unfold mf;rw[m1,<-hyy]
           have m4:ms xs ys k=false:=by unfold ms;rw[m1]
           have HE2:Hid (k+1=i+(j+1)/\p=o1+i/\q+1=o2+(j+1)):=by have:=Aa HE;unfold Hid;omega
           have HM2:=Ab m2;have HM3:=Ab m3;have HM4:=Ab m4;clear m1 m2 m3 m4;have hv1:((v:Int)==0)=false:=by rw[beq_eq_false_iff_ne];omega
           have hv2:(0:Int)<(v:Int):=by omega
           have hu1:(0:Int)<(u:Int):=by omega
           have hu2:0<u:=by omega
           have hxy2:decide (x<=y)=false:=decide_eq_false hxy;have HXX:=Ab hxx;clear hxx;have HYY:=Ab hyy;clear hyy;have hxw:wr.drew.cell? ⟨b1,p,none⟩=some (.int .i64 x):=hx;have hyw:wr.drew.cell? ⟨b2,q,none⟩=some (.int .i64 y):=hy;go_wp2_with fail
           go_big_region
           clear d0 d1 e1 e2 e3 e4;generalize wr.drew=wq at*;have d0:=(Aa HQ).c0;have d1:=(Aa HQ).c1;have e1:=((Aa HQ).ws.at_ k (by rw[Ay];exact hlt)).1;have e2:=((Aa HQ).ws.at_ k (by rw[Ay];exact hlt)).2;have e3:=((Aa HQ).fs.at_ k (by rw[As];exact hlt)).1;have e4:=((Aa HQ).fs.at_ k (by rw[As];exact hlt)).2;generalize (part (mf xs ys) N k).getD k 0=z1 at*;generalize (partB (ms xs ys) N k).getD k false=z2 at*;have HS2:=Ab ((Aa HQ).set1 hlt y (Aa HM3) (Aa HM4));go_wp2_with fail
           go_big_region
           clear d0 d1 e1 e2 e3 e4 hyw hy hxw hx;go_wp2;go_roundw
           case rel=>
            refine⟨i,j+1,k+1,p,q+1,u,v-1,cu,cv-1,_,if cv=1 then some ⟨b2,q,none⟩else some ⟨b2,q+1,none⟩,Ab ⟨Aa HE2,fun _=>rfl,fun h=>by rw[if_neg (by omega)]⟩,by omega,by omega,by omega,by omega,by omega,by omega,by go_num,rfl, ?_,Aa HM2,Aa HS2⟩;rfl
           case measure=>simp[intOf];omega
   . obtain rfl:k=N:=by omega
     have HW1:=(Aa HSt).ws;have HW2:=(Aa HSt).fs;rw[Aa HF1]at HW1;rw[Aa HF2]at HW2;have r0:=(Aa HSt).r0;have r1:=(Aa HSt).r1;have f0:=(Aa HSt).f0;have f1:=(Aa HSt).f1;have HB:=Ab (Aa HSt).bel;have HG:=Ab (And.intro (Aa HSt).b1 (Aa HSt).b2);have HW1:=Ab HW1;have HW2:=Ab HW2;go_wp2
     have q0:((wr.setCell ⟨w.heap.size,0,none⟩ (.slice (some ⟨g1,0,none⟩) k k)).setCell ⟨w.heap.size,1,none⟩ (.slice (some ⟨g2,0,none⟩) k k)).cell? ⟨w.heap.size,0,none⟩=some (.slice (some ⟨g1,0,none⟩) k k):=
      (World.cell?_setCell_other _ _ _ _ (by intro h;injection h;omega)).trans (World.cell?_setCell_same _ _ _ r0)
     have q1:((wr.setCell ⟨w.heap.size,0,none⟩ (.slice (some ⟨g1,0,none⟩) k k)).setCell ⟨w.heap.size,1,none⟩ (.slice (some ⟨g2,0,none⟩) k k)).cell? ⟨w.heap.size,1,none⟩=some (.slice (some ⟨g2,0,none⟩) k k):=
      World.cell?_setCell_same _ _ _ ((World.cell?_setCell_other _ _ _ _ (by intro h;injection h;omega)).trans r1)
     refine bodyPost_ret (Z06 rfl _ _ _ _ _ rfl q0 q1) rfl ?_;have hg1:=(Aa HG).1;have hg2:=(Aa HG).2
     exact⟨g1,g2,rfl,((Aa HW1).other (a:=⟨w.heap.size,0,none⟩) (by simp;omega) _).other (a:=⟨w.heap.size,1,none⟩) (by simp;omega) _,((Aa HW2).other (a:=⟨w.heap.size,0,none⟩) (by simp;omega) _).other (a:=⟨w.heap.size,1,none⟩) (by simp;omega) _,
      ((Aa HB).setCell (p:=⟨w.heap.size,0,none⟩) (VB _) _).setCell (p:=⟨w.heap.size,1,none⟩) (VB _) _,by omega,by omega⟩
 go_big_region
 . exact REST _ _ _ _ (Z4m w N xs ys)
 . exact REST _ _ _ _ (Z4l w N xs ys)
 . exact REST _ _ _ _ (Z4k w N xs ys)
 . exact REST _ _ _ _ (Z4j w N xs ys)
 . exact REST _ _ _ _ (Z4i w N xs ys)
 . exact REST _ _ _ _ (Z4h w N xs ys)
def Il (fs:List Bool):Nat->Nat
 |0=>0
 |k+1=>Il fs k+(if fs.getD k false=true then 1 else 0)
theorem P7 (fs:List Bool):∀k,Il fs k<=k
 |0=>VB _
 |k+1=>by
  have:=P7 fs k
  rw[Il]
  split<;>omega
theorem Od (r:List (Int×Bool)):∀t,t<=r.length->Bz r t=Il (r.map Prod.snd) t
 |0,_=>by simp[Bz,Il]
 |t+1,h=>by
  have ih:=Od r t (by omega);have ht:t<r.length:=by omega
  unfold Bz at*;rw[XB ht,List.filter_append,VE,ih,Il];have e:(r.map Prod.snd).getD t false=r[t].2:=by simp[List.getD,ht]
  rw[e]
  cases h:r[t].2<;>simp[h]
theorem Ty (v:Value)(hv:v.oneCell'=true)(g N c m:Nat)(fs:List Bool)(w:World)(hl:fs.length=N)(hm:m<=N)(hN:N<=2000)(hF:BRow w g fs):
 Calls Tryz.prog 262 #[.agg #[v,.slice (some ⟨g,0,none⟩) N c],.int .i64 m] w fun e w'=>e=.returned (.int .i64 ((Il fs m:Nat):Int))/\Below w.heap.size w w':=by
 have HF:=Ab hF;have hg:=hF.lt;clear hF;go_enter Tryz.func262,Tryz.ntmps262
 go_wp2;have hb:(w.alloc (.cells #[v,.slice (some ⟨g,0,none⟩) N c] 340)).cell? ⟨w.heap.size,1,none⟩=some (.slice (some ⟨g,0,none⟩) N c):=by simp
 have HB:=Ab ((Below.refl w.heap.size w).alloc (VB _) (.cells #[v,.slice (some ⟨g,0,none⟩) N c] 340));have HF2:=Ab ((Aa HF).alloc (.cells #[v,.slice (some ⟨g,0,none⟩) N c] 340));generalize w.alloc (.cells #[v,.slice (some ⟨g,0,none⟩) N c] 340)=W at*;go_loop [5,6,8] (fun va _ vi=>∃k:Nat,k<=m/\vi=.int .i64 (k:Int)/\va=.int .i64 ((Il fs k:Nat):Int)) (fun _ _ vi=>m-(intOf vi).toNat)
 case atStart=>exact⟨0,VH _,rfl,rfl⟩
 case round=>
  obtain⟨k,hk,rfl,rfl⟩:=hrel;have hle:=P7 fs k
  by_cases hlt:k<m
  . have c1:=((Aa HF2).at_ k (by omega)).1;have hkN:(k:Int)<(N:Int):=by omega
    have HU:Hid (Il fs (k+1)=Il fs k+(if fs.getD k false=true then 1 else 0)):=rfl;generalize Il fs k=u at*
    cases hx:fs.getD k false with
    |true=>
     rw[hx]at c1 HU;rw[if_pos rfl]at HU;clear hx;go_wp2;go_round
     case rel=>exact⟨k+1,by omega,by go_num,by rw[Aa HU];go_num⟩
     case measure=>simp[intOf];omega
    |false=>
     rw[hx]at c1 HU;rw[if_neg (by simp)]at HU;clear hx;go_wp2;go_round
     case rel=>exact⟨k+1,by omega,by go_num,by rw[Aa HU];rfl⟩
     case measure=>simp[intOf];omega
  . obtain rfl:k=m:=by omega
    go_wp2;go_ret;exact⟨rfl,Aa HB⟩
theorem Gy:∀(xs ys:List Int) (x:Int),x∈(mrg xs ys).map Prod.fst->x∈xs\/x∈ys
 | [],ys,x,h=>by
  rw[Kn]at h;simp at h
  exact .inr h
 |z::xs,[],x,h=>by
  rw[Nj,WQ,WH]at h
  rcases h with h|h
  . exact .inl (by rw[h];exact XP)
  . rcases Gy xs [] x h with h|h
    . exact .inl (WR _ h)
    . cases h
 |z::xs,y::ys,x,h=>by
  rw[Jc]at h
  split at h
  . rw[WQ,WH]at h
    rcases h with h|h
    . exact .inl (by rw[h];exact XP)
    . rcases Gy xs (y::ys) x h with h|h
      . exact .inl (WR _ h)
      . exact .inr h
  . rw[WQ,WH]at h
    rcases h with h|h
    . exact .inr (by rw[h];exact XP)
    . rcases Gy (z::xs) ys x h with h|h
      . exact .inl h
      . exact .inr (WR _ h)
termination_by xs ys=>xs.length+ys.length
theorem Xr:∀(xs:List Int) (x:Int),x∈prs xs->∃a b,a∈xs/\b∈xs/\x=a+b
 | [],x,h=>by simp[prs]at h
 | [y],x,h=>by simp[prs]at h
 |y::z::t,x,h=>by
  rw[prs,WH]at h
  rcases h with h|h
  . exact⟨y,z,by simp,by simp,h⟩
  . obtain⟨a,b,ha,hb,e⟩:=Xr t x h;exact⟨a,b,by simp[ha],by simp[hb],e⟩
theorem Iz (W:List Int):∀k,(rowAt W k).length<=2*W.length
 |0=>by rw[rowAt,Bo];simp;omega
 |k+1=>by
  have:=Iz W k
  rw[rowAt,Bo,Eo,WL];omega
theorem Kk (W:List Int)(M:Int)(hW:∀x∈W,0<=x/\x<=M):∀k,∀x∈(rowAt W k).map Prod.fst,0<=x/\x<=M*2^k
 |0,x,h=>by
  rw[rowAt]at h
  rcases Gy W [] x h with h|h
  . have:=hW x h;simpa using this
  . cases h
 |k+1,x,h=>by
  rw[rowAt]at h;have hp:(0:Int)<2^k:=Int.pow_pos (by decide);rw[Int.pow_succ]
  rcases Gy _ _ x h with h|h
  . have:=hW x h
    have h0:0<=M:=by omega
    have h2:M*1<=M*(2^k*2):=Int.mul_le_mul_of_nonneg_left (by omega) h0;rw[Int.mul_one]at h2;omega
  . obtain⟨a,b,ha,hb,e⟩:=Xr _ x h;have h1:=Kk W M hW k a ha;have h2:=Kk W M hW k b hb;rw[<-Int.mul_assoc];omega
theorem T3 (W:List Int)(hW:∀x∈W,0<=x/\x<=1000000)(k:Nat)(hk:k<=15)(j:Nat):0<=((rowAt W k).map Prod.fst).getD j 0/\((rowAt W k).map Prod.fst).getD j 0<=1000000000000:=by
 by_cases hj:j<((rowAt W k).map Prod.fst).length
 . have h:=Kk W 1000000 hW k (((rowAt W k).map Prod.fst).getD j 0) (by simp only[List.getD,VP hj,YH];exact WK _);have h2:(2:Nat)^k<=2^15:=VO (by decide) hk;have h3:((2:Int)^k)=((2^k:Nat):Int):=by push_cast;rfl
   rw[h3]at h;generalize 2^k=q at*;omega
 . rw[List.getD,WJ (by omega)];decide
structure StSt (w W:World)(g m:Nat)(Ws:List Int)(k:Nat)(A B:Nat->Nat):Prop where
 glo:w.heap.size<=g
 ghi:g<W.heap.size
 fz:∀j,W.frozen? ⟨g,j,none⟩=false
 done:∀i,i<k->W.cell? ⟨g,i*2,none⟩=some (.slice (some ⟨A i,0,none⟩) (rowAt Ws i).length (rowAt Ws i).length)/\W.cell? ⟨g,i*2+1,none⟩=some (.slice (some ⟨B i,0,none⟩) (rowAt Ws i).length (rowAt Ws i).length)
 todo:∀i,k<=i->i<m->W.cell? ⟨g,i*2,none⟩=some (.slice none 0 0)/\W.cell? ⟨g,i*2+1,none⟩=some (.slice none 0 0)
 ws:∀i,i<k->w.heap.size<=A i/\A i≠g/\WRow W (A i) ((rowAt Ws i).map Prod.fst)
 fs:∀i,i<k->w.heap.size<=B i/\B i≠g/\BRow W (B i) ((rowAt Ws i).map Prod.snd)
 bel:Below w.heap.size w W
theorem StSt.below {w W W':World}{g m:Nat}{Ws:List Int}{k:Nat}{A B:Nat->Nat}(h:StSt w W g m Ws k A B)(hB:Below W.heap.size W W'):StSt w W' g m Ws k A B:=by
 have hz:w.heap.size<=W.heap.size:=h.bel.size;refine⟨h.glo,VG h.ghi hB.size,fun j=> ?_,fun i hi=>⟨?_, ?_⟩,fun i h1 h2=>⟨?_, ?_⟩,fun i hi=>⟨(h.ws i hi).1,(h.ws i hi).2.1,(h.ws i hi).2.2.below hB (h.ws i hi).2.2.lt⟩,fun i hi=>⟨(h.fs i hi).1,(h.fs i hi).2.1,(h.fs i hi).2.2.below hB (h.fs i hi).2.2.lt⟩,h.bel.trans (hB.mono hz)⟩
 . rw[hB.frozen (p:=⟨g,j,none⟩) h.ghi];exact h.fz j
 . rw[hB.cell (p:=⟨g,i*2,none⟩) h.ghi];exact(h.done i hi).1
 . rw[hB.cell (p:=⟨g,i*2+1,none⟩) h.ghi];exact(h.done i hi).2
 . rw[hB.cell (p:=⟨g,i*2,none⟩) h.ghi];exact(h.todo i h1 h2).1
 . rw[hB.cell (p:=⟨g,i*2+1,none⟩) h.ghi];exact(h.todo i h1 h2).2
theorem StSt.next {w W:World}{g m:Nat}{Ws:List Int}{k:Nat}{A B:Nat->Nat}(h:StSt w W g m Ws k A B)(hk:k<m)(a b:Nat)(ha:w.heap.size<=a/\a≠g)(hb:w.heap.size<=b/\b≠g)(h1:WRow W a ((rowAt Ws k).map Prod.fst))(h2:BRow W b ((rowAt Ws k).map Prod.snd))(L:Nat)(hL:L=(rowAt Ws k).length):
 StSt w ((W.setCell ⟨g,k*2,none⟩ (.slice (some ⟨a,0,none⟩) L L)).setCell ⟨g,k*2+1,none⟩ (.slice (some ⟨b,0,none⟩) L L)) g m Ws (k+1) (fun i=>if i=k then a else A i) (fun i=>if i=k then b else B i):=by
 subst hL
 have o:∀j x y,j≠k*2->j≠k*2+1->((W.setCell ⟨g,k*2,none⟩ x).setCell ⟨g,k*2+1,none⟩ y).cell? ⟨g,j,none⟩=W.cell? ⟨g,j,none⟩:=fun j x y e1 e2=>
  (World.cell?_setCell_other _ _ _ _ (by intro h;injection h;omega)).trans (World.cell?_setCell_other _ _ _ _ (by intro h;injection h;omega))
 have s0:∀x y,((W.setCell ⟨g,k*2,none⟩ x).setCell ⟨g,k*2+1,none⟩ y).cell? ⟨g,k*2,none⟩=some x:=fun x y=>
  (World.cell?_setCell_other _ _ _ _ (by intro h;injection h;omega)).trans (World.cell?_setCell_same _ _ _ (h.todo k (VB _) hk).1)
 have s1:∀x y,((W.setCell ⟨g,k*2,none⟩ x).setCell ⟨g,k*2+1,none⟩ y).cell? ⟨g,k*2+1,none⟩=some y:=fun x y=>
  World.cell?_setCell_same _ _ _ ((World.cell?_setCell_other _ _ _ _ (by intro h;injection h;omega)).trans (h.todo k (VB _) hk).2)
 refine⟨h.glo,by simpa using h.ghi,fun j=>by simp[h.fz j],fun i hi=> ?_,fun i i1 i2=> ?_,fun i hi=> ?_,fun i hi=> ?_,(h.bel.setCell (p:=⟨g,k*2,none⟩) h.glo _).setCell (p:=⟨g,k*2+1,none⟩) h.glo _⟩
 . by_cases e:i=k
   . subst e;simp only[if_true];exact⟨s0 _ _,s1 _ _⟩
   . simp only[if_neg e];rw[o _ _ _ (by omega) (by omega),o _ _ _ (by omega) (by omega)];exact h.done i (by omega)
 . rw[o _ _ _ (by omega) (by omega),o _ _ _ (by omega) (by omega)];exact h.todo i (by omega) i2
 . by_cases e:i=k
   . subst e;simp only[if_true];exact⟨ha.1,ha.2,(h1.other (a:=⟨g,i*2,none⟩) (fun e=>ha.2 e.symm) _).other (a:=⟨g,i*2+1,none⟩) (fun e=>ha.2 e.symm) _⟩
   . simp only[if_neg e];obtain⟨q1,q2,q3⟩:=h.ws i (by omega);exact⟨q1,q2,(q3.other (a:=⟨g,k*2,none⟩) (fun e=>q2 e.symm) _).other (a:=⟨g,k*2+1,none⟩) (fun e=>q2 e.symm) _⟩
 . by_cases e:i=k
   . subst e;simp only[if_true];exact⟨hb.1,hb.2,(h2.other (a:=⟨g,i*2,none⟩) (fun e=>hb.2 e.symm) _).other (a:=⟨g,i*2+1,none⟩) (fun e=>hb.2 e.symm) _⟩
   . simp only[if_neg e];obtain⟨q1,q2,q3⟩:=h.fs i (by omega);exact⟨q1,q2,(q3.other (a:=⟨g,k*2,none⟩) (fun e=>q2 e.symm) _).other (a:=⟨g,k*2+1,none⟩) (fun e=>q2 e.symm) _⟩
end Go.Proofs.YtleocpdblhbimaaGreatDoor
