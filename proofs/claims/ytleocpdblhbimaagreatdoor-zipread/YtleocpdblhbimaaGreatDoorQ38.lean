import Derived.Test.YtleocpdblhbimaaGreatDoorQ37
import Derived.Deep.RegionHeld3
import Derived.Shelf.Slices.Equal
import Derived.Shelf.Slices.Empties2
import Derived.Lib.SlBytesConst
set_option linter.unusedSimpArgs false
set_option linter.unusedVariables false
set_option maxRecDepth 100000
set_option maxHeartbeats 4000000
namespace Go.Proofs.YtleocpdblhbimaaGreatDoor
open Go.RowKit
structure EOf (x:En):Prop where
 cr:x.crc=crcN 0 (n8 x.f.bytes)
 pk:∃out,IsOne (n8 x.f.bytes) (bestP (n8 x.f.bytes) 3) out/\((out.length<x.f.bytes.length/\x.meth=8/\x.pk=out)\/ (x.f.bytes.length<=out.length/\x.meth=0/\x.pk=n8 x.f.bytes))
def EoA (w:World)(x:Fv)(e:Ending)(w':World):Prop:=∃y:Ev,e=.returned y.val/\y.e.f=x.f/\EOf y.e/\EvIn w' y/\Below w.heap.size w w'/\y.fa=x.a/\(∀g o,y.pa=some ⟨g,o,none⟩->y.e.pk≠ []->(x.a=some ⟨g,o,none⟩/\y.e.f.bytes≠ [])\/o=0)
def RX (W:World)(X:Nat)(v0 v1 v2 v3 v4 v5 v6 v7:Value)(Wf:World):Prop:=Ni W X v0 v1 v2 v3 v4 v5 v6 v7=Wf
theorem Z2t (W:World)(X:Nat)(E M T O G H F I:Value):∃U,RX W X E M T O G H F I U:=⟨Ni W X E M T O G H F I,rfl⟩
theorem DX {a w:World}{X:Nat}{E T Y U H M G O:Value}(I:Below a.heap.size a w)(F:a.heap.size<=X):Below a.heap.size a (Ni w X E T Y U H M G O):=by
 have one:∀ {W:World} (i:Nat) (v:Value),Below a.heap.size a W->Below a.heap.size a (W.setCell ⟨X,i,none⟩ v):=fun {W} i v hW=>hW.grown (Ad W X i v) hW.size (fun g e=>by cases e;exact F)
 exact one 7 _ (one 6 _ (one 5 _ (one 4 _ (one 3 _ (one 2 _ (one 1 _ (one 0 _ I)))))))
theorem RP {w E:World}(F:Below w.drew.heap.size w.drew E):Below w.heap.size w E:=(Ea (Below.refl _ _)).trans F
theorem RO {w E:World}{o:Obj}(F:Below (w.alloc o).drew.heap.size (w.alloc o).drew E):Below w.heap.size w E:=(Ea (Ck (Below.refl _ _) _)).trans (F.mono (by simp[World.drew]))
theorem RN {w E:World}{o:Obj}(F:Below (w.drew.alloc o).heap.size (w.drew.alloc o) E):Below w.heap.size w E:=(Ck (Ea (Below.refl _ _)) _).trans (F.mono (by rw[World.size_alloc];exact Nat.le_succ _))
theorem Z4d {w E:World}{o:Obj}(F:Below (w.alloc o).drew.heap.size (w.alloc o).drew E):E.heap[w.heap.size]? =some o:=(F.block w.heap.size (by simp[World.drew])).trans (heap_alloc_new w o)
theorem Z3 (x:Fv)(w:World)(h:FvIn w x)(bn:x.f.bytes.length<=3000):
 Calls Tryz.prog 35 #[x.val] w fun e w'=>EoA w x e w':=by
 have bz:=Ab h;have ae:=Z5j h.bs;have aw:=RE h.bs;obtain⟨⟨nml,bys,st,nd,gn⟩,fa,fc⟩:=x;rw[Nw];dsimp only at bn ae aw ⊢;have ay:=Da bys;have bm:=Lv bys;have a5:=Er bm;obtain⟨bs,a1⟩:=exq (n8 bys);have cw:=a1;rw[a1]at ae ay bm a5;obtain⟨n,ba⟩:=exq (bys.length);rw[ba]at bn aw ay ⊢;obtain⟨nm,bh⟩:=exq (B nml);rw[bh];obtain⟨m,hm⟩:=exq (crcN 0 bs);obtain⟨E,ao⟩:=exq ((w.alloc (.cells #[.string nm,.slice fa n fc,.int .i64 st,.int .i64 nd,.bool gn] 30)).alloc (.cells ez 71));have a9:E.heap.size=w.heap.size+2:=by rw[<-ao];simp
 have a4:Below w.heap.size w E:=by rw[<-ao];exact((Below.refl _ _).alloc (VB _) _).alloc (by simp) _
 have ai:E.heap[w.heap.size]? =some (.cells #[.string nm,.slice fa n fc,.int .i64 st,.int .i64 nd,.bool gn] 30 (0,0)):=by rw[<-ao];exact(Below.heap_alloc _ _ _ (by simp)).trans (heap_alloc_new w _)
 have bo:E.heap[w.heap.size+1]? =some (.cells ez 71 (0,0)):=by
  have:=heap_alloc_new (w.alloc (.cells #[.string nm,.slice fa n fc,.int .i64 st,.int .i64 nd,.bool gn] 30)) (.cells ez 71)
  rw[<-ao];simpa using this
 have bv:∀W:World,Below E.heap.size E W->Calls Tryz.prog 53 #[.slice fa n fc] W fun e w'=>e=.returned (.int .u32 (m:Int))/\Below W.heap.size W w':=fun W M=>by
  have:=AQ fa n fc bs W ay (by omega) (ae.below (a4.trans (M.mono (by omega)))).1 a5
  rw[hm]at this;exact this
 have b3:∀W:World,Below E.heap.size E W->Calls Tryz.prog 54 #[.slice fa n fc] W fun e w'=>∃g c out,e=.returned (.tuple #[.slice (some ⟨g,0,none⟩) (GA bs (bestP bs 3)) c,.int .i64 (bestP bs 3:Nat),.int .i64 0])/\g<w'.heap.size/\Bytes w' g 0 out/\IsOne bs (bestP bs 3) out/\Below W.heap.size W w':=fun W M=>Z5n fa n fc bs W ay aw ae.2 (ae.below (a4.trans (M.mono (by omega)))).1 a5 bn
 have c7:∀W:World,Below E.heap.size E W->W.cell? ⟨w.heap.size,0,none⟩=some (.string nm):=fun W M=>(M.cell (p:=⟨w.heap.size,0,none⟩) (by dsimp only;omega)).trans (Ac ai)
 have k1:∀W:World,Below E.heap.size E W->W.cell? ⟨w.heap.size,1,none⟩=some (.slice fa n fc):=fun W M=>(M.cell (p:=⟨w.heap.size,1,none⟩) (by dsimp only;omega)).trans (Ac ai)
 have k2:∀W:World,Below E.heap.size E W->W.cell? ⟨w.heap.size,2,none⟩=some (.int .i64 st):=fun W M=>(M.cell (p:=⟨w.heap.size,2,none⟩) (by dsimp only;omega)).trans (Ac ai)
 have c5:∀W:World,Below E.heap.size E W->W.cell? ⟨w.heap.size,3,none⟩=some (.int .i64 nd):=fun W M=>(M.cell (p:=⟨w.heap.size,3,none⟩) (by dsimp only;omega)).trans (Ac ai)
 have cy:∀W:World,Below E.heap.size E W->W.cell? ⟨w.heap.size,4,none⟩=some (.bool gn):=fun W M=>(M.cell (p:=⟨w.heap.size,4,none⟩) (by dsimp only;omega)).trans (Ac ai)
 have dc:=Ab bv;have cu:=Ab b3;have cm:=Ab ao;have ce:=Ab bo;have ci:=Ab a4;have dd:=Ab a9;have b8:=Ab bh;have Z:=Ab ba;have Y:=Ab a1;have b9:=Ab hm;have al:=Ab ae;clear h ae ay bm a5 a1 cw ba bh hm ao a4 ai bo bv b3 a9;go_enter Tryz.func35,Tryz.ntmps35
 go_upto_region 1 with fail
 rw[Aa cm];go_cut [3] (fun cv wc=>∃X,cv=.pointer (some ⟨X,0,none⟩)/\Hid (wc.heap[X]? =some (.cells (ec (.string nm) (.slice fa n fc) (.int .i64 st) (.int .i64 nd) (.bool gn) (.int .u32 0) (.slice fa n fc) (.int .u32 (m:Int))) 71 (0,0))/\E.heap.size<=X/\Below E.heap.size E wc))
 case first=>
  go_region_held3 (fun W=>Below E.heap.size E W) (first|O exact Ea (Below.refl _ _)|O exact ap|O exact Ck ap _|O exact Ea (Ck (Below.refl _ _) _)|O exact Ck (Ea (Below.refl _ _)) _|O exact DX ap (VB _)) ((go_at_call 53;refine(Aa dc _ (by first|O exact Ea (Below.refl _ _)|O exact Ea (Ck (Below.refl _ _) _)|O exact Ck (Ea (Below.refl _ _)) _)).mono ?_;rintro e U ⟨rfl,a6⟩;have ap:Below E.heap.size E U:=(by first|O exact RP a6|O exact RO a6|O exact RN a6);try (have G:=(by O exact Z4d a6:U.heap[E.heap.size]? =some (.cells ez 71 (0,0)));have dh:=Ac (i:=0) G;have x1:=Ac (i:=1) G;have x2:=Ac (i:=2) G;have x3:=Ac (i:=3) G;have x4:=Ac (i:=4) G;have dn:=Ac (i:=5) G;have dq:=Ac (i:=6) G;have df:=Ac (i:=7) G;have dy:=frozen_of_row U E.heap.size 0 _ _ G;have y1:=frozen_of_row U E.heap.size 1 _ _ G;have y2:=frozen_of_row U E.heap.size 2 _ _ G;have dz:=frozen_of_row U E.heap.size 3 _ _ G;have dv:=frozen_of_row U E.heap.size 4 _ _ G;have dp:=frozen_of_row U E.heap.size 5 _ _ G;have di:=frozen_of_row U E.heap.size 6 _ _ G;have dl:=frozen_of_row U E.heap.size 7 _ _ G)))
  all_goals go_wp2_with fail
  all_goals go_meet
  . exact⟨_,rfl,Ab ⟨heap_alloc_new _ _,ap.size,Ck ap _⟩⟩
  . exact⟨_,rfl,Ab ⟨(Z7g U E.heap.size 71 _ _ _ _ _ _ _ _ _ _ _ _ _ _ _ _ G).1,VB _,DX ap (VB _)⟩⟩
 case rest=>
  obtain⟨X,rfl,bu⟩:=hcut;obtain⟨b4,dj,bf⟩:=Aa bu;have c1:=k1 wc bf;have bq:=Ab b4;have az:=Ab bf;clear bu b4 bf c7 k1 k2 c5 cy;go_wp2_with fail
  refine(Aa cu wc (Aa az)).mono ?_;rintro e w6 ⟨g,c,out,rfl,a8,a3,aj,a7⟩;have au:=aj.len;have I:w6.heap[X]? =some (.cells (ec (.string nm) (.slice fa n fc) (.int .i64 st) (.int .i64 nd) (.bool gn) (.int .u32 0) (.slice fa n fc) (.int .u32 (m:Int))) 71 (0,0)):=(a7.block X (VK.1 (Aa bq)).1).trans (Aa bq);have ax:Below E.heap.size E w6:=(Aa az).trans (a7.mono (Aa az).size);have a9:=Aa dd;have F:w6.heap[w.heap.size+1]? =some (.cells ez 71 (0,0)):=(ax.block _ (by omega)).trans (Aa ce)
  have dw:w6.cell? ⟨w.heap.size,1,none⟩=some (.slice fa n fc):=by
   have:=ax.cell (p:=⟨w.heap.size,1,none⟩) (by dsimp only;omega)
   have ck:=(Aa az).cell (p:=⟨w.heap.size,1,none⟩) (by dsimp only;omega);rw[this,<-ck];exact c1
  obtain⟨L,a2⟩:=exq (GA bs (bestP bs 3));obtain⟨K,hK⟩:=exq (bestP bs 3);rw[a2]at au;rw[a2,hK];have b0:=Ac (i:=0) I;have cq:=Ac (i:=1) I;have c8:=Ac (i:=2) I;have c6:=Ac (i:=3) I;have cd:=Ac (i:=4) I;have c9:=Ac (i:=5) I;have cg:=Ac (i:=6) I;have co:=Ac (i:=7) I;have dt:=frozen_of_row w6 X 5 _ _ I;have du:=frozen_of_row w6 X 6 _ _ I;have r0:=Ac (i:=0) F;have r1:=Ac (i:=1) F;have r2:=Ac (i:=2) F;have cp:=Ac (i:=3) F;have cz:=Ac (i:=4) F;have cn:=Ac (i:=5) F;have cj:=Ac (i:=6) F;have ct:=Ac (i:=7) F;have dm:=frozen_of_row w6 (w.heap.size+1) 0 _ _ F;have g1:=frozen_of_row w6 (w.heap.size+1) 1 _ _ F;have g2:=frozen_of_row w6 (w.heap.size+1) 2 _ _ F;have g3:=frozen_of_row w6 (w.heap.size+1) 3 _ _ F;have ds:=frozen_of_row w6 (w.heap.size+1) 4 _ _ F;have dx:=frozen_of_row w6 (w.heap.size+1) 5 _ _ F;have g6:=frozen_of_row w6 (w.heap.size+1) 6 _ _ F;have dr:=frozen_of_row w6 (w.heap.size+1) 7 _ _ F;simp only[VZ,VY,WI]at b0 cq c8 c6 cd c9 cg co r0 r1 r2 cp cz cn cj ct;have bw:w.heap.size+1≠X:=by omega
  have ak:Below w.heap.size w w6:=(Aa ci).trans (ax.mono (by omega));have b5:=(VK.1 I).1;have b7:=aj.pos;have af:=a3 0 b7;have bc:g≠X:=fun e=>by rw[e]at af;rw[b0]at af;cases af
  have bj:g≠w.heap.size+1:=fun e=>by rw[e]at af;rw[r0]at af;cases af
  have bi:bs.length=n:=by rw[<-Aa Y,Da];exact Aa Z
  clear b7 af
  by_cases bg:L<n
  . have de:(L:Int)<(n:Int):=by omega
    have k1:=Ad w6 X 5 (.int .u32 8);have k2:=Ad (w6.setCell ⟨X,5,none⟩ (.int .u32 8)) X 6 (.slice (some ⟨g,0,none⟩) L c);have kk:=Aj k1 k2;obtain⟨ah,ac⟩:=Z7g ((w6.setCell ⟨X,5,none⟩ (.int .u32 8)).setCell ⟨X,6,none⟩ (.slice (some ⟨g,0,none⟩) L c)) (w.heap.size+1) 71 _ _ _ _ _ _ _ _ (.string nm) (.slice fa n fc) (.int .i64 st) (.int .i64 nd) (.bool gn) (.int .u32 8) (.slice (some ⟨g,0,none⟩) L c) (.int .u32 (m:Int)) ((kk.block _ (by omega) (by simp;exact bw)).trans F);have ar:PkIn (Ni ((w6.setCell ⟨X,5,none⟩ (.int .u32 8)).setCell ⟨X,6,none⟩ (.slice (some ⟨g,0,none⟩) L c)) (w.heap.size+1) (.string nm) (.slice fa n fc) (.int .i64 st) (.int .i64 nd) (.bool gn) (.int .u32 8) (.slice (some ⟨g,0,none⟩) L c) (.int .u32 (m:Int))) fa fc bs:=(((Aa al).below ak).grown kk (fun H o aa e2=>by have:=Xm (Aa al) H o aa e2;simp;omega)).grown ac (fun H o aa e2=>by have:=Xm (Aa al) H o aa e2;simp;omega)
    have av:Hid (EoA w ⟨⟨nml,bys,st,nd,gn⟩,fa,fc⟩ (.returned (.agg #[(.string nm),(.slice fa n fc),(.int .i64 st),(.int .i64 nd),(.bool gn),(.int .u32 8),(.slice (some ⟨g,0,none⟩) L c),(.int .u32 (m:Int))])) (Ni ((w6.setCell ⟨X,5,none⟩ (.int .u32 8)).setCell ⟨X,6,none⟩ (.slice (some ⟨g,0,none⟩) L c)) (w.heap.size+1) (.string nm) (.slice fa n fc) (.int .i64 st) (.int .i64 nd) (.bool gn) (.int .u32 8) (.slice (some ⟨g,0,none⟩) L c) (.int .u32 (m:Int)))):=Ab (by
     refine⟨⟨⟨⟨nml,bys,st,nd,gn⟩,8,out,m⟩,fa,fc,some ⟨g,0,none⟩,c⟩, ?_,rfl,⟨by dsimp only;rw[Aa Y,Aa b9],out,by dsimp only;rw[Aa Y];exact aj,.inl ⟨by dsimp only;rw[au,Aa Z];exact bg,rfl,rfl⟩⟩,⟨by dsimp only;rw[Aa Y];exact ar,by dsimp only;rw[Aa Z];exact aw,by dsimp only;rw[Aa Z];omega,(Aa bz).txt,((show PkIn w6 (some ⟨g,0,none⟩) c out from ⟨.inr ⟨g,0,rfl,a8,a3⟩,fun e=>by cases e⟩).grown kk (fun H o e _=>by cases e;simp;exact bc)).grown ac (fun H o e _=>by cases e;simp;exact bj)⟩, ?_,rfl,fun H o e _=>by cases e;exact .inr rfl⟩
     . unfold Ev.val;dsimp only;rw[Aa b8,Aa Z,au]
       first|done|rfl
     . have db:=kk.size;exact(ak.grown kk (by omega) (fun H e=>by cases e;omega)).grown ac (by omega) (fun H e=>by cases e;omega))
    obtain⟨bk,ag⟩:=Z2t ((w6.setCell ⟨X,5,none⟩ (.int .u32 8)).setCell ⟨X,6,none⟩ (.slice (some ⟨g,0,none⟩) L c)) (w.heap.size+1) (.string nm) (.slice fa n fc) (.int .i64 st) (.int .i64 nd) (.bool gn) (.int .u32 8) (.slice (some ⟨g,0,none⟩) L c) (.int .u32 (m:Int));have T:Ni ((w6.setCell ⟨X,5,none⟩ (.int .u32 8)).setCell ⟨X,6,none⟩ (.slice (some ⟨g,0,none⟩) L c)) (w.heap.size+1) (.string nm) (.slice fa n fc) (.int .i64 st) (.int .i64 nd) (.bool gn) (.int .u32 8) (.slice (some ⟨g,0,none⟩) L c) (.int .u32 (m:Int))=bk:=ag;rw[T]at av ah;have bb:=Ab ag;clear ag T;have bd:=Ab ah;clear ah ac ar I F ax ak a3 aj a7 au a2 hK a8 bc bj b5 bg bi k1 k2 kk;go_wp2;have T:=Aa bb;unfold RX at T;subst T;refine bodyPost_ret (v:=.agg #[(.string nm),(.slice fa n fc),(.int .i64 st),(.int .i64 nd),(.bool gn),(.int .u32 8),(.slice (some ⟨g,0,none⟩) L c),(.int .u32 (m:Int))]) ?_ rfl (Aa av);exact results_cell_row rfl _ _ _ _ _ _ _ rfl (Aa bd) Tryz.underlying71 rfl (by kernel_rfl)
  . have de:¬(L:Int)<(n:Int):=by omega
    have kk:=Aw w6 (some X);obtain⟨ah,ac⟩:=Z7g w6 (w.heap.size+1) 71 _ _ _ _ _ _ _ _ (.string nm) (.slice fa n fc) (.int .i64 st) (.int .i64 nd) (.bool gn) (.int .u32 0) (.slice fa n fc) (.int .u32 (m:Int)) ((kk.block _ (by omega) (by simp;exact bw)).trans F);have ar:PkIn (Ni w6 (w.heap.size+1) (.string nm) (.slice fa n fc) (.int .i64 st) (.int .i64 nd) (.bool gn) (.int .u32 0) (.slice fa n fc) (.int .u32 (m:Int))) fa fc bs:=(((Aa al).below ak).grown kk (fun H o aa e2=>by have:=Xm (Aa al) H o aa e2;simp;omega)).grown ac (fun H o aa e2=>by have:=Xm (Aa al) H o aa e2;simp;omega)
    have av:Hid (EoA w ⟨⟨nml,bys,st,nd,gn⟩,fa,fc⟩ (.returned (.agg #[(.string nm),(.slice fa n fc),(.int .i64 st),(.int .i64 nd),(.bool gn),(.int .u32 0),(.slice fa n fc),(.int .u32 (m:Int))])) (Ni w6 (w.heap.size+1) (.string nm) (.slice fa n fc) (.int .i64 st) (.int .i64 nd) (.bool gn) (.int .u32 0) (.slice fa n fc) (.int .u32 (m:Int)))):=Ab (by
     refine⟨⟨⟨⟨nml,bys,st,nd,gn⟩,0,bs,m⟩,fa,fc,fa,fc⟩, ?_,rfl,⟨by dsimp only;rw[Aa Y,Aa b9],out,by dsimp only;rw[Aa Y];exact aj,.inr ⟨by dsimp only;rw[au,Aa Z];omega,rfl,by dsimp only;rw[Aa Y]⟩⟩,⟨by dsimp only;rw[Aa Y];exact ar,by dsimp only;rw[Aa Z];exact aw,by dsimp only;rw[Aa Z];omega,(Aa bz).txt,ar⟩, ?_,rfl,fun H o aa e2=>.inl ⟨aa,fun e=>e2 (by have da:bys= []:=e;dsimp only;rw[<-Aa Y,da];rfl)⟩⟩
     . unfold Ev.val;dsimp only;rw[Aa b8,Aa Z,bi]
       first|done|rfl
     . have db:=kk.size;exact(ak.grown kk (by omega) (fun H e=>by cases e;omega)).grown ac (by omega) (fun H e=>by cases e;omega))
    obtain⟨bk,ag⟩:=Z2t w6 (w.heap.size+1) (.string nm) (.slice fa n fc) (.int .i64 st) (.int .i64 nd) (.bool gn) (.int .u32 0) (.slice fa n fc) (.int .u32 (m:Int));have T:Ni w6 (w.heap.size+1) (.string nm) (.slice fa n fc) (.int .i64 st) (.int .i64 nd) (.bool gn) (.int .u32 0) (.slice fa n fc) (.int .u32 (m:Int))=bk:=ag;rw[T]at av ah;have bb:=Ab ag;clear ag T;have bd:=Ab ah;clear ah ac ar I F ax ak a3 aj a7 au a2 hK a8 bc bj b5 bg bi kk;go_wp2;have T:=Aa bb;unfold RX at T;subst T;refine bodyPost_ret (v:=.agg #[(.string nm),(.slice fa n fc),(.int .i64 st),(.int .i64 nd),(.bool gn),(.int .u32 0),(.slice fa n fc),(.int .u32 (m:Int))]) ?_ rfl (Aa av);exact results_cell_row rfl _ _ _ _ _ _ _ rfl (Aa bd) Tryz.underlying71 rfl (by kernel_rfl)
def WrA (w:World)(fs:List Fl)(e:Ending)(w':World):Prop:=
 Below w.heap.size w w'/\((errM fs≠0/\e=.returned (.tuple #[.slice none 0 0,.int .i64 (errM fs:Nat)]))\/ (errM fs=0/\∃l:List En,l.map En.f=fs/\(∀x∈l,EOf x)/\((12000<(Be l).length/\e=.returned (.tuple #[.slice none 0 0,.int .i64 11]))\/ ((Be l).length<=12000/\∃a c,e=.returned (.tuple #[.slice a (Be l).length c,.int .i64 0])/\(Be l).length<=c/\PkIn w' a c (Be l)))))
theorem FE {w:World}{U:Nat}{v:Value}{xs:List Ev}{G:Nat}(F:ERow w U v xs)(T:v.ownBlock=some G)(Y:xs≠ []):∃s,w.cell? ⟨G,0,none⟩=some (.string s):=by
 obtain⟨ad,c,rfl,I⟩:=F.entries
 cases xs with
 |nil=>exact absurd rfl Y
 |cons x r=>
  rcases I.at_ with E|⟨b,o,rfl,hb,H⟩
  . cases E
  . have Z:=H 0 x rfl 0 (by decide);have O:=Ba F.own (by simp);obtain⟨aa,cap,M,_⟩:=O
    cases M
    cases T
    have E:w.cell? ⟨b,0+0*8+0,none⟩=some (.string (B x.e.f.name)):=Z;exact⟨_,E⟩
theorem EOf.num {x:En}(H:EOf x)(aa:Mq x.f=0):ENum x/\∀y∈x.pk,y<256:=by
 obtain⟨M,G,Y,O,I,T⟩:=Yi aa;have U:x.crc<4294967296:=by rw[H.cr];exact Z5b (Lv _) (by decide)
 obtain⟨out,Z,(⟨ac,F,E⟩|⟨ac,F,E⟩)⟩:=H.pk
 . exact⟨⟨⟨Y,O⟩,⟨I,T⟩,M,G,by rw[E];omega,U,by rw[F];decide⟩,by rw[E];exact Yf Z.val⟩
 . exact⟨⟨⟨Y,O⟩,⟨I,T⟩,M,G,by rw[E,Da];omega,U,by rw[F];decide⟩,by rw[E];exact Lv _⟩
theorem EB (a3:Option Addr)(c n:Nat)(xs:List Fv)(w:World)(h:FsIn w a3 c xs)(bd:xs.length=n):
 Calls Tryz.prog 7 #[.slice a3 n c] w fun e w'=>WrA w (fls xs) e w':=by
 have a6:=Ab (Sv a3 c xs w h n bd);obtain⟨E,aw⟩:=exq (errM (fls xs));rw[aw]at a6;have cj:=Ab h;have al:=Ab bd;have aj:=Ab aw;clear h bd aw;go_enter Tryz.func7,Tryz.ntmps7
 go_wp2_with fail
 refine(Aa a6).mono ?_;rintro e ct ⟨rfl,av⟩
 by_cases a8:E=0
 . subst a8;have a5:=Mr (Aa aj)
   have cp:n<=12:=by
    have co:=a5.1;have bq:=Aa al;simp[fls]at co
    omega
   have bw:∀x∈xs,Mq x.f=0:=fun x F=>a5.2 x.f (XV F)
   have bv:=Ab bw;have cq:=Ab av;clear av a5 bw a6;go_wp2;go_loopw [5,7,16] (fun bz _ i wr=>∃(k:Nat) (es:List Ev),k<=n/\i=.int .i64 (k:Int)/\Hid (ERow wr w.heap.size bz es/\es.map (fun y=>y.e.f)=(fls xs).take k/\(∀y∈es,EOf y.e)/\(es= []->bz=.slice none 0 0))/\Hid (Below w.heap.size w wr)) (fun _ _ i _=>n-(intOf i).toNat)
   case atStart=>exact⟨0,[],VH _,rfl,Ab ⟨ERow.nil _ _,by simp,(fun y ax=>absurd ax XE),fun _=>rfl⟩,cq⟩
   case round=>
    obtain⟨k,es,eb,rfl,aa,ak⟩:=hrel
    have ah:es.length=k:=by
     have:=congrArg List.length (Aa aa).2.1
     have bq:=Aa al;simp[fls]at this
     omega
    by_cases de:k<n
    . obtain⟨x,F,ba⟩:=Ob (xs:=xs) (k:=k) (by rw[Aa al];exact de);obtain⟨b,o,rfl,hb,c0,c1,c2,a7,Z⟩:=(Aa cj).get (Aa ak) F;have H:=(Aa ak).size;have a2:=(Aa cj).all x ba;have G:=Ab (fun(W:World) (dy:Below w.heap.size w W)=>Z3 x W (a2.below dy (VB _)) (by have:=Yi (Aa bv x ba);omega));have bu:(fls xs).take (k+1)=(fls xs).take k++ [x.f]:=Eu (by simp[fls,F])
      have cm:∀g o,x.a=some ⟨g,o,none⟩->x.f.bytes≠ []->g<w.heap.size:=fun g o M e2=>by
       have:=Xm (Z5j a2.bs) g o M (fun e=>e2 (by rw[<-FQ x.f.bytes,e];rfl))
       exact this
      have dc:=Ab cm;have cy:=Ab bu;rw[Nw]at G;unfold Fv.sl at c1;clear F ba a2 bu cm;have du:=Ab ah;have b3:∀o1:Obj,Below w.heap.size w (wr.alloc o1):=fun o1=>(Aa ak).alloc H o1
      have b7:=Ab b3;have cu:=Ab (fun o1:Obj=>(Aa aa).1.below ((Below.refl wr.heap.size wr).alloc (VB _) o1));obtain⟨U,b4,d7⟩:=x;dsimp only at c0 c1 c2 a7 Z;have di:=G;clear b3 ah;generalize dh:B U.name=nm at c0 G;generalize dr:U.bytes.length=bl at c1 G;generalize cv:U.stamp=st at c2 G;generalize c6:U.node=nd at a7 G;generalize da:U.gone=gn at Z G;clear dh dr cv c6 da di;go_wp2_with fail
      refine(Aa G _ (Aa b7 _)).mono ?_;rintro e I ⟨y,rfl,af,bh,az,a4,ar,ck⟩;replace af:y.e.f=U:=af;replace ar:y.fa=b4:=ar;have Y:=(Aa b7 _).trans (a4.mono (by simp;omega));have T:=(Aa cu _).below a4
      have bi:y.lies (fun g=>some g≠u5.ownBlock):=by
       have hold:∀g o,b4=some ⟨g,o,none⟩->U.bytes≠ []->some g≠u5.ownBlock:=fun g o M e2 e3=>by
        have co:=Aa dc g o M e2;have bq:=(T.own.lt g e3.symm).1;omega
       constructor
       . intro g o M e2;exact hold g o (ar.symm.trans M) (by rw[<-af];exact e2)
       . intro g o M e2
         rcases ck g o M e2 with ⟨ai,ae⟩|rfl
         . exact hold g o ai (by rw[<-af];exact ae)
         . intro e3
           have dn:es≠ []:=by
            intro dw;rw[(Aa aa).2.2.2 dw]at e3
            cases e3
           obtain⟨s,dx⟩:=FE T e3.symm dn
           rcases az.pk.1 with cw|⟨d5,dz,b0,d9,dv⟩
           . exact e2 cw
           . rw[M]at b0
             cases b0
             have:=dv 0 (List.length_pos_iff.2 e2)
             rw[WG,dx]at this
             cases this
      have b8:=Ab (fun o1:Obj=>T.below ((Below.refl I.heap.size I).alloc (VB _) o1));have df:=Ab (fun o1:Obj=>az.below ((Below.refl I.heap.size I).alloc (VB _) o1));have c8:=Ab bi;have ds:=Ab bh;have dd:=Ab af;have c9:=Y.size;have dp:=Ab (fun o1:Obj=>Y.alloc c9 o1);have dq:es.length+1<=100000:=by rw[Aa du];omega
      have dj:Hid (∀o1,o1=Obj.cells y.cells.toArray 71->∀j u,y.cells[j]? =some u->(I.alloc o1).cell? ⟨I.heap.size,j,none⟩=some u):=Ab (fun o1 e j u cz=>by
       subst e;rw[Ac (heap_alloc_new I _)];simpa using cz)
      clear a4 Y T bi az bh af ar ck G c0 c1 c2 a7 Z;unfold Ev.val;go_wp2_with (at_builtin;refine Fr _ rfl _ _ rfl w.heap.size _ es rfl (Aa b8 _) I.heap.size y rfl (Aa dj _ rfl) (Aa df _) (Aa c8) dq (by simp;omega) ?_)
      intro v' w3 b5 b9
      have dl:Hid (ERow w3 w.heap.size v' (es++ [y])/\(es++ [y]).map (fun y=>y.e.f)=(fls xs).take (k+1)/\(∀z∈es++ [y],EOf z.e)/\(es++ [y]= []->v'=.slice none 0 0)):=Ab (by
       refine⟨Aa b5, ?_,fun z H=> ?_,fun e=>by simp at e⟩
       . rw[WU,(Aa aa).2.1,Aa cy];simp[Aa dd]
       . rcases WP.1 H with H|H
         . exact(Aa aa).2.2.1 z H
         . rw[WO.1 H];exact Aa ds)
      have dt:Hid (Below w.heap.size w w3):=Ab ((Aa dp _).grown (Aa b9) (by simp;omega) (fun g e=>((Aa b8 (.cells y.cells.toArray 71)).own.lt g e).1));clear b5 b9;go_wp2;go_roundw
      case rel=>exact⟨k+1,es++ [y],by omega,by go_num,dl,dt⟩
      case measure=>simp[intOf];omega
    . obtain rfl:n=k:=by omega
      obtain⟨T,ay,cg,_⟩:=Aa aa;have bo:(fls xs).take n=fls xs:=VV (by simp[fls,Aa al]);rw[bo]at ay;obtain⟨db,c2,bn,ce⟩:=T.entries;rw[ah]at bn;subst bn;obtain⟨l,ac⟩:=exq (es.map Ev.e);have a1:l.map En.f=fls xs:=by rw[<-ac,ZU];exact ay
      have bc:∀x∈l,EOf x:=by
       rw[<-ac];intro x F;obtain⟨y,ax,rfl⟩:=XG.1 F;exact cg y ax
      have bj:∀x∈l,Mq x.f=0:=fun x F=>by
       have:x.f∈fls xs:=by rw[<-a1];exact XV F
       obtain⟨z,H,c7⟩:=XG.1 this;rw[<-c7];exact Aa bv z H
      have bm:∀x∈es,ENum x.e:=fun x F=>((bc x.e (by rw[<-ac];exact XV F)).num (bj x.e (by rw[<-ac];exact XV F))).1
      have au:=Ab (Sz db c2 n es wr ce ah cp bm);rw[ac]at au;have bk:=Ab a1;have bg:=Ab bc;clear T ay cg bo ce ac a1 bc bj bm ah;go_wp2_with fail
      refine(Aa au).mono ?_;rintro e cn ⟨d8,rfl,a9,Y⟩;obtain⟨cd,Z,rfl,ai,ae,ci,bf⟩:=Ve a9;have ap:=(Aa ak).trans (Y.mono (Aa ak).size);obtain⟨ao,O⟩:=exq ((Be l).length);rw[O]at ae;rw[O]
      by_cases bb:12000<ao
      . have ag:Hid (WrA w (fls xs) (.returned (.tuple #[.slice none 0 0,.int .i64 11])) cn):=Ab ⟨ap,.inr ⟨Aa aj,l,Aa bk,Aa bg,.inl ⟨by rw[O];exact bb,rfl⟩⟩⟩;have c5:(12000:Int)<(ao:Int):=by omega
        clear Y ap a9 ai ae ci bf O bb au;go_wp2;go_ret2;exact Aa ag
      . have ag:Hid (WrA w (fls xs) (.returned (.tuple #[.slice cd ao Z,.int .i64 0])) cn):=Ab ⟨ap,.inr ⟨Aa aj,l,Aa bk,Aa bg,.inr ⟨by rw[O];omega,cd,Z,by rw[O],by rw[O];exact ae,ai⟩⟩⟩;have c5:¬(12000:Int)<(ao:Int):=by omega
        clear Y ap a9 ai ae ci bf O bb au;go_wp2;go_ret2;exact Aa ag
 . have ag:Hid (WrA w (fls xs) (.returned (.tuple #[.slice none 0 0,.int .i64 (E:Int)])) ct):=Ab ⟨av,.inl ⟨by rw[Aa aj];exact a8,by rw[Aa aj]⟩⟩;have dm:((E:Int)==0)=false:=by rw[beq_eq_false_iff_ne];omega
   have d6:((E:Int)!=0)=true:=by rw[bne,dm];rfl
   clear av a8;go_wp2;go_ret2;exact Aa ag
theorem EOf.sto {x:En}(F:EOf x)(I:Mq x.f=0)(H:x.meth≠8):EOk x:=by
 obtain⟨hn,T⟩:=F.num I;refine⟨⟨hn.st.1,by have:=hn.st.2;omega⟩,⟨hn.nd.1,by have:=hn.nd.2;omega⟩,by have:=hn.nm;omega,by have:=hn.pl;omega,hn.cr,hn.mt, ?_⟩;obtain⟨out,O,(⟨M,E,G⟩|⟨M,E,G⟩)⟩:=F.pk
 . exact absurd E H
 . unfold unpF;rw[E,G,if_pos rfl]
theorem Z22:∀(l:List En),(Be l).length=22+(Av l).length+(Ao 0 l).length:=fun l=>by
 unfold Be;rw[VE,VE,Pl];omega
def Z75:Go.Shelf.Ren:=⟨fun|193=>18|n=>n,fun|31=>43|9=>9|4=>4|3=>3|0=>0|n=>n,fun|n=>n⟩
theorem Sd:Go.Proofs.Lays.n193 Tryz.prog Z75:= {
 mixed:=by kernel_rfl
 f193:=Tryz.func18.trans (congrArg some (by kernel_rfl))
 t0:=Tryz.underlying0
 a0:=Tryz.isAgg0
 z0:=Tryz.sizeOf0
 v0:=Tryz.zeroValue0
 t3:=Tryz.underlying3
 a3:=Tryz.isAgg3
 z3:=Tryz.sizeOf3
 v3:=Tryz.zeroValue3
 t4:=Tryz.underlying4
 a4:=Tryz.isAgg4
 z4:=Tryz.sizeOf4
 v4:=Tryz.zeroValue4
 t9:=Tryz.underlying9
 a9:=Tryz.isAgg9
 z9:=Tryz.sizeOf9
 v9:=Tryz.zeroValue9
 t31:=Tryz.underlying43
 a31:=Tryz.isAgg43
 z31:=Tryz.sizeOf43
 v31:=Tryz.zeroValue43}
theorem Z2w (E:List (List UInt8))(j:Nat)(F:j<(E.map B).length):(E.map B)[j]? =some ((E.map B).getD j ByteArray.empty):=by
 simp only[WL]at F;simp[List.getD,F]
theorem Z2y {b c:Nat}{v u:Value}{F G:List (List UInt8)}{w:World}(h:SRow w b v F)(U:SRow w c u G):
 Calls Tryz.prog 18 #[v,u] w fun e w'=>e=.returned (.bool (decide (F=G)))/\∃q,w'=w.drewN q:=by
 have H:∀w':World,w'=w->∃q,w'=w.drewN q:=fun w' e=>⟨0,by rw[e];rfl⟩
 rcases h.cases with ⟨rfl,rfl⟩|⟨g,cap,rfl,af,ag,hc,hm,ac⟩
 . rcases U.cases with ⟨rfl,rfl⟩|⟨g2,O,rfl,aa,ae,Z,T,Y⟩
   . refine(Any.slices_Equal_string_empty Sd none none 0 0 0 w (by decide)).mono ?_;rintro e w' ⟨rfl,E⟩;exact⟨rfl,H _ E⟩
   . unfold maxLen at T;refine(Any.slices_Equal_string_empty Sd none _ 0 G.length O w (by omega)).mono ?_;rintro e w' ⟨rfl,E⟩;refine⟨Dq ?_,H _ E⟩;rw[decide_eq_decide];rw[ZH];exact⟨fun e=>e.symm,fun e=>e.symm⟩
 . rcases U.cases with ⟨rfl,rfl⟩|⟨g2,O,rfl,aa,ae,Z,T,Y⟩
   . by_cases I:F.length=0
     . rw[I];refine(Any.slices_Equal_string_empty Sd _ none cap 0 0 w (by decide)).mono ?_;rintro e w' ⟨rfl,E⟩;refine⟨Dq ?_,H _ E⟩;rw[ZH.1 I];rfl
     . refine(Any.slices_Equal_string_lens Sd _ none F.length cap 0 0 w I).mono ?_;rintro e w' ⟨rfl,E⟩;refine⟨Dq ?_,H _ E⟩;have:F≠ []:=fun e=>I (by rw[e];rfl)
       simp[this]
   . unfold maxLen at hm T;refine(Any.slices_Equal_string Sd g 0 F.length cap g2 0 G.length O (F.map B) (G.map B) w (by simp) (by simp) (by omega) (by omega) (fun j M=>ac j _ (Z2w F j M)) (fun j M=>Y j _ (Z2w G j M))).mono ?_;rintro e w' ⟨rfl,E⟩;refine⟨Dq ?_,E⟩;rw[decide_eq_decide,VV (by simp),VV (by simp)]
     constructor
     . intro e;have:=congrArg (List.map fun x:ByteArray=>x.data.toList) e
       simp only[ZU]at this;have e3:((fun x:ByteArray=>x.data.toList) ∘ B)=id:=by funext l;rfl
       rw[e3,List.map_id,List.map_id]at this;exact this
     . intro e;rw[e]
theorem I7:(Tryz.prog.info? 9).map (fun i=>(i.zero,i.size,i.bytes))=some (some (.string ByteArray.empty),1,16):=by kernel_rfl
theorem Tz (n T:Nat)(a:Option Addr)(bs:List Nat)(w:World)(aw:bs.length=n)(bi:n<=T)(ap:PkIn w a T bs)(al:∀x∈bs,x<256)(bq:n<=9223372036854775807)(F:Z5x bs):
 Calls Tryz.prog 15 #[.slice a n T] w fun e w'=>∃v,e=.returned (.tuple #[v,.int .i64 (readE bs:Nat)])/\SRow w' w.heap.size v ((readL bs).map Fl.name)/\Below w.heap.size w w':=by
 obtain⟨a6,hi,bd,bg,bf⟩:=info_parts I7;have M:=Ab (Ps n T a bs w aw bi ap al bq F);clear F
 have ay:(readL bs).length<=12:=by
  by_cases au:readE bs=0
  . obtain⟨l,_,a9,_,_,a7,_⟩:=C6 au;rw[a7];exact(Mr a9).1
  . unfold readL;rw[if_pos au];exact VH _
 have ak:readE bs≠0->readL bs= []:=fun h=>by unfold readL;rw[if_pos h]
 unfold RdA at M;obtain⟨E,af⟩:=exq (readE bs);obtain⟨fs,Y⟩:=exq (readL bs);rw[af,Y]at M ak;rw[Y]at ay;rw[af,Y];have a5:=Ab ak;clear aw ap al ak af Y;go_enter Tryz.func15,Tryz.ntmps15
 go_wp2_with fail
 refine(Aa M).mono ?_;rintro e G ⟨v,rfl,⟨ad,c,xs,rfl,H,aa⟩,Z⟩;obtain⟨k,O⟩:=exq (fs.length);rw[O]at ay ⊢;have ae:xs.length=k:=by rw[<-O,<-aa];simp[fls]
 by_cases ai:E=0
 . subst ai;have a4:=Ab H;have bc:=Ab aa;have b4:=Ab ae;have a3:=Ab O;have I:=Ab Z;clear H aa ae O Z M;go_wp2;go_loopw [6,8,19] (fun ba _ i wr=>∃j:Nat,j<=k/\i=.int .i64 (j:Int)/\Hid (SRow wr G.heap.size ba ((fs.take j).map Fl.name))/\Hid (Below G.heap.size G wr)) (fun _ _ i _=>k-(intOf i).toNat)
   case atStart=>exact⟨0,VH _,rfl,Ab (SRow.nil _ _),Ab (Below.refl _ _)⟩
   case round=>
    obtain⟨j,b7,rfl,a1,ac⟩:=hrel
    by_cases bk:j<k
    . obtain⟨x,H,bu⟩:=Ob (xs:=xs) (k:=j) (by rw[Aa b4];exact bk);obtain⟨b,o,rfl,hb,c0,c1,c2,az,ar⟩:=(Aa a4).get (Aa ac) H;have b0:=(Aa ac).size;have ce:=(Aa I).size
      have ag:(fs.take (j+1)).map Fl.name=(fs.take j).map Fl.name++ [x.f.name]:=by
       have:fs[j]? =some x.f:=by rw[<-Aa bc];simp[fls,H]
       rw[Eu this];simp
      have U:((fs.take j).map Fl.name).length=j:=by rw[WL,VL,Aa a3];omega
      unfold Fv.sl at c1;have F:=Aa a1;unfold SRow at F;rw[U]at F;obtain⟨bo,av⟩:=exq ((fs.take j).map Fl.name);rw[av]at F ag U;have bb:=Ab ag;clear av;have bw:=Ab (fun o1 o2:Obj=>(F.alloc o1).alloc o2);have bh:=Ab (fun o1 o2:Obj=>((Aa ac).alloc b0 o1).alloc (by simp;omega) o2);have a2:∀g,u6.ownBlock=some g->G.heap.size<=g:=fun g e=>(F.lt g e).1
      have bm:=Ab a2;have b3:=Ab U;obtain⟨⟨nml,bys,st,nd,gn⟩,cd,b9⟩:=x;dsimp only at c0 c1 c2 az ar;obtain⟨nm,aj⟩:=exq (B nml);rw[aj]at c0;have b5:=Ab aj;generalize bys.length=bl at c1;clear H bu ag U aj F a2;go_wp2_with (at_builtin;refine wpList_append_own_at _ rfl _ _ 43 rfl G.heap.size 9 a6 (.string ByteArray.empty) 1 16 Tryz.underlying43 hi bd bg bf rfl (by decide) _ j (Qj bo) rfl (Aa bw _ _) ⟨wr.heap.size+1,0,none⟩ 1 1 [.string nm] rfl rfl (fun i u hi=>Lu (Jo (by simp)) hi) (Bc rfl) (by unfold maxLen;omega) (by omega) (by simp;omega) ?_)
      intro v' w3 ah ax _ _
      have bj:Hid (SRow w3 G.heap.size v' ((fs.take (j+1)).map Fl.name)):=Ab (by
       rw[Aa bb];unfold SRow;rw[VE,Aa b3,Qj,WU];rw[<-Aa b5]at ah;exact ah)
      have bz:Hid (Below G.heap.size G w3):=Ab ((Aa bh _ _).grown ax (by simp;omega) (Aa bm));clear ah ax c0 c1 c2 az ar;go_wp2;go_roundw
      case rel=>exact⟨j+1,by omega,by go_num,bj,bz⟩
      case measure=>simp[intOf];omega
    . obtain rfl:k=j:=by omega
      have ao:fs.take k=fs:=VV (by rw[Aa a3];exact VB _);have a8:=Ab ao;clear ao;go_wp2;go_ret2;exact⟨_,rfl,by have:=Aa a1;rw[Aa a8]at this;exact this.mono (Aa I).size,(Aa I).trans ((Aa ac).mono (Aa I).size)⟩
 . have bv:=Aa a5 ai;subst bv;have I:=Ab Z;have bn:((E:Int)==0)=false:=by rw[beq_eq_false_iff_ne];omega
   have b8:((E:Int)!=0)=true:=by rw[bne,bn];rfl
   clear H aa ae O Z M ai;go_wp2;go_ret2;exact⟨_,rfl,SRow.nil _ _,Aa I⟩
theorem Z63 {k:Nat}{out:List Nat}(H:IsOne [120,121] k out):2<=out.length:=by
 have E:=congrArg List.length H.row;rw[Af]at E;unfold oneB at E;rw[Dr]at E
 have I:10<=(JT [] [120,121] k true).length:=by
  unfold JT
  split
  . unfold Qm;simp only[VE,Ah];omega
  . split
    . have G:(Ha (Gi [120,121])).length=23:=by decide+kernel
      simp only[VE,G];omega
    . have G:14<=(IK [120,121]).length:=by
       have F:∀a b ts,14<=(Ga a b ts).length:=fun a b ts=>by
        unfold Ga Rw;simp only[VE,Ah];omega
       unfold IK
       split
       . exact F _ _ _
       . exact F _ _ _
      simp only[VE];omega
 omega
theorem MZ {F G:Type}{f:F->G}{l:List F}{b:G}(E:l.map f= [b]):∃x,l= [x]/\f x=b:=by
 cases l with
 |nil=>cases E
 |cons x r=>
  cases r with
  |nil=>exact⟨x,rfl,by simpa using E⟩
  |cons y r=>simp at E
def arF:Fl:=⟨[97],[120,121],3,0,false⟩
theorem Z30:errM [arF]=0:=by decide
theorem Z5s {x:En}(O:EOf x)(G:x.f=arF):(Be [x]).length=124:=by
 obtain⟨out,E,F⟩:=O.pk;rw[G]at E F;have T:=Z63 E;rw[Z22]
 rcases F with ⟨H,M,I⟩|⟨H,M,I⟩
 . have:out.length<2:=H
   omega
 . have hl:x.pk.length=2:=by rw[I];rfl
   simp only[Av,Ao,VE,Kc,Lk,WE,hl,G];rfl
theorem P5 (w:World):Calls Tryz.prog 9 #[] w fun e w'=>e=.returned (.bool true)/\Below w.heap.size w w':=by
 have ce:=Lib.run_convert_bytes_const (P:=Tryz.prog) w 23 5 #[.int .u8 120,.int .u8 121] 2 2 Tryz.underlying23 Tryz.underlying5
 have bg:BsIn (w.alloc (.cells #[.int .u8 120,.int .u8 121] 5 (2,3))) (some ⟨w.heap.size,0,none⟩) 2 [120,121]:=by
  refine .inr (.inr ⟨w.heap.size,0,rfl,by simp,by decide,fun j bo=> ?_⟩);rw[WG,cell_of_row _ _ _ _ _ _ (heap_alloc_new w _)]
  match j,bo with
  |0,_=>rfl
  |1,_=>rfl
 have ao:∀x∈ [(⟨arF,some ⟨w.heap.size,0,none⟩,2⟩:Fv)],FvIn (w.alloc (.cells #[.int .u8 120,.int .u8 121] 5 (2,3))) x:=by
  intro x ao;rw[WO.1 ao];exact⟨bg,by show 2<=_;decide,by show 1<=_;decide⟩
 have bb:=FsIn.new (w.alloc (.cells #[.int .u8 120,.int .u8 121] 5 (2,3))) [⟨arF,some ⟨w.heap.size,0,none⟩,2⟩] 30 #[.string ⟨#[97]⟩,.slice (some ⟨w.heap.size,0,none⟩) 2 2,.int .i64 3,.int .i64 0,.bool false] 1 rfl rfl ao (by show 1<=_;decide);have ap:=Ab (EB _ 1 1 _ _ bb rfl);have bv:=Ab (((Below.refl w.heap.size w).alloc (VB _) (.cells #[.int .u8 120,.int .u8 121] 5 (2,3))).alloc (by simp) (.cells #[.string ⟨#[97]⟩,.slice (some ⟨w.heap.size,0,none⟩) 2 2,.int .i64 3,.int .i64 0,.bool false] 30));have bf:fls [(⟨arF,some ⟨w.heap.size,0,none⟩,2⟩:Fv)]= [arF]:=rfl;rw[bf]at ap;simp only[World.size_alloc]at ap;clear bg ao bb bf;go_enter Tryz.func9,Tryz.ntmps9
 go_wp2_with fail
 refine(Aa ap).mono ?_;rintro e M ⟨bj,(⟨al,_⟩|⟨_,l,ah,I,bq⟩)⟩
 . exact absurd Z30 al
 . obtain⟨x,rfl,U⟩:=MZ ah;have E:=Z5s (I x (by simp)) U;have a8:errM ([x].map En.f)=0:=by rw[ah];exact Z30
   have av:x.meth≠8:=by
    obtain⟨out,cg,(⟨bk,bd,bc⟩|⟨bk,bd,bc⟩)⟩:=(I x (by simp)).pk
    . exfalso
      have H:=E;unfold Be at H;simp only[Av,Ao,XA,VE,Kc,Lk,Pl,bc]at H;rw[U]at H bk;have cd:arF.name.length=1:=rfl;have b9:arF.bytes.length=2:=rfl;omega
    . rw[bd];decide
   have ay:∀y∈ [x],EOk y:=fun y G=>by rw[WO.1 G];exact(I x (by simp)).sto (by rw[U];decide) av
   have Y:(∀y∈ [x],EOk y)/\readE (Be [x])=0/\readL (Be [x])= [x].map En.f:=⟨ay,ME [x] ay a8 (WX.2 fun y G=>decide_eq_true (I y G).cr) (by rw[E];decide)⟩
   have aa:=Yx [x] (fun y G=>(((I y G).num (by rw[WO.1 G,U];decide)).2))
   rcases bq with ⟨al,_⟩|⟨_,a,c,rfl,ac,af⟩
   . rw[E]at al;exact absurd al (by decide)
   . have ar:readL (Be [x])= [arF]:=by rw[Y.2.2,ah]
     have az:=Y.2.1;have bh:=(Aa bv).trans (bj.mono (by simp;omega))
     have ae:Z5x (Be [x]):=by
      have H:=Se [x] Y.1 [] (F:=(Be [x]).length+1) (Yy [x]);rw[XA]at H;exact .inr ⟨[x],H,fun y G=>by rw[WO.1 G];exact av⟩
     obtain⟨Z,au⟩:=exq (Be [x]);rw[au]at E aa af ar az ac ae;have aj:=Ab (fun(W:World) (a3:Below M.heap.size M W)=>Ps Z.length c a Z W rfl ac (af.below a3) aa (by rw[E];decide) ae);have a2:=Ab (fun(W:World) (a3:Below M.heap.size M W)=>Tz Z.length c a Z W rfl ac (af.below a3) aa (by rw[E];decide) ae);unfold RdA at aj;rw[az,ar]at aj a2;rw[au,E];rw[E]at aj a2;have a5:=Ab bh;clear bj bh af aa E Y ay I ah a8 ar az au ac U ae av;go_wp2_with fail
     refine(Aa aj M (Below.refl _ _)).mono ?_;rintro e bn ⟨cj,rfl,⟨ad,c2,out,rfl,a6,ba⟩,bm⟩;obtain⟨z,rfl,bi⟩:=MZ (f:=Fv.f) ba;have a1:=Ab bm;have a4:=Ab a6;clear bm a6 ba;go_wp2_with fail
     refine(Aa a2 bn (Aa a1)).mono ?_;rintro e w3 ⟨b7,rfl,ax,ag⟩;obtain⟨b,o,b3,bu,d0,O,ai,_⟩:=(Aa a4).get (k:=0) (x:=z) (w':=w3) ag rfl;have a7:=((Aa a4).all z (by simp)).bs.below ag (VB _)
     cases b3
     simp only[YJ,XN]at d0 O ai;unfold Fv.sl at O;have ak:=Po a7;rw[bi]at O ai ak;have aw:=((Aa a5).trans ((Aa a1).mono (Aa a5).size)).trans (ag.mono (by have:=(Aa a5).size;have:=(Aa a1).size;omega));replace O:w3.cell? ⟨b,o+1,none⟩=some (.slice z.a 2 z.c):=O;replace ai:w3.cell? ⟨b,o+2,none⟩=some (.int .i64 3):=ai;replace ak:(convert 23 9 (.slice z.a 2 z.c)).run Tryz.prog w3=.ok (.string (B [120,121])) w3:=ak;have bz:((B [120,121]).toList== [120,121])=true:=by rw[Fh];rfl
     obtain⟨T,a9⟩:=exq (B [120,121]);rw[a9]at ak bz;have bw:=Ab (Z2y (ax.below ((Below.refl w3.heap.size w3).alloc (VB _) (.cells (Qj [[97]]).toArray 9))) (SRow.new w3 [[97]] (by show 1<=maxLen;decide)));obtain⟨b5,b8,rfl⟩:=An ax;have b0:=Ab (aw.alloc aw.size (.cells (Qj [[97]]).toArray 9));clear ag aw ax a7 a9 a4 d0 bu bi;go_wp2_with fail
     refine(Aa bw).mono ?_;rintro e ci ⟨rfl,q,rfl⟩;have b4:decide ([arF].map Fl.name= [[97]])=true:=by decide
     rw[b4];go_wp2;go_ret;exact⟨rfl,Ae (Aa b0) _⟩
end Go.Proofs.YtleocpdblhbimaaGreatDoor
