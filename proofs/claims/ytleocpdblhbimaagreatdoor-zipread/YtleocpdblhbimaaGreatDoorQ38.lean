import Derived.Test.YtleocpdblhbimaaGreatDoorQ37
import Derived.Deep.RegionHeld3
import Derived.Shelf.Slices.Equal
import Derived.Shelf.Slices.Empties2
import Derived.Lib.SlBytesConst
set_option linter.unusedSimpArgs false
set_option maxHeartbeats 4000000
namespace Go.Proofs.YtleocpdblhbimaaGreatDoor
open Go.RowKit
set_option linter.unusedVariables false
set_option maxRecDepth 100000
structure EOf (x:En):Prop where
 cr:x.crc=crcN 0 (n8 x.f.bytes)
 pk:∃out,IsOne (n8 x.f.bytes) (bestP (n8 x.f.bytes) 3) out/\((out.length<x.f.bytes.length/\x.meth=8/\x.pk=out)\/ (x.f.bytes.length<=out.length/\x.meth=0/\x.pk=n8 x.f.bytes))
def EoA (w:World)(x:Fv)(e:Ending)(w':World):Prop:=∃y:Ev,e=.returned y.val/\y.e.f=x.f/\EOf y.e/\EvIn w' y/\Below w.heap.size w w'/\y.fa=x.a/\(∀g o,y.pa=some ⟨g,o,none⟩->y.e.pk≠ []->(x.a=some ⟨g,o,none⟩/\y.e.f.bytes≠ [])\/o=0)
def RX (W:World)(X:Nat)(v0 v1 v2 v3 v4 v5 v6 v7:Value)(Wf:World):Prop:=Ni W X v0 v1 v2 v3 v4 v5 v6 v7=Wf
theorem Z2t (W:World)(X:Nat)(I O E F T G H M:Value):∃U,RX W X I O E F T G H M U:=⟨Ni W X I O E F T G H M,rfl⟩
theorem DX {a w:World}{X:Nat}{M F E G U H I O:Value}(Y:Below a.heap.size a w)(T:a.heap.size<=X):Below a.heap.size a (Ni w X M F E G U H I O):=by
 have one:∀ {W:World} (i:Nat) (v:Value),Below a.heap.size a W->Below a.heap.size a (W.setCell ⟨X,i,none⟩ v):=fun {W} i v hW=>hW.grown (Ad W X i v) hW.size (fun g e=>by cases e;exact T)
 exact one 7 _ (one 6 _ (one 5 _ (one 4 _ (one 3 _ (one 2 _ (one 1 _ (one 0 _ Y)))))))
theorem RP {w E:World}(F:Below w.drew.heap.size w.drew E):Below w.heap.size w E:=(Ea (Below.refl _ _)).trans F
theorem RO {w E:World}{o:Obj}(F:Below (w.alloc o).drew.heap.size (w.alloc o).drew E):Below w.heap.size w E:=(Ea (Ck (Below.refl _ _) _)).trans (F.mono (by simp[World.drew]))
theorem RN {w E:World}{o:Obj}(F:Below (w.drew.alloc o).heap.size (w.drew.alloc o) E):Below w.heap.size w E:=(Ck (Ea (Below.refl _ _)) _).trans (F.mono (by rw[World.size_alloc];exact Nat.le_succ _))
theorem Z4d {w E:World}{o:Obj}(F:Below (w.alloc o).drew.heap.size (w.alloc o).drew E):E.heap[w.heap.size]? =some o:=(F.block w.heap.size (by simp[World.drew])).trans (heap_alloc_new w o)
theorem Z3 (x:Fv)(w:World)(h:FvIn w x)(a9:x.f.bytes.length<=3000):
 Calls Tryz.prog 35 #[x.val] w fun e w'=>EoA w x e w':=by
 have bu:=Ab h;have af:=Z5j h.bs;have ax:=RE h.bs;obtain⟨⟨nml,bys,st,nd,gn⟩,fa,fc⟩:=x;rw[Nw];dsimp only at a9 af ax ⊢;have ay:=Da bys;have bi:=Lv bys;have a6:=Er bi;obtain⟨bs,a4⟩:=exq (n8 bys);have dd:=a4;rw[a4]at af ay bi a6;obtain⟨n,bk⟩:=exq (bys.length);rw[bk]at a9 ax ay ⊢;obtain⟨nm,bg⟩:=exq (B nml);rw[bg];obtain⟨m,hm⟩:=exq (crcN 0 bs);obtain⟨E,au⟩:=exq ((w.alloc (.cells #[.string nm,.slice fa n fc,.int .i64 st,.int .i64 nd,.bool gn] 30)).alloc (.cells ez 71));have bh:E.heap.size=w.heap.size+2:=by rw[<-au];simp
 have a5:Below w.heap.size w E:=by rw[<-au];exact((Below.refl _ _).alloc (VB _) _).alloc (by simp) _
 have al:E.heap[w.heap.size]? =some (.cells #[.string nm,.slice fa n fc,.int .i64 st,.int .i64 nd,.bool gn] 30 (0,0)):=by rw[<-au];exact(Below.heap_alloc _ _ _ (by simp)).trans (heap_alloc_new w _)
 have bw:E.heap[w.heap.size+1]? =some (.cells ez 71 (0,0)):=by
  have:=heap_alloc_new (w.alloc (.cells #[.string nm,.slice fa n fc,.int .i64 st,.int .i64 nd,.bool gn] 30)) (.cells ez 71)
  rw[<-au];simpa using this
 have b8:∀W:World,Below E.heap.size E W->Calls Tryz.prog 53 #[.slice fa n fc] W fun e w'=>e=.returned (.int .u32 (m:Int))/\Below W.heap.size W w':=fun W I=>by
  have:=AQ fa n fc bs W ay (by omega) (af.below (a5.trans (I.mono (by omega)))).1 a6
  rw[hm]at this;exact this
 have b5:∀W:World,Below E.heap.size E W->Calls Tryz.prog 54 #[.slice fa n fc] W fun e w'=>∃g c out,e=.returned (.tuple #[.slice (some ⟨g,0,none⟩) (GA bs (bestP bs 3)) c,.int .i64 (bestP bs 3:Nat),.int .i64 0])/\g<w'.heap.size/\Bytes w' g 0 out/\IsOne bs (bestP bs 3) out/\Below W.heap.size W w':=fun W I=>Z5n fa n fc bs W ay ax af.2 (af.below (a5.trans (I.mono (by omega)))).1 a6 a9
 have cn:∀W:World,Below E.heap.size E W->W.cell? ⟨w.heap.size,0,none⟩=some (.string nm):=fun W I=>(I.cell (p:=⟨w.heap.size,0,none⟩) (by dsimp only;omega)).trans (Ac al)
 have k1:∀W:World,Below E.heap.size E W->W.cell? ⟨w.heap.size,1,none⟩=some (.slice fa n fc):=fun W I=>(I.cell (p:=⟨w.heap.size,1,none⟩) (by dsimp only;omega)).trans (Ac al)
 have k2:∀W:World,Below E.heap.size E W->W.cell? ⟨w.heap.size,2,none⟩=some (.int .i64 st):=fun W I=>(I.cell (p:=⟨w.heap.size,2,none⟩) (by dsimp only;omega)).trans (Ac al)
 have c7:∀W:World,Below E.heap.size E W->W.cell? ⟨w.heap.size,3,none⟩=some (.int .i64 nd):=fun W I=>(I.cell (p:=⟨w.heap.size,3,none⟩) (by dsimp only;omega)).trans (Ac al)
 have c5:∀W:World,Below E.heap.size E W->W.cell? ⟨w.heap.size,4,none⟩=some (.bool gn):=fun W I=>(I.cell (p:=⟨w.heap.size,4,none⟩) (by dsimp only;omega)).trans (Ac al)
 have cj:=Ab b8;have c8:=Ab b5;have da:=Ab au;have cm:=Ab bw;have ce:=Ab a5;have ct:=Ab bh;have bq:=Ab bg;have Y:=Ab bk;have aa:=Ab a4;have bo:=Ab hm;have ak:=Ab af;clear h af ay bi a6 a4 dd bk bg hm au a5 al bw b8 b5 bh;go_enter Tryz.func35,Tryz.ntmps35
 go_upto_region 1 with fail
 rw[Aa da];go_cut [3] (fun c6 wc=>∃X,c6=.pointer (some ⟨X,0,none⟩)/\Hid (wc.heap[X]? =some (.cells (ec (.string nm) (.slice fa n fc) (.int .i64 st) (.int .i64 nd) (.bool gn) (.int .u32 0) (.slice fa n fc) (.int .u32 (m:Int))) 71 (0,0))/\E.heap.size<=X/\Below E.heap.size E wc))
 case first=>
  go_region_held3 (fun W=>Below E.heap.size E W) (first|O exact Ea (Below.refl _ _)|O exact ar|O exact Ck ar _|O exact Ea (Ck (Below.refl _ _) _)|O exact Ck (Ea (Below.refl _ _)) _|O exact DX ar (VB _)) ((go_at_call 53;refine(Aa cj _ (by first|O exact Ea (Below.refl _ _)|O exact Ea (Ck (Below.refl _ _) _)|O exact Ck (Ea (Below.refl _ _)) _)).mono ?_;rintro e T ⟨rfl,a7⟩;have ar:Below E.heap.size E T:=(by first|O exact RP a7|O exact RO a7|O exact RN a7);try (have G:=(by O exact Z4d a7:T.heap[E.heap.size]? =some (.cells ez 71 (0,0)));have dj:=Ac (i:=0) G;have x1:=Ac (i:=1) G;have x2:=Ac (i:=2) G;have x3:=Ac (i:=3) G;have x4:=Ac (i:=4) G;have dv:=Ac (i:=5) G;have di:=Ac (i:=6) G;have dn:=Ac (i:=7) G;have dt:=frozen_of_row T E.heap.size 0 _ _ G;have y1:=frozen_of_row T E.heap.size 1 _ _ G;have y2:=frozen_of_row T E.heap.size 2 _ _ G;have dw:=frozen_of_row T E.heap.size 3 _ _ G;have dr:=frozen_of_row T E.heap.size 4 _ _ G;have dz:=frozen_of_row T E.heap.size 5 _ _ G;have dh:=frozen_of_row T E.heap.size 6 _ _ G;have dp:=frozen_of_row T E.heap.size 7 _ _ G)))
  all_goals go_wp2_with fail
  all_goals go_meet
  . exact⟨_,rfl,Ab ⟨heap_alloc_new _ _,ar.size,Ck ar _⟩⟩
  . exact⟨_,rfl,Ab ⟨(Z7g T E.heap.size 71 _ _ _ _ _ _ _ _ _ _ _ _ _ _ _ _ G).1,VB _,DX ar (VB _)⟩⟩
 case rest=>
  obtain⟨X,rfl,b4⟩:=hcut;obtain⟨bz,df,bc⟩:=Aa b4;have c1:=k1 wc bc;have b3:=Ab bz;have a3:=Ab bc;clear b4 bz bc cn k1 k2 c7 c5;go_wp2_with fail
  refine(Aa c8 wc (Aa a3)).mono ?_;rintro e w6 ⟨g,c,out,rfl,bf,a2,ap,a1⟩;have aj:=ap.len;have M:w6.heap[X]? =some (.cells (ec (.string nm) (.slice fa n fc) (.int .i64 st) (.int .i64 nd) (.bool gn) (.int .u32 0) (.slice fa n fc) (.int .u32 (m:Int))) 71 (0,0)):=(a1.block X (VK.1 (Aa b3)).1).trans (Aa b3);have aw:Below E.heap.size E w6:=(Aa a3).trans (a1.mono (Aa a3).size);have bh:=Aa ct;have F:w6.heap[w.heap.size+1]? =some (.cells ez 71 (0,0)):=(aw.block _ (by omega)).trans (Aa cm)
  have dy:w6.cell? ⟨w.heap.size,1,none⟩=some (.slice fa n fc):=by
   have:=aw.cell (p:=⟨w.heap.size,1,none⟩) (by dsimp only;omega)
   have cu:=(Aa a3).cell (p:=⟨w.heap.size,1,none⟩) (by dsimp only;omega);rw[this,<-cu];exact c1
  obtain⟨L,az⟩:=exq (GA bs (bestP bs 3));obtain⟨K,hK⟩:=exq (bestP bs 3);rw[az]at aj;rw[az,hK];have b9:=Ac (i:=0) M;have ci:=Ac (i:=1) M;have ck:=Ac (i:=2) M;have cd:=Ac (i:=3) M;have cg:=Ac (i:=4) M;have cy:=Ac (i:=5) M;have db:=Ac (i:=6) M;have cq:=Ac (i:=7) M;have dq:=frozen_of_row w6 X 5 _ _ M;have ds:=frozen_of_row w6 X 6 _ _ M;have r0:=Ac (i:=0) F;have r1:=Ac (i:=1) F;have r2:=Ac (i:=2) F;have cv:=Ac (i:=3) F;have cw:=Ac (i:=4) F;have c9:=Ac (i:=5) F;have dc:=Ac (i:=6) F;have cz:=Ac (i:=7) F;have du:=frozen_of_row w6 (w.heap.size+1) 0 _ _ F;have g1:=frozen_of_row w6 (w.heap.size+1) 1 _ _ F;have g2:=frozen_of_row w6 (w.heap.size+1) 2 _ _ F;have g3:=frozen_of_row w6 (w.heap.size+1) 3 _ _ F;have dx:=frozen_of_row w6 (w.heap.size+1) 4 _ _ F;have dm:=frozen_of_row w6 (w.heap.size+1) 5 _ _ F;have g6:=frozen_of_row w6 (w.heap.size+1) 6 _ _ F;have dl:=frozen_of_row w6 (w.heap.size+1) 7 _ _ F;simp only[VZ,VY,WI]at b9 ci ck cd cg cy db cq r0 r1 r2 cv cw c9 dc cz;have b0:w.heap.size+1≠X:=by omega
  have ai:Below w.heap.size w w6:=(Aa ce).trans (aw.mono (by omega));have b7:=(VK.1 M).1;have bv:=ap.pos;have ah:=a2 0 bv;have bj:g≠X:=fun e=>by rw[e]at ah;rw[b9]at ah;cases ah
  have ba:g≠w.heap.size+1:=fun e=>by rw[e]at ah;rw[r0]at ah;cases ah
  have bn:bs.length=n:=by rw[<-Aa aa,Da];exact Aa Y
  clear bv ah
  by_cases bb:L<n
  . have de:(L:Int)<(n:Int):=by omega
    have k1:=Ad w6 X 5 (.int .u32 8);have k2:=Ad (w6.setCell ⟨X,5,none⟩ (.int .u32 8)) X 6 (.slice (some ⟨g,0,none⟩) L c);have kk:=Aj k1 k2;obtain⟨ag,ac⟩:=Z7g ((w6.setCell ⟨X,5,none⟩ (.int .u32 8)).setCell ⟨X,6,none⟩ (.slice (some ⟨g,0,none⟩) L c)) (w.heap.size+1) 71 _ _ _ _ _ _ _ _ (.string nm) (.slice fa n fc) (.int .i64 st) (.int .i64 nd) (.bool gn) (.int .u32 8) (.slice (some ⟨g,0,none⟩) L c) (.int .u32 (m:Int)) ((kk.block _ (by omega) (by simp;exact b0)).trans F);have ao:PkIn (Ni ((w6.setCell ⟨X,5,none⟩ (.int .u32 8)).setCell ⟨X,6,none⟩ (.slice (some ⟨g,0,none⟩) L c)) (w.heap.size+1) (.string nm) (.slice fa n fc) (.int .i64 st) (.int .i64 nd) (.bool gn) (.int .u32 8) (.slice (some ⟨g,0,none⟩) L c) (.int .u32 (m:Int))) fa fc bs:=(((Aa ak).below ai).grown kk (fun H o Z e2=>by have:=Xm (Aa ak) H o Z e2;simp;omega)).grown ac (fun H o Z e2=>by have:=Xm (Aa ak) H o Z e2;simp;omega)
    have av:Hid (EoA w ⟨⟨nml,bys,st,nd,gn⟩,fa,fc⟩ (.returned (.agg #[(.string nm),(.slice fa n fc),(.int .i64 st),(.int .i64 nd),(.bool gn),(.int .u32 8),(.slice (some ⟨g,0,none⟩) L c),(.int .u32 (m:Int))])) (Ni ((w6.setCell ⟨X,5,none⟩ (.int .u32 8)).setCell ⟨X,6,none⟩ (.slice (some ⟨g,0,none⟩) L c)) (w.heap.size+1) (.string nm) (.slice fa n fc) (.int .i64 st) (.int .i64 nd) (.bool gn) (.int .u32 8) (.slice (some ⟨g,0,none⟩) L c) (.int .u32 (m:Int)))):=Ab (by
     refine⟨⟨⟨⟨nml,bys,st,nd,gn⟩,8,out,m⟩,fa,fc,some ⟨g,0,none⟩,c⟩, ?_,rfl,⟨by dsimp only;rw[Aa aa,Aa bo],out,by dsimp only;rw[Aa aa];exact ap,.inl ⟨by dsimp only;rw[aj,Aa Y];exact bb,rfl,rfl⟩⟩,⟨by dsimp only;rw[Aa aa];exact ao,by dsimp only;rw[Aa Y];exact ax,by dsimp only;rw[Aa Y];omega,(Aa bu).txt,((show PkIn w6 (some ⟨g,0,none⟩) c out from ⟨.inr ⟨g,0,rfl,bf,a2⟩,fun e=>by cases e⟩).grown kk (fun H o e _=>by cases e;simp;exact bj)).grown ac (fun H o e _=>by cases e;simp;exact ba)⟩, ?_,rfl,fun H o e _=>by cases e;exact .inr rfl⟩
     . unfold Ev.val;dsimp only;rw[Aa bq,Aa Y,aj]
       first|done|rfl
     . have co:=kk.size;exact(ai.grown kk (by omega) (fun H e=>by cases e;omega)).grown ac (by omega) (fun H e=>by cases e;omega))
    obtain⟨bd,ae⟩:=Z2t ((w6.setCell ⟨X,5,none⟩ (.int .u32 8)).setCell ⟨X,6,none⟩ (.slice (some ⟨g,0,none⟩) L c)) (w.heap.size+1) (.string nm) (.slice fa n fc) (.int .i64 st) (.int .i64 nd) (.bool gn) (.int .u32 8) (.slice (some ⟨g,0,none⟩) L c) (.int .u32 (m:Int));have U:Ni ((w6.setCell ⟨X,5,none⟩ (.int .u32 8)).setCell ⟨X,6,none⟩ (.slice (some ⟨g,0,none⟩) L c)) (w.heap.size+1) (.string nm) (.slice fa n fc) (.int .i64 st) (.int .i64 nd) (.bool gn) (.int .u32 8) (.slice (some ⟨g,0,none⟩) L c) (.int .u32 (m:Int))=bd:=ae;rw[U]at av ag;have a8:=Ab ae;clear ae U;have bm:=Ab ag;clear ag ac ao M F aw ai a2 ap a1 aj az hK bf bj ba b7 bb bn k1 k2 kk;go_wp2;have U:=Aa a8;unfold RX at U;subst U;refine bodyPost_ret (v:=.agg #[(.string nm),(.slice fa n fc),(.int .i64 st),(.int .i64 nd),(.bool gn),(.int .u32 8),(.slice (some ⟨g,0,none⟩) L c),(.int .u32 (m:Int))]) ?_ rfl (Aa av);exact results_cell_row rfl _ _ _ _ _ _ _ rfl (Aa bm) Tryz.underlying71 rfl (by kernel_rfl)
  . have de:¬(L:Int)<(n:Int):=by omega
    have kk:=Aw w6 (some X);obtain⟨ag,ac⟩:=Z7g w6 (w.heap.size+1) 71 _ _ _ _ _ _ _ _ (.string nm) (.slice fa n fc) (.int .i64 st) (.int .i64 nd) (.bool gn) (.int .u32 0) (.slice fa n fc) (.int .u32 (m:Int)) ((kk.block _ (by omega) (by simp;exact b0)).trans F);have ao:PkIn (Ni w6 (w.heap.size+1) (.string nm) (.slice fa n fc) (.int .i64 st) (.int .i64 nd) (.bool gn) (.int .u32 0) (.slice fa n fc) (.int .u32 (m:Int))) fa fc bs:=(((Aa ak).below ai).grown kk (fun H o Z e2=>by have:=Xm (Aa ak) H o Z e2;simp;omega)).grown ac (fun H o Z e2=>by have:=Xm (Aa ak) H o Z e2;simp;omega)
    have av:Hid (EoA w ⟨⟨nml,bys,st,nd,gn⟩,fa,fc⟩ (.returned (.agg #[(.string nm),(.slice fa n fc),(.int .i64 st),(.int .i64 nd),(.bool gn),(.int .u32 0),(.slice fa n fc),(.int .u32 (m:Int))])) (Ni w6 (w.heap.size+1) (.string nm) (.slice fa n fc) (.int .i64 st) (.int .i64 nd) (.bool gn) (.int .u32 0) (.slice fa n fc) (.int .u32 (m:Int)))):=Ab (by
     refine⟨⟨⟨⟨nml,bys,st,nd,gn⟩,0,bs,m⟩,fa,fc,fa,fc⟩, ?_,rfl,⟨by dsimp only;rw[Aa aa,Aa bo],out,by dsimp only;rw[Aa aa];exact ap,.inr ⟨by dsimp only;rw[aj,Aa Y];omega,rfl,by dsimp only;rw[Aa aa]⟩⟩,⟨by dsimp only;rw[Aa aa];exact ao,by dsimp only;rw[Aa Y];exact ax,by dsimp only;rw[Aa Y];omega,(Aa bu).txt,ao⟩, ?_,rfl,fun H o Z e2=>.inl ⟨Z,fun e=>e2 (by have cp:bys= []:=e;dsimp only;rw[<-Aa aa,cp];rfl)⟩⟩
     . unfold Ev.val;dsimp only;rw[Aa bq,Aa Y,bn]
       first|done|rfl
     . have co:=kk.size;exact(ai.grown kk (by omega) (fun H e=>by cases e;omega)).grown ac (by omega) (fun H e=>by cases e;omega))
    obtain⟨bd,ae⟩:=Z2t w6 (w.heap.size+1) (.string nm) (.slice fa n fc) (.int .i64 st) (.int .i64 nd) (.bool gn) (.int .u32 0) (.slice fa n fc) (.int .u32 (m:Int));have U:Ni w6 (w.heap.size+1) (.string nm) (.slice fa n fc) (.int .i64 st) (.int .i64 nd) (.bool gn) (.int .u32 0) (.slice fa n fc) (.int .u32 (m:Int))=bd:=ae;rw[U]at av ag;have a8:=Ab ae;clear ae U;have bm:=Ab ag;clear ag ac ao M F aw ai a2 ap a1 aj az hK bf bj ba b7 bb bn kk;go_wp2;have U:=Aa a8;unfold RX at U;subst U;refine bodyPost_ret (v:=.agg #[(.string nm),(.slice fa n fc),(.int .i64 st),(.int .i64 nd),(.bool gn),(.int .u32 0),(.slice fa n fc),(.int .u32 (m:Int))]) ?_ rfl (Aa av);exact results_cell_row rfl _ _ _ _ _ _ _ rfl (Aa bm) Tryz.underlying71 rfl (by kernel_rfl)
def WrA (w:World)(fs:List Fl)(e:Ending)(w':World):Prop:=
 Below w.heap.size w w'/\((errM fs≠0/\e=.returned (.tuple #[.slice none 0 0,.int .i64 (errM fs:Nat)]))\/ (errM fs=0/\∃l:List En,l.map En.f=fs/\(∀x∈l,EOf x)/\((12000<(Be l).length/\e=.returned (.tuple #[.slice none 0 0,.int .i64 11]))\/ ((Be l).length<=12000/\∃a c,e=.returned (.tuple #[.slice a (Be l).length c,.int .i64 0])/\(Be l).length<=c/\PkIn w' a c (Be l)))))
theorem FE {w:World}{M:Nat}{v:Value}{xs:List Ev}{F:Nat}(G:ERow w M v xs)(T:v.ownBlock=some F)(O:xs≠ []):∃s,w.cell? ⟨F,0,none⟩=some (.string s):=by
 obtain⟨ad,c,rfl,U⟩:=G.entries
 cases xs with
 |nil=>exact absurd rfl O
 |cons x r=>
  rcases U.at_ with E|⟨b,o,rfl,hb,I⟩
  . cases E
  . have Z:=I 0 x rfl 0 (by decide);have Y:=Ba G.own (by simp);obtain⟨aa,cap,H,_⟩:=Y
    cases H
    cases T
    have E:w.cell? ⟨b,0+0*8+0,none⟩=some (.string (B x.e.f.name)):=Z;exact⟨_,E⟩
theorem EOf.num {x:En}(U:EOf x)(aa:Mq x.f=0):ENum x/\∀y∈x.pk,y<256:=by
 obtain⟨H,O,M,G,T,Y⟩:=Yi aa;have I:x.crc<4294967296:=by rw[U.cr];exact Z5b (Lv _) (by decide)
 obtain⟨out,ac,(⟨Z,F,E⟩|⟨Z,F,E⟩)⟩:=U.pk
 . exact⟨⟨⟨M,G⟩,⟨T,Y⟩,H,O,by rw[E];omega,I,by rw[F];decide⟩,by rw[E];exact Yf ac.val⟩
 . exact⟨⟨⟨M,G⟩,⟨T,Y⟩,H,O,by rw[E,Da];omega,I,by rw[F];decide⟩,by rw[E];exact Lv _⟩
theorem EB (ay:Option Addr)(c n:Nat)(xs:List Fv)(w:World)(h:FsIn w ay c xs)(ax:xs.length=n):
 Calls Tryz.prog 7 #[.slice ay n c] w fun e w'=>WrA w (fls xs) e w':=by
 have a5:=Ab (Sv ay c xs w h n ax);obtain⟨E,bb⟩:=exq (errM (fls xs));rw[bb]at a5;have cn:=Ab h;have au:=Ab ax;have ak:=Ab bb;clear h ax bb;go_enter Tryz.func7,Tryz.ntmps7
 go_wp2_with fail
 refine(Aa a5).mono ?_;rintro e cu ⟨rfl,ap⟩
 by_cases bc:E=0
 . subst bc;have a2:=Mr (Aa ak)
   have cy:n<=12:=by
    have bg:=a2.1;have b7:=Aa au;simp[fls]at bg
    omega
   have ci:∀x∈xs,Mq x.f=0:=fun x F=>a2.2 x.f (XV F)
   have bm:=Ab ci;have dh:=Ab ap;clear ap a2 ci a5;go_wp2;go_loopw [5,7,16] (fun ce _ i wr=>∃(k:Nat) (es:List Ev),k<=n/\i=.int .i64 (k:Int)/\Hid (ERow wr w.heap.size ce es/\es.map (fun y=>y.e.f)=(fls xs).take k/\(∀y∈es,EOf y.e)/\(es= []->ce=.slice none 0 0))/\Hid (Below w.heap.size w wr)) (fun _ _ i _=>n-(intOf i).toNat)
   case atStart=>exact⟨0,[],VH _,rfl,Ab ⟨ERow.nil _ _,by simp,(fun y a1=>absurd a1 XE),fun _=>rfl⟩,dh⟩
   case round=>
    obtain⟨k,es,dz,rfl,ae,ah⟩:=hrel
    have aj:es.length=k:=by
     have:=congrArg List.length (Aa ae).2.1
     have b7:=Aa au;simp[fls]at this
     omega
    by_cases dj:k<n
    . obtain⟨x,F,ba⟩:=Ob (xs:=xs) (k:=k) (by rw[Aa au];exact dj);obtain⟨b,o,rfl,hb,c0,c1,c2,a3,Z⟩:=(Aa cn).get (Aa ah) F;have G:=(Aa ah).size;have a6:=(Aa cn).all x ba;have H:=Ab (fun(W:World) (dm:Below w.heap.size w W)=>Z3 x W (a6.below dm (VB _)) (by have:=Yi (Aa bm x ba);omega));have bu:(fls xs).take (k+1)=(fls xs).take k++ [x.f]:=Eu (by simp[fls,F])
      have cd:∀g o,x.a=some ⟨g,o,none⟩->x.f.bytes≠ []->g<w.heap.size:=fun g o O e2=>by
       have:=Xm (Z5j a6.bs) g o O (fun e=>e2 (by rw[<-FQ x.f.bytes,e];rfl))
       exact this
      have cw:=Ab cd;have ds:=Ab bu;rw[Nw]at H;unfold Fv.sl at c1;clear F ba a6 bu cd;have de:=Ab aj;have cg:∀o1:Obj,Below w.heap.size w (wr.alloc o1):=fun o1=>(Aa ah).alloc G o1
      have co:=Ab cg;have dw:=Ab (fun o1:Obj=>(Aa ae).1.below ((Below.refl wr.heap.size wr).alloc (VB _) o1));obtain⟨U,bh,d5⟩:=x;dsimp only at c0 c1 c2 a3 Z;have ct:=H;clear cg aj;generalize dq:B U.name=nm at c0 H;generalize dt:U.bytes.length=bl at c1 H;generalize du:U.stamp=st at c2 H;generalize cp:U.node=nd at a3 H;generalize c7:U.gone=gn at Z H;clear dq dt du cp c7 ct;go_wp2_with fail
      refine(Aa H _ (Aa co _)).mono ?_;rintro e M ⟨y,rfl,af,cj,az,a8,ao,cm⟩;replace af:y.e.f=U:=af;replace ao:y.fa=bh:=ao;have Y:=(Aa co _).trans (a8.mono (by simp;omega));have T:=(Aa dw _).below a8
      have bk:y.lies (fun g=>some g≠u5.ownBlock):=by
       have hold:∀g o,bh=some ⟨g,o,none⟩->U.bytes≠ []->some g≠u5.ownBlock:=fun g o O e2 e3=>by
        have bg:=Aa cw g o O e2;have b7:=(T.own.lt g e3.symm).1;omega
       constructor
       . intro g o O e2;exact hold g o (ao.symm.trans O) (by rw[<-af];exact e2)
       . intro g o O e2
         rcases cm g o O e2 with ⟨ag,aa⟩|rfl
         . exact hold g o ag (by rw[<-af];exact aa)
         . intro e3
           have db:es≠ []:=by
            intro dl;rw[(Aa ae).2.2.2 dl]at e3
            cases e3
           obtain⟨s,c8⟩:=FE T e3.symm db
           rcases az.pk.1 with c5|⟨d6,d9,b4,eb,c6⟩
           . exact e2 c5
           . rw[O]at b4
             cases b4
             have:=c6 0 (List.length_pos_iff.2 e2)
             rw[WG,c8]at this
             cases this
      have bn:=Ab (fun o1:Obj=>T.below ((Below.refl M.heap.size M).alloc (VB _) o1));have dc:=Ab (fun o1:Obj=>az.below ((Below.refl M.heap.size M).alloc (VB _) o1));have dp:=Ab bk;have dx:=Ab cj;have cq:=Ab af;have dn:=Y.size;have df:=Ab (fun o1:Obj=>Y.alloc dn o1);have di:es.length+1<=100000:=by rw[Aa de];omega
      have c9:Hid (∀o1,o1=Obj.cells y.cells.toArray 71->∀j u,y.cells[j]? =some u->(M.alloc o1).cell? ⟨M.heap.size,j,none⟩=some u):=Ab (fun o1 e j u dd=>by
       subst e;rw[Ac (heap_alloc_new M _)];simpa using dd)
      clear a8 Y T bk az cj af ao cm H c0 c1 c2 a3 Z;unfold Ev.val;go_wp2_with (at_builtin;refine Fr _ rfl _ _ rfl w.heap.size _ es rfl (Aa bn _) M.heap.size y rfl (Aa c9 _ rfl) (Aa dc _) (Aa dp) di (by simp;omega) ?_)
      intro v' w3 b3 bo
      have cv:Hid (ERow w3 w.heap.size v' (es++ [y])/\(es++ [y]).map (fun y=>y.e.f)=(fls xs).take (k+1)/\(∀z∈es++ [y],EOf z.e)/\(es++ [y]= []->v'=.slice none 0 0)):=Ab (by
       refine⟨Aa b3, ?_,fun z G=> ?_,fun e=>by simp at e⟩
       . rw[WU,(Aa ae).2.1,Aa ds];simp[Aa cq]
       . rcases WP.1 G with G|G
         . exact(Aa ae).2.2.1 z G
         . rw[WO.1 G];exact Aa dx)
      have dv:Hid (Below w.heap.size w w3):=Ab ((Aa df _).grown (Aa bo) (by simp;omega) (fun g e=>((Aa bn (.cells y.cells.toArray 71)).own.lt g e).1));clear b3 bo;go_wp2;go_roundw
      case rel=>exact⟨k+1,es++ [y],by omega,by go_num,cv,dv⟩
      case measure=>simp[intOf];omega
    . obtain rfl:n=k:=by omega
      obtain⟨T,a7,b0,_⟩:=Aa ae;have bj:(fls xs).take n=fls xs:=VV (by simp[fls,Aa au]);rw[bj]at a7;obtain⟨dy,c2,bq,b8⟩:=T.entries;rw[aj]at bq;subst bq;obtain⟨l,ac⟩:=exq (es.map Ev.e);have bd:l.map En.f=fls xs:=by rw[<-ac,ZU];exact a7
      have a9:∀x∈l,EOf x:=by
       rw[<-ac];intro x F;obtain⟨y,a1,rfl⟩:=XG.1 F;exact b0 y a1
      have bw:∀x∈l,Mq x.f=0:=fun x F=>by
       have:x.f∈fls xs:=by rw[<-bd];exact XV F
       obtain⟨z,G,da⟩:=XG.1 this;rw[<-da];exact Aa bm z G
      have b5:∀x∈es,ENum x.e:=fun x F=>((a9 x.e (by rw[<-ac];exact XV F)).num (bw x.e (by rw[<-ac];exact XV F))).1
      have av:=Ab (Sz dy c2 n es wr b8 aj cy b5);rw[ac]at av;have ck:=Ab bd;have b9:=Ab a9;clear T a7 b0 bj b8 ac bd a9 bw b5 aj;go_wp2_with fail
      refine(Aa av).mono ?_;rintro e bz ⟨d7,rfl,a4,Y⟩;obtain⟨bv,Z,rfl,ag,aa,bf,bi⟩:=Ve a4;have ar:=(Aa ah).trans (Y.mono (Aa ah).size);obtain⟨al,I⟩:=exq ((Be l).length);rw[I]at aa;rw[I]
      by_cases aw:12000<al
      . have ai:Hid (WrA w (fls xs) (.returned (.tuple #[.slice none 0 0,.int .i64 11])) bz):=Ab ⟨ar,.inr ⟨Aa ak,l,Aa ck,Aa b9,.inl ⟨by rw[I];exact aw,rfl⟩⟩⟩;have dr:(12000:Int)<(al:Int):=by omega
        clear Y ar a4 ag aa bf bi I aw av;go_wp2;go_ret2;exact Aa ai
      . have ai:Hid (WrA w (fls xs) (.returned (.tuple #[.slice bv al Z,.int .i64 0])) bz):=Ab ⟨ar,.inr ⟨Aa ak,l,Aa ck,Aa b9,.inr ⟨by rw[I];omega,bv,Z,by rw[I],by rw[I];exact aa,ag⟩⟩⟩;have dr:¬(12000:Int)<(al:Int):=by omega
        clear Y ar a4 ag aa bf bi I aw av;go_wp2;go_ret2;exact Aa ai
 . have ai:Hid (WrA w (fls xs) (.returned (.tuple #[.slice none 0 0,.int .i64 (E:Int)])) cu):=Ab ⟨ap,.inl ⟨by rw[Aa ak];exact bc,by rw[Aa ak]⟩⟩;have cz:((E:Int)==0)=false:=by rw[beq_eq_false_iff_ne];omega
   have d8:((E:Int)!=0)=true:=by rw[bne,cz];rfl
   clear ap bc;go_wp2;go_ret2;exact Aa ai
theorem EOf.sto {x:En}(G:EOf x)(I:Mq x.f=0)(M:x.meth≠8):EOk x:=by
 obtain⟨hn,O⟩:=G.num I;refine⟨⟨hn.st.1,by have:=hn.st.2;omega⟩,⟨hn.nd.1,by have:=hn.nd.2;omega⟩,by have:=hn.nm;omega,by have:=hn.pl;omega,hn.cr,hn.mt, ?_⟩;obtain⟨out,T,(⟨H,E,F⟩|⟨H,E,F⟩)⟩:=G.pk
 . exact absurd E M
 . unfold unpF;rw[E,F,if_pos rfl]
theorem Z22:∀(l:List En),(Be l).length=22+(Av l).length+(Ao 0 l).length:=fun l=>by
 unfold Be;rw[VE,VE,Pl];omega
def Z75:Go.Shelf.Ren:=⟨fun|193=>18|n=>n,fun|31=>43|9=>9|4=>4|3=>3|0=>0|n=>n,fun|n=>n⟩
theorem Sd:Go.Proofs.Lays.n193 Tryz.prog Z75:= {
 mixed:=by kernel_rfl
 f193:=Tryz.func18.trans (congrArg some (by kernel_rfl))
 t0:=Tryz.underlying0
 a0:=Tryz.isAgg0
 z0:=Tryz.sizeOf0
 v0:=Tryz.zeroValue0
 t3:=Tryz.underlying3
 a3:=Tryz.isAgg3
 z3:=Tryz.sizeOf3
 v3:=Tryz.zeroValue3
 t4:=Tryz.underlying4
 a4:=Tryz.isAgg4
 z4:=Tryz.sizeOf4
 v4:=Tryz.zeroValue4
 t9:=Tryz.underlying9
 a9:=Tryz.isAgg9
 z9:=Tryz.sizeOf9
 v9:=Tryz.zeroValue9
 t31:=Tryz.underlying43
 a31:=Tryz.isAgg43
 z31:=Tryz.sizeOf43
 v31:=Tryz.zeroValue43}
theorem Z2w (E:List (List UInt8))(j:Nat)(F:j<(E.map B).length):(E.map B)[j]? =some ((E.map B).getD j ByteArray.empty):=by
 simp only[WL]at F;simp[List.getD,F]
theorem Z2y {b c:Nat}{v u:Value}{F G:List (List UInt8)}{w:World}(h:SRow w b v F)(Y:SRow w c u G):
 Calls Tryz.prog 18 #[v,u] w fun e w'=>e=.returned (.bool (decide (F=G)))/\∃q,w'=w.drewN q:=by
 have I:∀w':World,w'=w->∃q,w'=w.drewN q:=fun w' e=>⟨0,by rw[e];rfl⟩
 rcases h.cases with ⟨rfl,rfl⟩|⟨g,cap,rfl,ag,af,hc,hm,Z⟩
 . rcases Y.cases with ⟨rfl,rfl⟩|⟨g2,M,rfl,aa,ae,ac,O,U⟩
   . refine(Any.slices_Equal_string_empty Sd none none 0 0 0 w (by decide)).mono ?_;rintro e w' ⟨rfl,E⟩;exact⟨rfl,I _ E⟩
   . unfold maxLen at O;refine(Any.slices_Equal_string_empty Sd none _ 0 G.length M w (by omega)).mono ?_;rintro e w' ⟨rfl,E⟩;refine⟨Dq ?_,I _ E⟩;rw[decide_eq_decide];rw[ZH];exact⟨fun e=>e.symm,fun e=>e.symm⟩
 . rcases Y.cases with ⟨rfl,rfl⟩|⟨g2,M,rfl,aa,ae,ac,O,U⟩
   . by_cases H:F.length=0
     . rw[H];refine(Any.slices_Equal_string_empty Sd _ none cap 0 0 w (by decide)).mono ?_;rintro e w' ⟨rfl,E⟩;refine⟨Dq ?_,I _ E⟩;rw[ZH.1 H];rfl
     . refine(Any.slices_Equal_string_lens Sd _ none F.length cap 0 0 w H).mono ?_;rintro e w' ⟨rfl,E⟩;refine⟨Dq ?_,I _ E⟩;have:F≠ []:=fun e=>H (by rw[e];rfl)
       simp[this]
   . unfold maxLen at hm O;refine(Any.slices_Equal_string Sd g 0 F.length cap g2 0 G.length M (F.map B) (G.map B) w (by simp) (by simp) (by omega) (by omega) (fun j T=>Z j _ (Z2w F j T)) (fun j T=>U j _ (Z2w G j T))).mono ?_;rintro e w' ⟨rfl,E⟩;refine⟨Dq ?_,E⟩;rw[decide_eq_decide,VV (by simp),VV (by simp)]
     constructor
     . intro e;have:=congrArg (List.map fun x:ByteArray=>x.data.toList) e
       simp only[ZU]at this;have e3:((fun x:ByteArray=>x.data.toList) ∘ B)=id:=by funext l;rfl
       rw[e3,List.map_id,List.map_id]at this;exact this
     . intro e;rw[e]
theorem I7:(Tryz.prog.info? 9).map (fun i=>(i.zero,i.size,i.bytes))=some (some (.string ByteArray.empty),1,16):=by kernel_rfl
theorem Tz (n Y:Nat)(a:Option Addr)(bs:List Nat)(w:World)(ax:bs.length=n)(a7:n<=Y)(av:PkIn w a Y bs)(au:∀x∈bs,x<256)(bm:n<=9223372036854775807)(F:Z5x bs):
 Calls Tryz.prog 15 #[.slice a n Y] w fun e w'=>∃v,e=.returned (.tuple #[v,.int .i64 (readE bs:Nat)])/\SRow w' w.heap.size v ((readL bs).map Fl.name)/\Below w.heap.size w w':=by
 obtain⟨bd,hi,bc,b4,b0⟩:=info_parts I7;have M:=Ab (Ps n Y a bs w ax a7 av au bm F);clear F
 have ay:(readL bs).length<=12:=by
  by_cases az:readE bs=0
  . obtain⟨l,_,bh,_,_,bb,_⟩:=C6 az;rw[bb];exact(Mr bh).1
  . unfold readL;rw[if_pos az];exact VH _
 have af:readE bs≠0->readL bs= []:=fun h=>by unfold readL;rw[if_pos h]
 unfold RdA at M;obtain⟨E,ai⟩:=exq (readE bs);obtain⟨fs,ac⟩:=exq (readL bs);rw[ai,ac]at M af;rw[ac]at ay;rw[ai,ac];have ba:=Ab af;clear ax av au af ai ac;go_enter Tryz.func15,Tryz.ntmps15
 go_wp2_with fail
 refine(Aa M).mono ?_;rintro e G ⟨v,rfl,⟨ad,c,xs,rfl,H,T⟩,Z⟩;obtain⟨k,O⟩:=exq (fs.length);rw[O]at ay ⊢;have ak:xs.length=k:=by rw[<-O,<-T];simp[fls]
 by_cases aj:E=0
 . subst aj;have bi:=Ab H;have b5:=Ab T;have bz:=Ab ak;have ao:=Ab O;have I:=Ab Z;clear H T ak O Z M;go_wp2;go_loopw [6,8,19] (fun bk _ i wr=>∃j:Nat,j<=k/\i=.int .i64 (j:Int)/\Hid (SRow wr G.heap.size bk ((fs.take j).map Fl.name))/\Hid (Below G.heap.size G wr)) (fun _ _ i _=>k-(intOf i).toNat)
   case atStart=>exact⟨0,VH _,rfl,Ab (SRow.nil _ _),Ab (Below.refl _ _)⟩
   case round=>
    obtain⟨j,cd,rfl,a2,U⟩:=hrel
    by_cases bu:j<k
    . obtain⟨x,H,bw⟩:=Ob (xs:=xs) (k:=j) (by rw[Aa bz];exact bu);obtain⟨b,o,rfl,hb,c0,c1,c2,aw,al⟩:=(Aa bi).get (Aa U) H;have a9:=(Aa U).size;have b7:=(Aa I).size
      have ag:(fs.take (j+1)).map Fl.name=(fs.take j).map Fl.name++ [x.f.name]:=by
       have:fs[j]? =some x.f:=by rw[<-Aa b5];simp[fls,H]
       rw[Eu this];simp
      have aa:((fs.take j).map Fl.name).length=j:=by rw[WL,VL,Aa ao];omega
      unfold Fv.sl at c1;have F:=Aa a2;unfold SRow at F;rw[aa]at F;obtain⟨a5,a1⟩:=exq ((fs.take j).map Fl.name);rw[a1]at F ag aa;have bg:=Ab ag;clear a1;have bf:=Ab (fun o1 o2:Obj=>(F.alloc o1).alloc o2);have b3:=Ab (fun o1 o2:Obj=>((Aa U).alloc a9 o1).alloc (by simp;omega) o2);have a3:∀g,u6.ownBlock=some g->G.heap.size<=g:=fun g e=>(F.lt g e).1
      have bq:=Ab a3;have bj:=Ab aa;obtain⟨⟨nml,bys,st,nd,gn⟩,b8,b9⟩:=x;dsimp only at c0 c1 c2 aw al;obtain⟨nm,ah⟩:=exq (B nml);rw[ah]at c0;have a6:=Ab ah;generalize bys.length=bl at c1;clear H bw ag aa ah F a3;go_wp2_with (at_builtin;refine wpList_append_own_at _ rfl _ _ 43 rfl G.heap.size 9 bd (.string ByteArray.empty) 1 16 Tryz.underlying43 hi bc b4 b0 rfl (by decide) _ j (Qj a5) rfl (Aa bf _ _) ⟨wr.heap.size+1,0,none⟩ 1 1 [.string nm] rfl rfl (fun i u hi=>Lu (Jo (by simp)) hi) (Bc rfl) (by unfold maxLen;omega) (by omega) (by simp;omega) ?_)
      intro v' w3 ae ar _ _
      have bo:Hid (SRow w3 G.heap.size v' ((fs.take (j+1)).map Fl.name)):=Ab (by
       rw[Aa bg];unfold SRow;rw[VE,Aa bj,Qj,WU];rw[<-Aa a6]at ae;exact ae)
      have bv:Hid (Below G.heap.size G w3):=Ab ((Aa b3 _ _).grown ar (by simp;omega) (Aa bq));clear ae ar c0 c1 c2 aw al;go_wp2;go_roundw
      case rel=>exact⟨j+1,by omega,by go_num,bo,bv⟩
      case measure=>simp[intOf];omega
    . obtain rfl:k=j:=by omega
      have ap:fs.take k=fs:=VV (by rw[Aa ao];exact VB _);have bn:=Ab ap;clear ap;go_wp2;go_ret2;exact⟨_,rfl,by have:=Aa a2;rw[Aa bn]at this;exact this.mono (Aa I).size,(Aa I).trans ((Aa U).mono (Aa I).size)⟩
 . have a4:=Aa ba aj;subst a4;have I:=Ab Z;have a8:((E:Int)==0)=false:=by rw[beq_eq_false_iff_ne];omega
   have ce:((E:Int)!=0)=true:=by rw[bne,a8];rfl
   clear H T ak O Z M aj;go_wp2;go_ret2;exact⟨_,rfl,SRow.nil _ _,Aa I⟩
theorem Z63 {k:Nat}{out:List Nat}(H:IsOne [120,121] k out):2<=out.length:=by
 have E:=congrArg List.length H.row;rw[Af]at E;unfold oneB at E;rw[Dr]at E
 have I:10<=(JT [] [120,121] k true).length:=by
  unfold JT
  split
  . unfold Qm;simp only[VE,Ah];omega
  . split
    . have F:(Ha (Gi [120,121])).length=23:=by decide+kernel
      simp only[VE,F];omega
    . have F:14<=(IK [120,121]).length:=by
       have G:∀a b ts,14<=(Ga a b ts).length:=fun a b ts=>by
        unfold Ga Rw;simp only[VE,Ah];omega
       unfold IK
       split
       . exact G _ _ _
       . exact G _ _ _
      simp only[VE];omega
 omega
theorem MZ {G F:Type}{f:G->F}{l:List G}{b:F}(E:l.map f= [b]):∃x,l= [x]/\f x=b:=by
 cases l with
 |nil=>cases E
 |cons x r=>
  cases r with
  |nil=>exact⟨x,rfl,by simpa using E⟩
  |cons y r=>simp at E
def arF:Fl:=⟨[97],[120,121],3,0,false⟩
theorem Z30:errM [arF]=0:=by decide
theorem Z5s {x:En}(O:EOf x)(H:x.f=arF):(Be [x]).length=124:=by
 obtain⟨out,I,G⟩:=O.pk;rw[H]at I G;have T:=Z63 I;rw[Z22]
 rcases G with ⟨F,M,E⟩|⟨F,M,E⟩
 . have:out.length<2:=F
   omega
 . have hl:x.pk.length=2:=by rw[E];rfl
   simp only[Av,Ao,VE,Kc,Lk,WE,hl,H];rfl
theorem P5 (w:World):Calls Tryz.prog 9 #[] w fun e w'=>e=.returned (.bool true)/\Below w.heap.size w w':=by
 have b5:=Lib.run_convert_bytes_const (P:=Tryz.prog) w 23 5 #[.int .u8 120,.int .u8 121] 2 2 Tryz.underlying23 Tryz.underlying5
 have a7:BsIn (w.alloc (.cells #[.int .u8 120,.int .u8 121] 5 (2,3))) (some ⟨w.heap.size,0,none⟩) 2 [120,121]:=by
  refine .inr (.inr ⟨w.heap.size,0,rfl,by simp,by decide,fun j b3=> ?_⟩);rw[WG,cell_of_row _ _ _ _ _ _ (heap_alloc_new w _)]
  match j,b3 with
  |0,_=>rfl
  |1,_=>rfl
 have ak:∀x∈ [(⟨arF,some ⟨w.heap.size,0,none⟩,2⟩:Fv)],FvIn (w.alloc (.cells #[.int .u8 120,.int .u8 121] 5 (2,3))) x:=by
  intro x ak;rw[WO.1 ak];exact⟨a7,by show 2<=_;decide,by show 1<=_;decide⟩
 have a9:=FsIn.new (w.alloc (.cells #[.int .u8 120,.int .u8 121] 5 (2,3))) [⟨arF,some ⟨w.heap.size,0,none⟩,2⟩] 30 #[.string ⟨#[97]⟩,.slice (some ⟨w.heap.size,0,none⟩) 2 2,.int .i64 3,.int .i64 0,.bool false] 1 rfl rfl ak (by show 1<=_;decide);have a2:=Ab (EB _ 1 1 _ _ a9 rfl);have bn:=Ab (((Below.refl w.heap.size w).alloc (VB _) (.cells #[.int .u8 120,.int .u8 121] 5 (2,3))).alloc (by simp) (.cells #[.string ⟨#[97]⟩,.slice (some ⟨w.heap.size,0,none⟩) 2 2,.int .i64 3,.int .i64 0,.bool false] 30));have bg:fls [(⟨arF,some ⟨w.heap.size,0,none⟩,2⟩:Fv)]= [arF]:=rfl;rw[bg]at a2;simp only[World.size_alloc]at a2;clear a7 ak a9 bg;go_enter Tryz.func9,Tryz.ntmps9
 go_wp2_with fail
 refine(Aa a2).mono ?_;rintro e M ⟨bm,(⟨Y,_⟩|⟨_,l,ai,H,b0⟩)⟩
 . exact absurd Z30 Y
 . obtain⟨x,rfl,O⟩:=MZ ai;have E:=Z5s (H x (by simp)) O;have bh:errM ([x].map En.f)=0:=by rw[ai];exact Z30
   have a3:x.meth≠8:=by
    obtain⟨out,cg,(⟨bb,bc,a6⟩|⟨bb,bc,a6⟩)⟩:=(H x (by simp)).pk
    . exfalso
      have I:=E;unfold Be at I;simp only[Av,Ao,XA,VE,Kc,Lk,Pl,a6]at I;rw[O]at I bb;have ci:arF.name.length=1:=rfl;have cd:arF.bytes.length=2:=rfl;omega
    . rw[bc];decide
   have ay:∀y∈ [x],EOk y:=fun y G=>by rw[WO.1 G];exact(H x (by simp)).sto (by rw[O];decide) a3
   have ae:(∀y∈ [x],EOk y)/\readE (Be [x])=0/\readL (Be [x])= [x].map En.f:=⟨ay,ME [x] ay bh (WX.2 fun y G=>decide_eq_true (H y G).cr) (by rw[E];decide)⟩
   have al:=Yx [x] (fun y G=>(((H y G).num (by rw[WO.1 G,O];decide)).2))
   rcases b0 with ⟨Y,_⟩|⟨_,a,c,rfl,Z,ag⟩
   . rw[E]at Y;exact absurd Y (by decide)
   . have ap:readL (Be [x])= [arF]:=by rw[ae.2.2,ai]
     have a5:=ae.2.1;have bf:=(Aa bn).trans (bm.mono (by simp;omega))
     have ah:Z5x (Be [x]):=by
      have I:=Se [x] ae.1 [] (F:=(Be [x]).length+1) (Yy [x]);rw[XA]at I;exact .inr ⟨[x],I,fun y G=>by rw[WO.1 G];exact a3⟩
     obtain⟨ac,a1⟩:=exq (Be [x]);rw[a1]at E al ag ap a5 Z ah;have ao:=Ab (fun(W:World) (ax:Below M.heap.size M W)=>Ps ac.length c a ac W rfl Z (ag.below ax) al (by rw[E];decide) ah);have av:=Ab (fun(W:World) (ax:Below M.heap.size M W)=>Tz ac.length c a ac W rfl Z (ag.below ax) al (by rw[E];decide) ah);unfold RdA at ao;rw[a5,ap]at ao av;rw[a1,E];rw[E]at ao av;have a4:=Ab bf;clear bm bf ag al E ae ay H ai bh ap a5 a1 Z O ah a3;go_wp2_with fail
     refine(Aa ao M (Below.refl _ _)).mono ?_;rintro e bz ⟨b9,rfl,⟨ad,c2,out,rfl,bk,bi⟩,ba⟩;obtain⟨z,rfl,a8⟩:=MZ (f:=Fv.f) bi;have au:=Ab ba;have aw:=Ab bk;clear ba bk bi;go_wp2_with fail
     refine(Aa av bz (Aa au)).mono ?_;rintro e w3 ⟨b8,rfl,az,aa⟩;obtain⟨b,o,bq,bw,d0,U,aj,_⟩:=(Aa aw).get (k:=0) (x:=z) (w':=w3) aa rfl;have bj:=((Aa aw).all z (by simp)).bs.below aa (VB _)
     cases bq
     simp only[YJ,XN]at d0 U aj;unfold Fv.sl at U;have af:=Po bj;rw[a8]at U aj af;have ar:=((Aa a4).trans ((Aa au).mono (Aa a4).size)).trans (aa.mono (by have:=(Aa a4).size;have:=(Aa au).size;omega));replace U:w3.cell? ⟨b,o+1,none⟩=some (.slice z.a 2 z.c):=U;replace aj:w3.cell? ⟨b,o+2,none⟩=some (.int .i64 3):=aj;replace af:(convert 23 9 (.slice z.a 2 z.c)).run Tryz.prog w3=.ok (.string (B [120,121])) w3:=af;have bo:((B [120,121]).toList== [120,121])=true:=by rw[Fh];rfl
     obtain⟨T,bd⟩:=exq (B [120,121]);rw[bd]at af bo;have bu:=Ab (Z2y (az.below ((Below.refl w3.heap.size w3).alloc (VB _) (.cells (Qj [[97]]).toArray 9))) (SRow.new w3 [[97]] (by show 1<=maxLen;decide)));obtain⟨b7,cj,rfl⟩:=An az;have b4:=Ab (ar.alloc ar.size (.cells (Qj [[97]]).toArray 9));clear aa ar az bj bd aw d0 bw a8;go_wp2_with fail
     refine(Aa bu).mono ?_;rintro e ce ⟨rfl,q,rfl⟩;have bv:decide ([arF].map Fl.name= [[97]])=true:=by decide
     rw[bv];go_wp2;go_ret;exact⟨rfl,Ae (Aa b4) _⟩
end Go.Proofs.YtleocpdblhbimaaGreatDoor
