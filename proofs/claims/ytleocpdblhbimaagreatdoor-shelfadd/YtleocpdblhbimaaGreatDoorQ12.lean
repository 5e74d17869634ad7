import Derived.Test.YtleocpdblhbimaaGreatDoorQ9
import Derived.Shelf.Strings.Split
import Derived.Shelf.Strings.SlTrimAscii
import Derived.Deep.Strs
set_option linter.unusedVariables false
set_option linter.unusedSimpArgs false
set_option maxRecDepth 100000
set_option maxHeartbeats 8000000
namespace Go.Proofs.YtleocpdblhbimaaGreatDoor
open Go.Value renaming int->so,slice->va,string->vb,pointer->vc,tuple->vd,bool->ve,agg->vf
open Go.IntKind renaming i64->vh,u8->vi,u32->vj
open Go.Obj renaming cells->vl
open Go.Ending renaming returned->vm
open Option renaming none->vn,some->vp
open Bool renaming false->vq,true->vr
open Go renaming World->wd,Value->vt,Calls->vu,Addr->vw
open Go.RowKit renaming Below->vx,intOf->vy,Hid->vz
open Go.Proofs.Tryz renaming prog->v8
section
open Go.RowKit Go.Proofs.Tryz
variable{x:Fv}{es:List Ev}{out:List Fv}{bs:List Nat}{X ac b c g j k m n:Nat}{ah:Option Addr}{E I a3 a4 ay az v:Value}{O w w':World}
structure K0(x:En):Prop where
 cr:x.crc=crcN 0 (n8 x.f.bytes)
 pk:∃out,IsOne (n8 x.f.bytes) (bestP (n8 x.f.bytes) 3) out/\((out.length<x.f.bytes.length/\x.meth=8/\x.pk=out)\/ (x.f.bytes.length<=out.length/\x.meth=0/\x.pk=n8 x.f.bytes))
def EoA(w:wd)(x:Fv)(e:Ending)(w':wd):Prop:=∃y:Ev,e=vm y.val/\y.e.f=x.f/\K0 y.e/\EvIn w' y/\vx w.heap.size w w'/\y.fa=x.a/\(∀g o,y.pa=vp ⟨g,o,vn⟩->y.e.pk≠ []->(x.a=vp ⟨g,o,vn⟩/\y.e.f.bytes≠ [])\/o=0)
def Z37(W:wd)(X:Nat)(v0 v1 v2 v3 v4 v5 v6 v7:vt)(Wf:wd):Prop:=CB W X v0 v1 v2 v3 v4 v5 v6 v7=Wf
theorem Z7k(W:wd)(X:Nat)(I H G E O U F Z:vt):∃aa,Z37 W X I H G E O U F Z aa:=⟨CB W X I H G E O U F Z,rfl⟩
theorem KM{a:wd}{F H:vt}(h:vx a.heap.size a w)(G:a.heap.size<=X):vx a.heap.size a (CB w X E I ay az a3 a4 F H):=by have one:∀ {W:wd} (i:Nat) (v:vt),vx a.heap.size a W->vx a.heap.size a (W.setCell ⟨X,i,vn⟩ v):=λ{W} i v hW=>hW.grown (Ad W X i v) hW.size (λg e=>by cases e;exact G);exact one 7 _ (one 6 _ (one 5 _ (one 4 _ (one 3 _ (one 2 _ (one 1 _ (one 0 _ h)))))))
theorem Z2x(E:vx w.drew.heap.size w.drew O):vx w.heap.size w O:=(Co (A2 _ _)).trans E
theorem Z2w{o:Obj}(E:vx (w.alloc o).drew.heap.size (w.alloc o).drew O):vx w.heap.size w O:=(Co (Ar (A2 _ _) _)).trans (E.mono (by simp[World.drew]))
theorem Z2v{o:Obj}(E:vx (w.drew.alloc o).heap.size (w.drew.alloc o) O):vx w.heap.size w O:=(Ar (Co (A2 _ _)) _).trans (E.mono (by rw[CL];exact UI _))
theorem Z95{o:Obj}(E:vx (w.alloc o).drew.heap.size (w.alloc o).drew O):O.heap[w.heap.size]? =vp o:=(E.block w.heap.size (by simp[World.drew])).trans (B2 w o)
def Zdq(fs:List Fl):Prop:=∀f∈fs,f.bytes.length<=3000->V9 (n8 f.bytes)
theorem FD(h:FvIn w x)(bo:x.f.bytes.length<=3000)(a4:V9 (n8 x.f.bytes)):vu v8 35 #[x.val] w λe w'=>EoA w x e w':=by
 have b8:=Ab h;have ai:=Z2k h.bs;have ax:=J6 h.bs;obtain⟨⟨nml,bys,st,nd,gn⟩,fa,fc⟩:=x;rw[Db];dsimp only at bo ai ax a4 ⊢;have aw:=Cf bys;have bc:=Kb bys;have az:=Cq bc;obtain⟨bs,a3⟩:=exq (n8 bys);have cu:=a3;rw[a3]at ai aw bc az a4;obtain⟨n,bu⟩:=exq (bys.length);rw[bu]at bo ax aw ⊢;obtain⟨nm,bd⟩:=exq (B nml);rw[bd];obtain⟨m,hm⟩:=exq (crcN 0 bs);obtain⟨a6,h4⟩:=exq ((w.alloc (vl #[vb nm,va fa n fc,so vh st,so vh nd,ve gn] 30)).alloc (vl ez 71));(have bn:a6.heap.size=w.heap.size+2:=by rw[<-h4];simp);have a8:=nY;have au:a6.heap[w.heap.size]? =vp (vl #[vb nm,va fa n fc,so vh st,so vh nd,ve gn] 30 (0,0)):=tV;(have bz:a6.heap[w.heap.size+1]? =vp (vl ez 71 (0,0)):=by have:=B2 (w.alloc (vl #[vb nm,va fa n fc,so vh st,so vh nd,ve gn] 30)) (vl ez 71);rw[<-h4];simpa using this);(have ce:∀W:wd,vx a6.heap.size a6 W->vu v8 53 #[va fa n fc] W λe w'=>e=vm (so vj m)/\vx W.heap.size W w':=λW I=>by have:=GC fa n fc W aw om (ai.below (a8.trans (I.mono om))).1 az;rw[hm]at this;exact this);have cg:∀W:wd,vx a6.heap.size a6 W->vu v8 54 #[va fa n fc] W λe w'=>∃g c out,e=vm (vd #[va (vp ⟨g,0,vn⟩) (NC bs (bestP bs 3)) c,so vh (bestP bs 3:Nat),so vh 0])/\g<w'.heap.size/\Bytes w' g 0 out/\IsOne bs (bestP bs 3) out/\vx W.heap.size W w':=λW I=>Z6l fa n fc bs W aw ax ai.2 (ai.below (a8.trans (I.mono om))).1 az bo a4;have da:∀W:wd,vx a6.heap.size a6 W->W.cell? ⟨w.heap.size,0,vn⟩=vp (vb nm):=λW I=>(I.cell (p:=⟨w.heap.size,0,vn⟩) uP).trans (Ac au);have k1:∀W:wd,vx a6.heap.size a6 W->W.cell? ⟨w.heap.size,1,vn⟩=vp (va fa n fc):=λW I=>(I.cell (p:=⟨w.heap.size,1,vn⟩) uP).trans (Ac au);have k2:∀W:wd,vx a6.heap.size a6 W->W.cell? ⟨w.heap.size,2,vn⟩=vp (so vh st):=λW I=>(I.cell (p:=⟨w.heap.size,2,vn⟩) uP).trans (Ac au);have cy:∀W:wd,vx a6.heap.size a6 W->W.cell? ⟨w.heap.size,3,vn⟩=vp (so vh nd):=λW I=>(I.cell (p:=⟨w.heap.size,3,vn⟩) uP).trans (Ac au);have c6:∀W:wd,vx a6.heap.size a6 W->W.cell? ⟨w.heap.size,4,vn⟩=vp (ve gn):=λW I=>(I.cell (p:=⟨w.heap.size,4,vn⟩) uP).trans (Ac au);obtain⟨dl,c5,di,dj,cj,c8,b5,aa,ac,b7,ak⟩:=ydK ce cg h4 bz a8 bn bd bu a3 hm ai;clear a4 h ai aw bc az a3 cu bu bd hm h4 a8 au bz ce cg bn;go_enter func35,ntmps35;go_upto_region 1 with fail;rw[Aa di];go_cut [3] (λco wc=>∃X,co=vc (vp ⟨X,0,vn⟩)/\vz (wc.heap[X]? =vp (vl (ec (vb nm) (va fa n fc) (so vh st) (so vh nd) (ve gn) (so vj 0) (va fa n fc) (so vj m)) 71 (0,0))/\a6.heap.size<=X/\vx a6.heap.size a6 wc));(. go_region_held3 (λW=>vx a6.heap.size a6 W) (first|with_reducible exact Co (A2 _ _)|with_reducible exact ao|with_reducible exact Ar ao _|with_reducible exact Co (Ar (A2 _ _) _)|with_reducible exact Ar (Co (A2 _ _)) _|with_reducible exact KM ao (VA _)) ((go_at_call 53;refine(dl _ (by first|with_reducible exact Co (A2 _ _)|with_reducible exact Co (Ar (A2 _ _) _)|with_reducible exact Ar (Co (A2 _ _)) _)).mono ?_;rintro e U ⟨rfl,bb⟩;have ao:vx a6.heap.size a6 U:=(by first|with_reducible exact Z2x bb|with_reducible exact Z2w bb|with_reducible exact Z2v bb);try (have F:=(by with_reducible exact Z95 bb:U.heap[a6.heap.size]? =vp (vl ez 71 (0,0)));have x0:=Ac (i:=0) F;have x1:=Ac (i:=1) F;have x2:=Ac (i:=2) F;have x3:=Ac (i:=3) F;have x4:=Ac (i:=4) F;have dt:=Ac (i:=5) F;have eb:=Ac (i:=6) F;have dr:=Ac (i:=7) F;have d5:=B1 U a6.heap.size 0 _ _ F;have y1:=B1 U a6.heap.size 1 _ _ F;have y2:=B1 U a6.heap.size 2 _ _ F;have dm:=B1 U a6.heap.size 3 _ _ F;have d9:=B1 U a6.heap.size 4 _ _ F;have d7:=B1 U a6.heap.size 5 _ _ F;have d8:=B1 U a6.heap.size 6 _ _ F;have dv:=B1 U a6.heap.size 7 _ _ F)));(all_goals go_wp2_with fail);(all_goals go_meet);exact⟨_,rfl,Ab ⟨B2 _ _,ao.size,Ar ao _⟩⟩;exact⟨_,rfl,Ab ⟨(Zcp U a6.heap.size 71 _ _ _ _ _ _ _ _ _ _ _ _ _ _ _ _ F).1,VA _,KM ao (VA _)⟩⟩);obtain⟨X,rfl,bw⟩:=hcut;obtain⟨bv,dq,bq⟩:=Aa bw;have c1:=k1 wc bq;have ci:=Ab bv;have a7:=Ab bq;clear bw bv bq da k1 k2 cy c6;go_wp2_with fail;refine(c5 wc a7).mono ?_;rintro e w6 ⟨g,c,out,rfl,bh,ba,al,a5⟩;have aj:=al.len;have H:w6.heap[X]? =vp (vl (ec (vb nm) (va fa n fc) (so vh st) (so vh nd) (ve gn) (so vj 0) (va fa n fc) (so vj m)) 71 (0,0)):=(a5.block X (VD.1 ci).1).trans (Aa ci);have av:vx a6.heap.size a6 w6:=a7.trans (a5.mono a7.size);have bn:=Aa c8;have E:w6.heap[w.heap.size+1]? =vp (vl ez 71 (0,0)):=(av.block _ om).trans (Aa dj);(have dw:w6.cell? ⟨w.heap.size,1,vn⟩=vp (va fa n fc):=by have:=av.cell (p:=⟨w.heap.size,1,vn⟩) uP;have cw:=a7.cell (p:=⟨w.heap.size,1,vn⟩) uP;rw[this,<-cw];exact c1);obtain⟨L,a9⟩:=exq (NC bs (bestP bs 3));obtain⟨K,hK⟩:=exq (bestP bs 3);rw[a9]at aj;rw[a9,hK];have b9:=Ac (i:=0) H;have db:=Ac (i:=1) H;have c7:=Ac (i:=2) H;have cm:=Ac (i:=3) H;have df:=Ac (i:=4) H;have cz:=Ac (i:=5) H;have cq:=Ac (i:=6) H;have cn:=Ac (i:=7) H;have dz:=B1 w6 X 5 _ _ H;have ds:=B1 w6 X 6 _ _ H;have r0:=Ac (i:=0) E;have r1:=Ac (i:=1) E;have r2:=Ac (i:=2) E;have cv:=Ac (i:=3) E;have c9:=Ac (i:=4) E;have de:=Ac (i:=5) E;have ck:=Ac (i:=6) E;have ct:=Ac (i:=7) E;have d6:=B1 w6 (w.heap.size+1) 0 _ _ E;have g1:=B1 w6 (w.heap.size+1) 1 _ _ E;have g2:=B1 w6 (w.heap.size+1) 2 _ _ E;have g3:=B1 w6 (w.heap.size+1) 3 _ _ E;have dy:=B1 w6 (w.heap.size+1) 4 _ _ E;have du:=B1 w6 (w.heap.size+1) 5 _ _ E;have g6:=B1 w6 (w.heap.size+1) 6 _ _ E;have dn:=B1 w6 (w.heap.size+1) 7 _ _ E;simp only[WF,VW,WI]at b9 db c7 cm df cz cq cn r0 r1 r2 cv c9 de ck ct;have b4:w.heap.size+1≠X:=om;have ar:vx w.heap.size w w6:=cj.trans (av.mono om);have cd:=(VD.1 H).1;have b0:=al.pos;have af:=ba 0 b0;(have bf:g≠X:=λe=>by rw[e]at af;rw[b9]at af;cases af);have bk:g≠w.heap.size+1:=λe=>by rw[e]at af;rw[r0]at af;cases af
 (have bi:bs.length=n:=by rw[<-Aa ac,Cf];exact Aa aa);clear b0 af;by_cases bg:L<n
 . have dh:(L:Int)<n:=om;have k1:=Ad w6 X 5 (so vj 8);have k2:=Ad (w6.setCell ⟨X,5,vn⟩ (so vj 8)) X 6 (va (vp ⟨g,0,vn⟩) L c);have kk:=Aj k1 k2;obtain⟨ah,ae⟩:=Zcp ((w6.setCell ⟨X,5,vn⟩ (so vj 8)).setCell ⟨X,6,vn⟩ (va (vp ⟨g,0,vn⟩) L c)) (w.heap.size+1) 71 _ _ _ _ _ _ _ _ (vb nm) (va fa n fc) (so vh st) (so vh nd) (ve gn) (so vj 8) (va (vp ⟨g,0,vn⟩) L c) (so vj m) ((kk.block _ om (by simp;exact b4)).trans E);have ap:PkIn (CB ((w6.setCell ⟨X,5,vn⟩ (so vj 8)).setCell ⟨X,6,vn⟩ (va (vp ⟨g,0,vn⟩) L c)) (w.heap.size+1) (vb nm) (va fa n fc) (so vh st) (so vh nd) (ve gn) (so vj 8) (va (vp ⟨g,0,vn⟩) L c) (so vj m)) fa fc bs:=((ak.below ar).grown kk (λG o Z e2=>by have:=C7 ak G o Z e2;simp;omega)).grown ae (λG o Z e2=>by have:=C7 ak G o Z e2;simp;omega)
   have ay:vz (EoA w ⟨⟨nml,bys,st,nd,gn⟩,fa,fc⟩ (vm (vf #[(vb nm),(va fa n fc),(so vh st),(so vh nd),(ve gn),(so vj 8),(va (vp ⟨g,0,vn⟩) L c),(so vj m)])) (CB ((w6.setCell ⟨X,5,vn⟩ (so vj 8)).setCell ⟨X,6,vn⟩ (va (vp ⟨g,0,vn⟩) L c)) (w.heap.size+1) (vb nm) (va fa n fc) (so vh st) (so vh nd) (ve gn) (so vj 8) (va (vp ⟨g,0,vn⟩) L c) (so vj m))):=Ab (by
    refine⟨⟨⟨⟨nml,bys,st,nd,gn⟩,8,out,m⟩,fa,fc,vp ⟨g,0,vn⟩,c⟩,?_,rfl,⟨by dsimp only;rw[Aa ac,Aa b7],out,by dsimp only;rw[Aa ac];exact al,.inl ⟨by dsimp only;rw[aj,Aa aa];exact bg,rfl,rfl⟩⟩,⟨by dsimp only;rw[Aa ac];exact ap,by dsimp only;rw[Aa aa];exact ax,by dsimp only;rw[Aa aa];omega,b8.txt,((show PkIn w6 (vp ⟨g,0,vn⟩) c out from ⟨.inr ⟨g,0,rfl,bh,ba⟩,λe=>by cases e⟩).grown kk (λG o e _=>by cases e;simp;exact bf)).grown ae (λG o e _=>by cases e;simp;exact bk)⟩,?_,rfl,λG o e _=>by cases e;exact .inr rfl⟩
    . unfold Ev.val
      dsimp only
      rw[Aa b5,Aa aa,aj]
      first|done|rfl
    . have cp:=kk.size
      exact(ar.grown kk om (λG e=>by cases e;omega)).grown ae om (λG e=>by cases e;omega))
   obtain⟨bm,ag⟩:=Z7k ((w6.setCell ⟨X,5,vn⟩ (so vj 8)).setCell ⟨X,6,vn⟩ (va (vp ⟨g,0,vn⟩) L c)) (w.heap.size+1) (vb nm) (va fa n fc) (so vh st) (so vh nd) (ve gn) (so vj 8) (va (vp ⟨g,0,vn⟩) L c) (so vj m);have O:CB ((w6.setCell ⟨X,5,vn⟩ (so vj 8)).setCell ⟨X,6,vn⟩ (va (vp ⟨g,0,vn⟩) L c)) (w.heap.size+1) (vb nm) (va fa n fc) (so vh st) (so vh nd) (ve gn) (so vj 8) (va (vp ⟨g,0,vn⟩) L c) (so vj m)=bm:=ag;rw[O]at ay ah;have bj:=Ab ag;clear ag O;have na:=Ab ah;clear ah ae ap H E av ar ba al a5 aj a9 hK bh bf bk cd bg bi k1 k2 kk;go_wp2;have O:=Aa bj;unfold Z37 at O;subst O;refine E1 (v:=vf #[(vb nm),(va fa n fc),(so vh st),(so vh nd),(ve gn),(so vj 8),(va (vp ⟨g,0,vn⟩) L c),(so vj m)]) ?_ rfl (Aa ay);exact vM
 . have dh:¬(L:Int)<n:=om;have kk:=Av w6 (vp X);obtain⟨ah,ae⟩:=Zcp w6 (w.heap.size+1) 71 _ _ _ _ _ _ _ _ (vb nm) (va fa n fc) (so vh st) (so vh nd) (ve gn) (so vj 0) (va fa n fc) (so vj m) ((kk.block _ om (by simp;exact b4)).trans E);have ap:PkIn (CB w6 (w.heap.size+1) (vb nm) (va fa n fc) (so vh st) (so vh nd) (ve gn) (so vj 0) (va fa n fc) (so vj m)) fa fc bs:=((ak.below ar).grown kk (λG o Z e2=>by have:=C7 ak G o Z e2;simp;omega)).grown ae (λG o Z e2=>by have:=C7 ak G o Z e2;simp;omega)
   have ay:vz (EoA w ⟨⟨nml,bys,st,nd,gn⟩,fa,fc⟩ (vm (vf #[(vb nm),(va fa n fc),(so vh st),(so vh nd),(ve gn),(so vj 0),(va fa n fc),(so vj m)])) (CB w6 (w.heap.size+1) (vb nm) (va fa n fc) (so vh st) (so vh nd) (ve gn) (so vj 0) (va fa n fc) (so vj m))):=Ab (by
    refine⟨⟨⟨⟨nml,bys,st,nd,gn⟩,0,bs,m⟩,fa,fc,fa,fc⟩,?_,rfl,⟨by dsimp only;rw[Aa ac,Aa b7],out,by dsimp only;rw[Aa ac];exact al,.inr ⟨by dsimp only;rw[aj,Aa aa];omega,rfl,by dsimp only;rw[Aa ac]⟩⟩,⟨by dsimp only;rw[Aa ac];exact ap,by dsimp only;rw[Aa aa];exact ax,by dsimp only;rw[Aa aa];omega,b8.txt,ap⟩,?_,rfl,λG o Z e2=>.inl ⟨Z,λe=>e2 (by have dc:bys= []:=e;dsimp only;rw[<-Aa ac,dc];rfl)⟩⟩
    . unfold Ev.val
      dsimp only
      rw[Aa b5,Aa aa,bi]
      first|done|rfl
    . have cp:=kk.size
      exact(ar.grown kk om (λG e=>by cases e;omega)).grown ae om (λG e=>by cases e;omega))
   obtain⟨bm,ag⟩:=Z7k w6 (w.heap.size+1) (vb nm) (va fa n fc) (so vh st) (so vh nd) (ve gn) (so vj 0) (va fa n fc) (so vj m);have O:CB w6 (w.heap.size+1) (vb nm) (va fa n fc) (so vh st) (so vh nd) (ve gn) (so vj 0) (va fa n fc) (so vj m)=bm:=ag;rw[O]at ay ah;have bj:=Ab ag;clear ag O;have na:=Ab ah;clear ah ae ap H E av ar ba al a5 aj a9 hK bh bf bk cd bg bi kk;go_wp2;have O:=Aa bj;unfold Z37 at O;subst O;refine E1 (v:=vf #[(vb nm),(va fa n fc),(so vh st),(so vh nd),(ve gn),(so vj 0),(va fa n fc),(so vj m)]) ?_ rfl (Aa ay);exact vM
def HP:List (Nat×Nat):= [(97,122),(65,90),(48,57),(46,46),(95,95),(45,45)]
def Pj(c:Nat)(p:Nat×Nat):Bool:=decide (p.1<=c)&&decide (c<=p.2)
theorem TW:∀c:UInt8,okB c=HP.any (Pj c.toNat):=by have h:∀n:Fin 256,okB (UInt8.ofNat n.val)=HP.any (Pj n.val):=tD;intro c;have:=h ⟨c.toNat,c.toNat_lt⟩;simpa using this
theorem Zda(W:wd):(Instr.index 289 (vf #[so vi 97,so vi 122,so vi 65,so vi 90,so vi 48,so vi 57,so vi 46,so vi 46,so vi 95,so vi 95,so vi 45,so vi 45]) (so vh 0)).run v8 W=.ok (vf #[so vi 97,so vi 122]) W:=oR
theorem Zd9(W:wd):(Instr.index 289 (vf #[so vi 97,so vi 122,so vi 65,so vi 90,so vi 48,so vi 57,so vi 46,so vi 46,so vi 95,so vi 95,so vi 45,so vi 45]) (so vh 1)).run v8 W=.ok (vf #[so vi 65,so vi 90]) W:=oR
theorem Zd8(W:wd):(Instr.index 289 (vf #[so vi 97,so vi 122,so vi 65,so vi 90,so vi 48,so vi 57,so vi 46,so vi 46,so vi 95,so vi 95,so vi 45,so vi 45]) (so vh 2)).run v8 W=.ok (vf #[so vi 48,so vi 57]) W:=oR
theorem Zd7(W:wd):(Instr.index 289 (vf #[so vi 97,so vi 122,so vi 65,so vi 90,so vi 48,so vi 57,so vi 46,so vi 46,so vi 95,so vi 95,so vi 45,so vi 45]) (so vh 3)).run v8 W=.ok (vf #[so vi 46,so vi 46]) W:=oR
theorem Zd6(W:wd):(Instr.index 289 (vf #[so vi 97,so vi 122,so vi 65,so vi 90,so vi 48,so vi 57,so vi 46,so vi 46,so vi 95,so vi 95,so vi 45,so vi 45]) (so vh 4)).run v8 W=.ok (vf #[so vi 95,so vi 95]) W:=oR
theorem Zd5(W:wd):(Instr.index 289 (vf #[so vi 97,so vi 122,so vi 65,so vi 90,so vi 48,so vi 57,so vi 46,so vi 46,so vi 95,so vi 95,so vi 45,so vi 45]) (so vh 5)).run v8 W=.ok (vf #[so vi 45,so vi 45]) W:=oR
theorem Ze8(k:Nat)(E:k<6)(W:wd):(Instr.index 289 (vf #[so vi 97,so vi 122,so vi 65,so vi 90,so vi 48,so vi 57,so vi 46,so vi 46,so vi 95,so vi 95,so vi 45,so vi 45]) (so vh k)).run v8 W=.ok (vf #[so vi ((HP.getD k (0,0)).1:Nat),so vi ((HP.getD k (0,0)).2:Nat)]) W:=by have h:k=0\/k=1\/k=2\/k=3\/k=4\/k=5:=om;rcases h with rfl|rfl|rfl|rfl|rfl|rfl;exact Zda W;exact Zd9 W;exact Zd8 W;exact Zd7 W;exact Zd6 W;exact Zd5 W
theorem Zb4(k:Nat):(HP.getD k (0,0)).1<256/\(HP.getD k (0,0)).2<256:=by
 match k with
 |0=>decide
 |1=>decide
 |2=>decide
 |3=>decide
 |4=>decide
 |5=>decide
 |k+6=>simp[HP]
theorem Z8e(n:Nat)(E:k<6)(h:Pj n (HP.getD k (0,0))=vr):HP.any (Pj n)=true:=by rw[List.any_eq_true];refine⟨HP.getD k (0,0),?_,h⟩;have hl:k<HP.length:=E;simp[List.getD,hl]
theorem Z49(n:Nat)(h:∀j,j<6->Pj n (HP.getD j (0,0))=vq):HP.any (Pj n)=false:=by rw[List.any_eq_false];intro x F;obtain⟨j,E,rfl⟩:=List.mem_iff_getElem.1 F;have:=h j E;simp[List.getD,E]at this;simp[this]
theorem Y2(n:Nat)(ah:n<256)(w:wd):vu v8 175 #[so vi n] w λe w'=>e=vm (ve (HP.any (Pj n)))/\vx w.heap.size w w':=by have U:=Ze8;go_enter func175,ntmps175;go_wp2;go_loopw [12] (λi wr=>∃k:Nat,k<=6/\i=so vh k/\vz (∀j,j<k->Pj n (HP.getD j (0,0))=vq)/\vz (vx w.heap.size w wr)) (λi _=>6-(vy i).toNat);exact⟨0,VF _,rfl,λj F=>absurd F om,A2 _ _⟩;obtain⟨k,ae,rfl,G,E⟩:=hrel;by_cases O:k<6;(. have ac:=U k O;obtain⟨ag,af⟩:=Zb4 k;have H:vz (Pj n (HP.getD k (0,0))=(decide ((HP.getD k (0,0)).1<=n)&&decide (n<=(HP.getD k (0,0)).2))):=rfl;have aa:=Ab (Z8e n O);generalize (HP.getD k (0,0)).1=lo at*;generalize (HP.getD k (0,0)).2=hi at*;clear U;have ai:=E.size;by_cases Z:lo<=n;(. by_cases hb:n<=hi;(. go_wp2;go_ret;refine⟨Hc ((Aa aa) ?_).symm,E.alloc E.size _⟩;rw[Aa H];simp[Z,hb]);. go_wp2;go_roundw;refine⟨k+1,om,by go_num,λj F=> ?_,E.alloc E.size _⟩;by_cases I:j=k;subst I;rw[Aa H];simp[hb];exact G j om;simp[vy];omega);. go_wp2;go_roundw;refine⟨k+1,om,by go_num,λj F=> ?_,E.alloc E.size _⟩;by_cases I:j=k;subst I;rw[Aa H];simp[Z];exact G j om;simp[vy];omega);. obtain rfl:k=6:=om;go_wp2;go_ret;exact⟨Hc (Z49 n G).symm,E⟩
theorem TV(p:ByteArray)(I:p.data.toList≠ [])(H:p.data.toList≠ [46])(G:p.data.toList≠ [46,46])(E:∀j (h:j<p.size),HP.any (Pj (p[j]'h).toNat)=vr):I2 p.data.toList=true:=by simp only[I2,ZW,HV];refine⟨⟨⟨I,H⟩,G⟩,?_⟩;rw[XA];intro x U;obtain⟨j,F,rfl⟩:=List.mem_iff_getElem.1 U;rw[TW];(have O:j<p.size:=by rw[Z4b];exact F);exact E j O
theorem Z96(p:ByteArray)(j:Nat)(h:j<p.size)(E:HP.any (Pj (p[j]'h).toNat)=vq):I2 p.data.toList=false:=by(have hb:okB (p[j]'h)=false:=by rw[TW];exact E);(have:p.data.toList.all okB=false:=by rw[List.all_eq_false];refine⟨p[j]'h,?_,by simp[hb]⟩;exact Array.mem_toList_iff.2 (Array.getElem_mem _));simp[I2,this]
theorem GX(p:ByteArray)(l:List UInt8)(h:¬p.data.toList=l):(p.toList==l)=false:=by rw[Lib.toList_data];simpa using h
theorem A9(p:ByteArray)(h:¬p.data.toList= []):p.toList.isEmpty=false:=by
 rw[Lib.toList_data]
 cases hl:p.data.toList with
 |nil=>exact absurd hl h
 |cons x xs=>rfl
theorem NR(p:ByteArray)(ai:p.size<=maxLen)(w:wd):vu v8 145 #[vb p] w λe w'=>e=vm (ve (I2 p.data.toList))/\vx w.heap.size w w':=by
 by_cases I:p.data.toList= [];(obtain rfl:p=⟨#[]⟩:=by rw[<-KT p,I];rfl);exact kI;by_cases U:p.data.toList= [46];(obtain rfl:p=⟨#[46]⟩:=by rw[<-KT p,U];rfl);exact kI;by_cases G:p.data.toList= [46,46];(obtain rfl:p=⟨#[46,46]⟩:=by rw[<-KT p,G];rfl);exact kI;have aj:=Ab (TV p I U G);have e0:=A9 p I;have al:=GX p [46] U;have e2:=GX p [46,46] G;clear I U G;have ah:=Ab (Z96 p);go_enter func145,ntmps145;go_wp2;go_loopw [3,16] (λ_ i wr=>∃k:Nat,k<=p.size/\i=so vh k/\vz (∀j (h:j<p.size),j<k->HP.any (Pj (p[j]'h).toNat)=vr)/\vz (vx w.heap.size w wr)) (λ_ i _=>p.size-(vy i).toNat);exact vI;obtain⟨k,ak,rfl,ae,O⟩:=hrel;unfold maxLen at ai;have ac:=O.size;by_cases F:k<p.size
 . have H:=Ab (λW=>Y2 (p[k]'F).toNat (p[k]'F).toNat_lt W)
   cases hm:HP.any (Pj (p[k]'F).toNat)with
   |true=>rw[hm]at H;have Z:=Ab hm;clear hm;go_wp2_with (go_at_call 175;refine((Aa H) _).mono ?_;rintro e af ⟨rfl,E⟩;have aa:=Ab (O.trans (E.mono ac));clear E);go_roundw;refine⟨k+1,om,by go_num,λj h hj=> ?_,aa⟩;by_cases ag:j=k;subst ag;exact Aa Z;exact ae j h om;simp[vy];omega
   |false=>rw[hm]at H;have Z:=Ab hm;clear hm;go_wp2_with (go_at_call 175;refine((Aa H) _).mono ?_;rintro e af ⟨rfl,E⟩;have aa:=Ab (O.trans (E.mono ac));clear E);go_ret;exact⟨Hc ((Aa ah) k F (Aa Z)).symm,aa⟩
 . obtain rfl:k=p.size:=om;go_wp2;go_ret;exact⟨Hc ((Aa aj) (λj h=>(Aa ae) j h h)).symm,O⟩
def Q7:Go.Shelf.Ren:=⟨fun|221=>81|268=>113|138=>114|143=>115|195=>152|197=>117|218=>153|219=>154|260=>155|217=>187|225=>188|224=>189|267=>190|266=>214|314=>215|n=>n,fun|9=>9|3=>3|31=>43|4=>4|0=>0|105=>183|21=>21|5=>5|46=>66|119=>261|139=>264|138=>263|146=>266|51=>35|n=>n,fun|1=>0|3=>1|4=>2|n=>n⟩
theorem DC:Go.Proofs.Lays.n221 v8 Q7:= {
 mixed:=oR
 f138:=Tryz.func114.trans (congrArg vp oR)
 f143:=Tryz.func115.trans (congrArg vp oR)
 f195:=Tryz.func152.trans (congrArg vp oR)
 f197:=Tryz.func117.trans (congrArg vp oR)
 f217:=Tryz.func187.trans (congrArg vp oR)
 f218:=Tryz.func153.trans (congrArg vp oR)
 f219:=Tryz.func154.trans (congrArg vp oR)
 f221:=Tryz.func81.trans (congrArg vp oR)
 f224:=Tryz.func189.trans (congrArg vp oR)
 f225:=Tryz.func188.trans (congrArg vp oR)
 f260:=Tryz.func155.trans (congrArg vp oR)
 f266:=Tryz.func214.trans (congrArg vp oR)
 f267:=Tryz.func190.trans (congrArg vp oR)
 f268:=Tryz.func113.trans (congrArg vp oR)
 f314:=Tryz.func215.trans (congrArg vp oR)
 t0:=underlying0
 a0:=Tryz.isAgg0
 z0:=Tryz.sizeOf0
 v0:=Tryz.zeroValue0
 t3:=underlying3
 a3:=Tryz.isAgg3
 z3:=Tryz.sizeOf3
 v3:=Tryz.zeroValue3
 t4:=underlying4
 a4:=Tryz.isAgg4
 z4:=Tryz.sizeOf4
 v4:=Tryz.zeroValue4
 t5:=underlying5
 a5:=Tryz.isAgg5
 z5:=Tryz.sizeOf5
 v5:=Tryz.zeroValue5
 t9:=underlying9
 a9:=Tryz.isAgg9
 z9:=Tryz.sizeOf9
 v9:=Tryz.zeroValue9
 t21:=underlying21
 a21:=Tryz.isAgg21
 z21:=Tryz.sizeOf21
 v21:=Tryz.zeroValue21
 t31:=underlying43
 a31:=Tryz.isAgg43
 z31:=Tryz.sizeOf43
 v31:=Tryz.zeroValue43
 t46:=underlying66
 a46:=Tryz.isAgg66
 z46:=Tryz.sizeOf66
 v46:=Tryz.zeroValue66
 t51:=underlying35
 a51:=Tryz.isAgg35
 z51:=Tryz.sizeOf35
 v51:=Tryz.zeroValue35
 t105:=underlying183
 a105:=Tryz.isAgg183
 z105:=Tryz.sizeOf183
 v105:=Tryz.zeroValue183
 t119:=underlying261
 a119:=Tryz.isAgg261
 z119:=Tryz.sizeOf261
 t138:=underlying263
 a138:=Tryz.isAgg263
 z138:=Tryz.sizeOf263
 v138:=Tryz.zeroValue263
 t139:=underlying264
 a139:=Tryz.isAgg264
 z139:=Tryz.sizeOf264
 v139:=Tryz.zeroValue264
 t146:=underlying266
 a146:=Tryz.isAgg266
 z146:=Tryz.sizeOf266
 v146:=Tryz.zeroValue266
 g1:=oR
 g3:=oR
 g4:=oR}
def Wc(ps:List (List UInt8)):List Value:=ps.map λp=>vb (B p)
theorem Z5o:(Tryz.prog.info? 9).map (λi=>(i.zero,i.size,i.bytes))=vp (vp (vb ByteArray.empty),1,16):=oR
theorem AF(s:ByteArray)(w:wd)(H:s.size<4294967281):vu v8 81 #[vb s,vb ⟨#[47]⟩,so vh 0,so vh (-1)] w λe w'=>e=vm (va (vp ⟨w.heap.size,0,vn⟩) (CM s.data.toList).length (CM s.data.toList).length)/\w'=w.alloc (vl (Wc (CM s.data.toList)).toArray 9):=by have E:(⟨#[47]⟩:ByteArray).size=1:=rfl;have O:=Lib.countB_le ⟨#[47]⟩ (by rw[E];decide) s.size s (VA _);have I:=Lib.splitB_all ⟨#[47]⟩ (by rw[E];decide) 0 _ s rfl;(have G:∀(x:ByteArray) (c:Array vt),x.size<=s.size->vu v8 (Q7.f 143) #[vb x,vb ⟨#[47]⟩] (w.alloc (vl c (Q7.t 9))) λe w'=>e=vm (so vh (Lib.indexB x ⟨#[47]⟩))/\w'=w.alloc (vl c (Q7.t 9)):=by intro x c _;refine(Any.strings_Index_one {DC with} x 47 _).mono ?_;rintro e w' ⟨rfl,rfl⟩;refine⟨?_,rfl⟩;show _=vm (so vh (Lib.index x.data.toList [47]));rw[Lib.index_one]);(have F:vu v8 (Q7.f 138) #[vb s,vb ⟨#[47]⟩] w λe w'=>e=vm (so vh (Lib.countB s ⟨#[47]⟩))/\w'=w:=by refine(Any.strings_Count_one {DC with} s 47 w).mono ?_;rintro e w' ⟨rfl,rfl⟩;refine⟨?_,rfl⟩;show _=vm (so vh (Lib.count s.data.toList [47]:Nat));rw[Lib.count_one];rfl);have c:=Any.strings_genSplit_core DC Z5o s ⟨#[47]⟩ 0 (-1) (Lib.countB s ⟨#[47]⟩+1) w H (by rw[E];decide) (VF _) G F od od (by rw[A1 od];omega);rw[YH]at c;(have e2:Lib.cellsOf (Lib.splitB ⟨#[47]⟩ 0 (Lib.countB s ⟨#[47]⟩) s) (Lib.countB s ⟨#[47]⟩+1)=((Lib.splitB ⟨#[47]⟩ 0 (Lib.countB s ⟨#[47]⟩) s).map vb).toArray:=by rw[<-I];exact Lib.cellsOf_full _);rw[e2,Zfl,OW]at c;refine c.mono ?_;rintro e w' ⟨rfl,rfl⟩;refine⟨oS,?_⟩;simp only[Wc,List.map_map];rfl
theorem Q6(s:ByteArray)(w:wd)(E:s.size<4294967281):vu v8 58 #[vb s,vb ⟨#[47]⟩] w λe w'=>e=vm (va (vp ⟨w.heap.size,0,vn⟩) (CM s.data.toList).length (CM s.data.toList).length)/\w'=w.alloc (vl (Wc (CM s.data.toList)).toArray 9):=by have c:=AF s w E;go_enter func58,ntmps58;go_wp2_with (go_at_call 81;refine c.mono ?_;rintro e w' ⟨rfl,F⟩;rw[F]);go_ret;exact⟨rfl,rfl⟩
def SRow(w:wd)(b:Nat)(v:vt)(ps:List (List UInt8)):Prop:=w.ownsRow b 9 1 v ps.length (Wc ps)
theorem B3(E:List (List UInt8)):(Wc E).length=E.length:=by simp[Wc]
theorem SRow.nil(w:wd)(b:Nat):SRow w b (va vn 0 0) []:=HM _ _ _ _
theorem SRow.new(w:wd)(E:List (List UInt8))(h:E.length<=maxLen):SRow (w.alloc (vl (Wc E).toArray 9)) w.heap.size (va (vp ⟨w.heap.size,0,vn⟩) E.length E.length) E:=
 ⟨by rw[B3];omega,.inr ⟨w.heap.size,E.length,(Wc E).toArray,rfl,VA _,B2 w _,VA _,h,by simp[B3],by simp[<-B3]⟩⟩
theorem SRow.below{E:List (List UInt8)}(h:SRow w b v E)(F:vx w.heap.size w w'):SRow w' b v E:=W5 h F
theorem SRow.cases{E:List (List UInt8)}(h:SRow w b v E):(v=va vn 0 0/\E= [])\/∃g cap,v=va (vp ⟨g,0,vn⟩) E.length cap/\b<=g/\g<w.heap.size/\E.length<=cap/\cap<=maxLen/\∀j x,(E.map B)[j]? =vp x->w.cell? ⟨g,0+j,vn⟩=vp (vb x):=by
 obtain⟨af,I|⟨g,cap,cur,a1,a2,O,U,ac,ag,Z⟩⟩:=h;exact .inl ⟨I.1,ZR.1 I.2⟩
 . (have aa:g<w.heap.size:=by rcases YN g w.heap.size with G|G;exact G;simp[XY G]at O);refine .inr ⟨g,cap,a1,a2,aa,U,ac,?_⟩;intro j x F;(have ae:j<E.length:=by rcases YN j E.length with G|G;exact G;rw[VZ (by simpa using G)]at F;exact absurd F oS);rw[VY,kbw O];(have e:(cur.toList.take (E.length*1))[j]? =(Wc E)[j]? :=by rw[Z]);rw[List.getElem?_take,A1 om]at e;simp only[Wc,UC]at e F;rw[<-Array.getElem?_toList,e]
   cases H:E[j]? with
   |none=>rw[H]at F;exact absurd F oS
   |some p=>rw[H]at F;simp at F ⊢;exact F
theorem BB{s:List UInt8}(h:40<s.length):Ln s=2:=by unfold Ln;rw[A1 h]
theorem JW{s:List UInt8}(h:s.length<=40){p:List UInt8}(E:p∈CM s)(G:I2 p=vq):Ln s=1:=by unfold Ln;rw[A0 om,A0];intro F;have:=XA.1 F p E;rw[G]at this;exact absurd this oS
theorem GZ{s:List UInt8}(h:s.length<=40):(CM s).length<=41:=by have:=YQ (a:=(47:UInt8)) (l:=s);rw[SC];omega
def aL(s:List UInt8):List (List UInt8):=if Ln s=0 then CM s else []
theorem SX{s:List UInt8}(h:Ln s=0):aL s=CM s:=by unfold aL;rw[A1 h]
theorem Rh{s:List UInt8}(h:Ln s≠0):aL s= []:=by unfold aL;rw[A0 h]
theorem Oq(w:wd)(o:Obj):vx w.heap.size w (w.alloc o):=(A2 _ _).alloc (VA _) o
theorem TH(s:List UInt8)(w:wd)(aa:s.length<=maxLen):vu v8 109 #[vb (B s)] w λe w'=>∃v,e=vm (vd #[v,so vh (Ln s:Nat)])/\SRow w' w.heap.size v (aL s)/\vx w.heap.size w w'/\(Ln s≠0->v=va vn 0 0):=by
 have j9:=Jp s;unfold maxLen at aa;by_cases U:40<s.length;. have O:=Ab (BB U);have ar:40<(B s).size:=tG;have au:(B s).size<=9223372036854775807:=tG;clear j9 U aa;generalize B s=t at*;go_enter func109,ntmps109;go_wp2;go_ret2;rw[Rh (by rw[Aa O];decide),Aa O];exact⟨_,rfl,SRow.nil _ _,A2 _ _,λ_=>rfl⟩
 . have I:=Q6 (B s) w (by rw[j9];omega);rw[BG]at I;have ar:(B s).size<=40:=tG;have al:=GZ (s:=s) om;obtain⟨ck,O,gv⟩:=mK;have ao:∀p∈CM s,p.length<=s.length:=Z6z s;obtain⟨L,Z⟩:=exq ((CM s).length);rw[Z]at I ck al;have ay:=Ab Z;have ai:vz (∀j (hj:j<(CM s).length) (W:wd),vx (w.heap.size+1) (w.alloc (vl (Wc (CM s)).toArray 9)) W->W.cell? ⟨w.heap.size,j,vn⟩=vp (vb (B ((CM s)[j]'hj)))):=vF;have az:s.length<=40:=om;clear Z j9 U aa;generalize B s=t at*;go_enter func109,ntmps109;go_wp2_with (go_at_call 58;refine I.mono ?_;rintro e w' ⟨rfl,ak⟩;rw[ak]);clear I;go_loopw [6,14] (λ_ i wr=>∃k:Nat,k<=L/\i=so vh k/\vz (∀j (hj:j<(CM s).length),j<k->I2 ((CM s)[j]'hj)=vr)/\vz (vx (w.heap.size+1) (w.alloc (vl (Wc (CM s)).toArray 9)) wr)) (λ_ i _=>L-(vy i).toNat);exact vI;obtain⟨k,ax,rfl,bf,ap⟩:=hrel;by_cases aw:k<L
   . have F:k<(CM s).length:=tC;have a4:=(Aa ai) k F wr (Aa ap);have aj:=ap.size;have a3:=ao _ (WO F);have ac:=Ab (WO F);have ah:=Ab (λh=>(Aa O) _ (Aa ac) h);have eo:vz (I2 ((CM s)[k]'F)=vr->∀j (hj:j<(CM s).length),j<k+1->I2 ((CM s)[j]'hj)=vr):=yA;generalize (CM s)[k]'F=q at*;have G:=NR (B q) (by rw[Jp];unfold maxLen;omega) wr;rw[BG]at G;clear ac;generalize B q=av at*;have ae:w.heap.size+1<=wr.heap.size:=by simp at aj;omega
     cases E:I2 q with
     |true=>rw[E]at G;have lr:=Ab E;clear E;go_wp2_with (go_at_call 145;refine G.mono ?_;rintro e ag ⟨rfl,H⟩;have dj:=Ab (ap.trans (H.mono ae));clear H);go_roundw;exact wM;simp[vy];omega
     |false=>rw[E]at G;have lr:=Ab E;clear E;go_wp2_with (go_at_call 145;refine G.mono ?_;rintro e ag ⟨rfl,H⟩;have dj:=Ab (ap.trans (H.mono ae));clear H);go_ret2;have af:=(Aa ah) (Aa lr);rw[Rh (by rw[af];decide),af];exact⟨_,rfl,SRow.nil _ _,(Oq w _).trans (dj.mono (UI _)),λ_=>rfl⟩
   exact qX
theorem Z2d(s:List UInt8)(w:wd)(E:s.length<=maxLen):vu v8 74 #[vb (B s)] w λe w'=>e=vm (so vh (Ln s:Nat))/\vx w.heap.size w w':=by have c:=TH s w E;generalize B s=t at*;go_enter func74,ntmps74;go_wp2_with (go_at_call 109;refine c.mono ?_;rintro e w' ⟨v,rfl,_,hb,_⟩;have F:=Ab hb;clear hb);go_ret;exact⟨rfl,F⟩
theorem AX{f:Fl}(h:Ln f.name≠0):Lg f=Ln f.name:=by unfold Lg;rw[A1 h]
theorem AY{f:Fl}(h:Ln f.name=0)(E:3000<f.bytes.length):Lg f=2:=by unfold Lg;rw[A0 (by simp[h]),A1 E]
theorem Yw{f:Fl}(h:Ln f.name=0)(E:¬3000<f.bytes.length)(F:f.stamp<0\/1000000<f.stamp\/f.node<0\/3<f.node):Lg f=3:=by unfold Lg;rw[A0 (by simp[h]),A0 E,A1 F]
theorem AW{f:Fl}(h:Ln f.name=0)(E:¬3000<f.bytes.length)(F:¬(f.stamp<0\/1000000<f.stamp\/f.node<0\/3<f.node)):Lg f=if f.gone=vr/\0<f.bytes.length then 4 else 0:=by unfold Lg;rw[A0 (by simp[h]),A0 E,A0 F]
theorem J0(h:FvIn w x):vu v8 52 #[x.val] w λe w'=>e=vm (so vh (Lg x.f:Nat))/\vx w.heap.size w w':=by
 have hc:=λW=>Z2d x.f.name W (by have:=h.txt;unfold maxLen;omega);have e0:= @AX x.f;have O:= @AY x.f;have e2:= @Yw x.f;have e3:= @AW x.f;rw[Db];clear h;obtain⟨⟨nm,bs,st,nd,gn⟩,a,c⟩:=x;simp only at*;have aj:∀W W':wd,vx W.heap.size W W'->vx W.heap.size W W':=λ_ _ h=>h;generalize B nm=t at*;generalize bs.length=n at*;have Z:=Ab hc;by_cases H:Ln nm=0
 . replace O:=O H;replace e2:=e2 H;replace e3:=e3 H;rw[H]at Z;clear e0 H hc
   have leaf:∀(E:Nat),vz (Lg ⟨nm,bs,st,nd,gn⟩=E)->vz ((E=2/\3000<n)\/ (E=3/\n<=3000/\(st<0\/ (0<=st/\1000000<st)\/ (0<=st/\st<=1000000/\nd<0)\/ (0<=st/\st<=1000000/\0<=nd/\4<=nd)))\/ (E=4/\n<=3000/\0<=st/\st<=1000000/\0<=nd/\nd<4/\gn=vr/\0<n)\/ (E=0/\n<=3000/\0<=st/\st<=1000000/\0<=nd/\nd<4/\gn=vr/\n=0)\/ (E=0/\n<=3000/\0<=st/\st<=1000000/\0<=nd/\nd<4/\gn=vq))->
    vu v8 52 #[vf #[vb t,va a n c,so vh st,so vh nd,ve gn]] w λe w'=>e=vm (so vh (Lg ⟨nm,bs,st,nd,gn⟩:Nat))/\vx w.heap.size w w':=by
    intro E af ag
    rw[Aa af]
    clear O e2 e3 af
    rcases Aa ag with ⟨rfl,F⟩|⟨rfl,F,I|⟨I,G⟩|⟨I,G,U⟩|⟨I,G,U,ae⟩⟩|⟨rfl,F,I,G,U,ae,rfl,ai⟩|⟨rfl,F,I,G,U,ae,rfl,rfl⟩|⟨rfl,F,I,G,U,ae,rfl⟩
    all_goals (
     clear ag
     go_enter func52,ntmps52
     go_wp2_with fail
     refine(Z _).mono ?_
     rintro e w' ⟨rfl,hb⟩
     have c1:=(hb.cell (p:=⟨w.heap.size,1,vn⟩) oS).trans (by simp;rfl)
     have c2:=(hb.cell (p:=⟨w.heap.size,2,vn⟩) oS).trans (by simp;rfl)
     have ak:=(hb.cell (p:=⟨w.heap.size,3,vn⟩) oS).trans (by simp;rfl)
     have ao:=(hb.cell (p:=⟨w.heap.size,4,vn⟩) oS).trans (by simp;rfl)
     have aa:=sE
     clear hb
     go_wp2
     go_ret
     exact⟨rfl,aa⟩)
   have al:=Ab (rfl:bs.length=bs.length);by_cases F:3000<n;exact leaf 2 (O F) (.inl ⟨rfl,F⟩)
   . by_cases G:st<0\/1000000<st\/nd<0\/3<nd;refine leaf 3 (e2 F G) (.inr (.inl ⟨rfl,om,om⟩))
     . have ac:=e3 F G
       cases gn with
       |true=>by_cases hn:0<n;exact leaf 4 (by rw[ac,A1 ⟨rfl,hn⟩];rfl) (.inr (.inr (.inl ⟨rfl,om,om,om,om,om,rfl,hn⟩)));exact leaf 0 (by rw[ac,A0 (λk=>hn k.2)];rfl) (.inr (.inr (.inr (.inl ⟨rfl,om,om,om,om,om,rfl,om⟩))))
       |false=>exact leaf 0 (by rw[ac,A0 (λk=>by cases k.1)];rfl) (.inr (.inr (.inr (.inr ⟨rfl,om,om,om,om,om,rfl⟩))))
 . rw[e0 H];clear e0 O e2 e3 hc;obtain⟨k,ah⟩:=exq (Ln nm);rw[ah]at Z H ⊢;go_enter func52,ntmps52;go_wp2_with fail;refine(Z _).mono ?_;rintro e w' ⟨rfl,hb⟩;have aa:=sE;clear hb;go_wp2;go_ret;exact⟨rfl,aa⟩
def Oa(xs:List Fv):Nat->Option Fl
 |0=>vn
 |k+1=>(fls xs)[k]?
theorem BA{xs:List Fv}(h:xs[k]? =vp x):K7 (Oa xs k) ((fls xs).drop k)=if Lg x.f≠0 then Lg x.f else if behind (Oa xs k) x.f=vq then 4 else K7 (Oa xs (k+1)) ((fls xs).drop (k+1)):=by(have E:(fls xs)[k]? =vp x.f:=by simp[fls,h]);(have G:k<(fls xs).length:=by rcases YN k (fls xs).length with F|F;exact F;. rw[VZ F]at E;cases E);(have e:(fls xs).drop k=x.f::(fls xs).drop (k+1):=by rw[WX G];congr 1;rw[VP G]at E;exact VK E);rw[e,K7];(show _=if Lg x.f≠0 then Lg x.f else if behind (Oa xs k) x.f=vq then 4 else K7 ((fls xs)[k]?) _);rw[E]
theorem Z6v(x y:List UInt8):Op.bytesLess (B x).toList (B y).toList=decide (Dy x y<0):=by rw[Ea,Ea,D8]
theorem Z6w(x y:List UInt8):((B x).toList==(B y).toList)=decide (Dy x y=0):=by rw[Ea,Ea,XU,Lq,V7,BL]
theorem PG(E:Option vw)(c:Nat)(w:wd)(h:12<n):vu v8 34 #[va E n c] w λe w'=>e=vm (so vh 2)/\w'=w:=by go_enter func34,ntmps34;go_wp2;go_ret;exact⟨rfl,rfl⟩
theorem Jf{xs:List Fv}(h:FsIn w ah c xs)(n:Nat)(al:xs.length=n):vu v8 34 #[va ah n c] w λe w'=>e=vm (so vh (errM (fls xs):Nat))/\vx w.heap.size w w':=by
 (have hl:(fls xs).length=n:=by simp[fls,al]);by_cases hm:12<n;(have e:errM (fls xs)=2:=by unfold errM;rw[A1 om]);rw[e];refine(PG ah c w hm).mono ?_;rintro e w' ⟨rfl,rfl⟩;exact⟨rfl,A2 _ _⟩
 . have e:=rW;obtain⟨E,aj⟩:=exq (K7 vn (fls xs));rw[e,aj];obtain⟨ar,bf,bg,ay⟩:=Do h al aj hl;clear h e aj al hl;go_enter func34,ntmps34;go_wp2;go_loopw [3,4,5,11] (λ_ _ _ i wr=>∃k:Nat,k<=n/\i=so vh k/\vz (K7 (Oa xs k) ((fls xs).drop k)=E)/\vz (vx w.heap.size w wr)) (λ_ _ _ i _=>n-(vy i).toNat);exact⟨0,VF _,rfl,bg,A2 _ _⟩;obtain⟨k,bn,rfl,ck,ap⟩:=hrel;by_cases aw:k<n
   . obtain⟨x,af,a3⟩:=qBO;obtain⟨b,o,rfl,hb,c0,c1,c2,bc,bh⟩:=ar.get ap af;have F:=BA af;rw[Aa ck]at F;have ba:=ap.size;have G:=Ab (λW (a8:vx w.heap.size w W)=>J0 ((ar.all x a3).below a8 (VA _)));have ac:=Ab F;rw[Db]at G;unfold Fv.sl at c1;obtain⟨er,ax⟩:=exq (Lg x.f);rw[ax]at G ac;clear F ax a3;have bw:=Ab af;clear af;obtain⟨H,bj,bq⟩:=x;simp only at*;have a9:∃nm,H.name=nm:=⟨_,rfl⟩;obtain⟨nm,ao⟩:=a9;rw[ao]at c0 G;obtain⟨t,ag⟩:=exq (B nm);rw[ag]at c0 G;have bi:=Ab ag;have bb:=Ab ao;clear ag ao;generalize H.bytes.length=bm at*;generalize H.stamp=st at*;generalize H.node=nd at*;generalize H.gone=gn at*;have av:∀ae,vx w.heap.size w (wr.alloc ae):=λae=>ap.alloc ba ae;have jj:=Ab av;clear av;by_cases a4:er=0
     . subst a4
       cases k with
       |zero=>simp only[YU,XS]at c0 c1 c2 bc bh;have F:=Aa ac;rw[A0 oS,A0 (by simp[Oa,behind])]at F;have eo:=Ab F;clear F;go_wp2_with fail;refine(G _ (jj _)).mono ?_;rintro e au ⟨rfl,bu⟩;have dj:=dE;clear bu;go_wp2;go_quiet (fail);go_wp2;go_roundw;exact⟨1,om,by go_num,eo.symm,Ae dj _⟩;simp[vy];omega
       |succ j=>
        obtain⟨y,ak,bd⟩:=Lm (xs:=xs) (k:=j) (by rw[Aa bf];omega);obtain⟨bk,ae,a7,bz,d0,_⟩:=ar.get ap ak;cases a7;have F:=Aa ac;rw[A0 oS]at F;(have a5:Oa xs (j+1)=vp y.f:=by show (fls xs)[j]? =_;simp[fls,ak]);rw[a5]at F;have Z:=Z6v nm y.f.name;have O:=Z6w nm y.f.name;(have az:behind (vp y.f) H=decide (Dy y.f.name nm<0):=by show decide (Dy y.f.name H.name<0)=_;rw[Aa bb]);rw[az]at F;have U:=Ew nm y.f.name;rw[Aa bi]at Z O;generalize B y.f.name=r5 at*;generalize y.f.name=aa at*;clear az a5 ak bd;have bo:((j+1:Nat):Int)-1=(j:Int):=om;have bv:(j:Int)<n:=om;by_cases ai:Dy nm aa=1;. rw[ai]at Z O U;rw[A0 (by rw[U];decide)]at F;have eo:=Ab F;simp only[Int.reduceLT,Int.reduceEq,kb0]at Z O;clear F U ai;go_wp2_with fail;refine(G _ (jj _)).mono ?_;rintro e au ⟨rfl,bu⟩;have dj:=dE;have a6:=bO;have r0:=fD;clear bu;go_wp2;go_quiet (fail);go_wp2;go_roundw;exact⟨j+2,om,by go_num,eo.symm,Ae dj _⟩;simp[vy];omega
        . (have I:(Dy nm aa= -1\/Dy nm aa=0):=by rcases Bu nm aa with h|h|h<;>omega);rw[A1 (by rw[U];apply H2;omega)]at F;have eo:=Ab F;clear F U ai;rcases I with I|I
          all_goals (
           rw[I]at Z O
           simp only[Int.reduceLT,Int.reduceEq,Int.reduceNeg,decide_true,kb0]at Z O
           clear I
           go_wp2_with fail
           refine(G _ (jj _)).mono ?_
           rintro e au ⟨rfl,bu⟩
           have dj:=dE
           have a6:=bO
           have r0:=fD
           clear bu
           go_wp2
           go_quiet (fail)
           go_wp2
           go_ret
           exact⟨Bm (by rw[Aa eo];rfl),Ae dj _⟩)
     . have F:=Aa ac;rw[A1 (by simpa using a4)]at F;have eo:=Ab F;clear F;go_wp2_with fail;refine(G _ (jj _)).mono ?_;rintro e au ⟨rfl,bu⟩;exact vE
   exact zZ
theorem Rz{l:List Fl}(h:errM l=0):l.length<=12:=by unfold errM at h;split at h;omega;omega
structure T5(w w':wd)(v:vt)(l:List Fl):Prop where
 ex:∃ad c out,v=va ad l.length c/\FsIn w' ad c out/\fls out=l
 bel:vx w.heap.size w w'
theorem T5.nil(h:vx w.heap.size w w'):T5 w w' (va vn 0 0) []:=⟨⟨vn,0,[],rfl,FsIn.nil _,rfl⟩,h⟩
theorem T5.row{B:Nat}(h:FRow w' B v out)(H:out.length<=1000)(G:vx w.heap.size w w'):T5 w w' v (fls out):=by obtain⟨ad,c,E,F⟩:=h.files om;exact⟨⟨ad,c,out,by rw[E];simp[fls],F,rfl⟩,G⟩
theorem Vu(h:K9 w ah c es)(bh:es.length=n)(dm:n<=12)(j1:∀x∈es,HY x.e):vu v8 36 #[va ah n c] w λe w'=>∃v,e=vm v/\w'.ownsRow (w.heap.size+1) 5 1 v (Ba (es.map Ev.e)).length (u8s (Ba (es.map Ev.e)))/\vx w.heap.size w w':=by
 obtain⟨cz,hi,cy,dh,db⟩:=EM Z0v;obtain⟨l,je⟩:=exq (es.map Ev.e);(have ck:l.length=n:=by rw[<-je];simpa using bh);have bj:∀x∈l,HY x:=yG;(have cn:∀k,(Au (l.take k)).length<=12081*12:=λk=>by have bm:=Z16 (l.take k) (λx U=>bj x (VU U));exact zN);(have co:∀k,(Ao 0 (l.take k)).length<=97*12:=λk=>by have bm:=GU (l.take k) 0 (λx U=>bj x (VU U));exact zN);rw[je];have b7:=mW;have cv:vz (AS w w.heap.size w.heap.size (Au (l.take 0)) (va vn 0 0) (Wo 0 (l.take 0)) (w.alloc (vl #[va vn 0 0] 101))):=Ab (by refine⟨⟨va vn 0 0,VA _,B2 w _,HM _ _ _ _⟩,HM _ _ _ _,(A2 _ _).alloc (VA _) _⟩);obtain⟨ax,aj,cm,cj,ed,ay,bw⟩:=T7 h cn co j1 ck bh b7;clear h cn co j1 ck bh b7 bj je;go_enter func36,ntmps36;go_wp2;go_loopw [4,6,14] (λv4 _ i wr=>∃k:Nat,k<=n/\i=so vh k/\vz (AS w w.heap.size w.heap.size (Au (l.take k)) v4 (Wo 0 (l.take k)) wr)) (λ_ _ i _=>n-(vy i).toNat);exact⟨0,VF _,rfl,cv⟩;obtain⟨k,ba,rfl,E⟩:=hrel;by_cases aw:k<n;. obtain⟨x,U,Z⟩:=bU;obtain⟨b,o,rfl,hb,c0,c1,c2,ai,ak,ao,aa,al⟩:=ax.get E.below U;have ag:=Aa bw k x U;have bg:=Ab (ax.all x Z);have ap:=Aa cj x Z;have G:=Ab (λ(W:wd) (O:∃v ps,AS w w.heap.size w.heap.size (Au (l.take k)) v ps W)=>Z3f w.heap.size w.heap.size x (Au (l.take k)) W (by obtain⟨v,ps,O⟩:=O;exact O.z) ap (by obtain⟨v,ps,O⟩:=O;exact bg.pk.below O.below) (λg c6 ar e2=>C7 bg.pk g c6 ar e2) (oI (Aa aj k)));unfold Ev.val at G;have a5:=Ab (Ht ag);obtain⟨x,fa,fc,pa,pc⟩:=x;obtain⟨⟨nml,bys,st,nd,gn⟩,mt,pk,cr⟩:=x;dsimp only at c0 c1 c2 ai ak ao aa al G;generalize B nml=nm at c0 G;generalize bys.length=bl at c1 G;generalize pk.length=pl at aa G;clear U Z ag ap;obtain⟨ov,F⟩:=E.z;obtain⟨d0,ae⟩:=F.new;obtain⟨cq,bn,rfl⟩:=Am F.own;have a4:=Aa aj k;obtain⟨L,ac⟩:=exq ((Au (l.take k)).length);rw[ac]at d0 a4;have a3:=Ab ac;have c8:=F.lt;have ct:∀o1:Obj,(wr.alloc o1).cell? ⟨w.heap.size,0,vn⟩=vp (va cq L bn):=λo1=>(U0 wr o1 _ c8).trans d0;have af:=Ab (λo1 o2:Obj=>(E.later ((A2 _ _).alloc (VA _) o1)).later ((A2 _ _).alloc (VA _) o2));(have bi:(Wo 0 (l.take k)).length=k:=by rw[DS,VL,Aa ed];omega);have c5:=Ab bi;have bb:=Ab (λo1 o2:Obj=>(af o1 o2).p);rw[bi]at bb;clear F ac bi;go_wp2_with (at_builtin;refine HG _ rfl _ _ 76 rfl (w.heap.size+1) 3 cz (so vh 0) 1 8 underlying76 hi cy dh db rfl od _ k (i64s (Wo 0 (l.take k))) rfl (bb _ _) ⟨wr.heap.size+1,0,vn⟩ 1 1 [so vh L] rfl rfl (λj u cw=>Rm (Vr oS) cw) (Df rfl) ou om oO ?_);intro v' w3 b8 a8 _ _;(have H:w3.heap[wr.heap.size]? =vp (vl #[vb nm,va fa bl fc,so vh st,so vh nd,ve gn,so vj mt,va pa pl pc,so vj cr] 71 (0,0)):=by refine(a8.block _ oO (λe=> ?_)).trans ((heap_alloc_old _ _ oS).trans (B2 wr _));have:=(E.p.lt _ e.symm).2;omega);have b5:=Ab ((af _ _).app a8 (by rw[Aa c5];exact b8));have e0:=Ac (i:=0) H;have ar:=Ac (i:=1) H;have e2:=Ac (i:=2) H;have e3:=Ac (i:=3) H;have cg:=Ac (i:=4) H;have b4:=Ac (i:=5) H;have bv:=Ac (i:=6) H;have bu:=Ac (i:=7) H;simp only[WF,VW,WI]at e0 ar e2 e3 cg b4 bv bu;clear b8 a8 H c0 c1 c2 ai ak ao aa al d0 ae ct bb;go_wp2_with fail;refine(G w3 ⟨_,_,b5⟩).mono ?_;rintro e bf ⟨rfl,I⟩;have a6:vz (AS w w.heap.size w.heap.size (Au (l.take (k+1))) v' (Wo 0 (l.take (k+1))) bf):=Ab (by rw[Aa a5,AB,II,VY,Aa a3];exact b5.up I);clear I e0 ar e2 e3 cg b4 bv bu;go_wp2;go_roundw;exact⟨k+1,om,by go_num,a6⟩;simp[vy];omega
 . obtain rfl:n=k:=om;have bc:l.take n=l:=VQ qAP;rw[bc]at E;have a7:=Ab bc;clear bc;obtain⟨ov,F⟩:=E.z;obtain⟨d0,ae⟩:=F.new;obtain⟨cq,bn,rfl⟩:=Am F.own;have a4:=Aa aj n;rw[Aa a7]at a4;obtain⟨L,ac⟩:=exq ((Au l).length);rw[ac]at d0 a4;have a3:=Ab ac;clear F ac;go_wp2;go_loopw [8,9,37] (λ_ _ i wr=>∃k:Nat,k<=n/\i=so vh k/\vz (AS w w.heap.size w.heap.size (Au l++Ao 0 (l.take k)) u4 (Wo 0 l) wr)) (λ_ _ i _=>n-(vy i).toNat);exact⟨0,VF _,rfl,Ab (by simpa[Ao]using Aa E)⟩;clear d0 ae E aw;obtain⟨k,ba,rfl,E⟩:=hrel;by_cases aw:k<n;(. obtain⟨x,U,Z⟩:=bU;obtain⟨b,o,rfl,hb,c0,c1,c2,ai,ak,ao,aa,al⟩:=ax.get E.below U;have ag:=Aa bw k x U;have bg:=Ab (ax.all x Z);have ap:=Aa cj x Z;obtain⟨P,ce⟩:=exq ((Au (l.take k)).length);have dc:=Aa aj k;rw[ce]at dc;have ci:=Ab ce;have G:=Ab (λ(W:wd) (O:AS w w.heap.size w.heap.size (Au l++Ao 0 (l.take k)) u4 (Wo 0 l) W)=>Z3e w.heap.size w.heap.size P x (Au l++Ao 0 (l.take k)) W O.z ap om (by rw[VB];have bm:=Aa aj n;have av:=Aa cm k;rw[VQ qAP]at bm;omega));unfold Ev.val at G;have a5:=Ab (Ht ag);obtain⟨x,fa,fc,pa,pc⟩:=x;obtain⟨⟨nml,bys,st,nd,gn⟩,mt,pk,cr⟩:=x;dsimp only at c0 c1 c2 ai ak ao aa al G;generalize B nml=nm at c0 G;generalize bys.length=bl at c1 G;generalize pk.length=pl at aa G;clear U Z ag ap;(have b0:(Wo 0 l).length=n:=by rw[DS,Aa ed]);have az:=E.p;rw[b0]at az;obtain⟨a9,cu,da,dj,de⟩:=Ax az om;subst da;(have cp:wr.cell? ⟨a9,k,vn⟩=vp (so vh P):=by rw[az.cellAt k om,<-Aa ci];have:=Z76 l 0 k (by rw[Aa ed];exact aw);rw[VY]at this;have bq:k<(Wo 0 l).length:=om;simp[List.getD,bq]at this;simp[i64s,bq,this]);have df:∀o1:Obj,(wr.alloc o1).cell? ⟨a9,k,vn⟩=vp (so vh P):=λo1=>(U0 wr o1 _ de).trans cp;have af:=Ab (λo1:Obj=>E.later ((A2 _ _).alloc (VA _) o1));clear az b0 dj;go_wp2;go_region_with (go_at_call 56;refine(G _ ((af _).later (Ae (A2 _ _) _))).mono ?_;rintro e bf ⟨rfl,I⟩);all_goals (have a6:vz (AS w w.heap.size w.heap.size (Au l++Ao 0 (l.take (k+1))) (va (vp ⟨a9,0,vn⟩) n cu) (Wo 0 l) bf):=Ab (by rw[Aa a5,Xv,Aa ci,<-VO];exact((af _).later (Ae (A2 _ _) _)).up I);clear I c0 c1 c2 ai ak ao aa al cp df;go_wp2;go_roundw;exact⟨k+1,om,by go_num,a6⟩;simp[vy];omega));. obtain rfl:n=k:=om;rw[Aa a7]at E;have bz:=Aa cm n;rw[Aa a7]at bz;obtain⟨ov,F⟩:=E.z;obtain⟨d0,ae⟩:=F.new;obtain⟨dl,dn,rfl⟩:=Am F.own;obtain⟨T,au⟩:=exq ((Ao 0 l).length);(have bd:(Au l++Ao 0 l).length=L+T:=by rw[VB,Aa a3,au]);rw[bd]at d0;rw[au]at bz;have c9:=Ab au;have cd:((L:Int)+T-(L:Int))=(T:Int):=om;have di:vz (vu v8 57 #[vc (vp ⟨w.heap.size,0,vn⟩),so vh n,so vh ((L:Int)+T-(L:Int)),so vh L] wr λe w'=>e=vm (vd #[])/\H5 w.heap.size wr w.heap.size (Au l++Ao 0 l++Sa n T L) w'):=Ab (by rw[cd];exact Z3h w.heap.size w.heap.size n T L (Au l++Ao 0 l) wr E.z om om om (by rw[bd];omega));clear F au bd cd;go_wp2_with fail;refine di.mono ?_;rintro e dq ⟨rfl,I⟩;have bk:=E.up I;obtain⟨ov,F⟩:=bk.z;(have bo:Ba l=Au l++Ao 0 l++Sa n T L:=by unfold Ba;rw[Aa ed,Aa c9,Aa a3]);have c7:=Ab bo;clear d0 ae I bo;obtain⟨d0,ae⟩:=F.new;have b9:=Ab (And.intro F.own bk.below);clear F bk;go_wp2;go_ret;exact⟨_,rfl,by rw[Aa c7];exact b9.1,b9.2⟩
theorem FsIn.new(w:wd)(xs:List Fv)(t:TypeId)(A:Array vt)(n:Nat)(H:A=(fcells xs).toArray)(O:xs.length=n)(h:∀x∈xs,FvIn w x)(F:xs.length<=2199023255552):FsIn (w.alloc (vl A t)) (vp ⟨w.heap.size,0,vn⟩) n xs:=by subst O;refine⟨.inr ⟨w.heap.size,0,rfl,oS,?_⟩,VA _,om,F,λx I=>(h x I).alloc _⟩;intro j x E;(have hc:∀i u,i<5->x.cells[i]? =vp u->(w.alloc (vl A t)).cell? ⟨w.heap.size,0+j*5+i,vn⟩=vp u:=by intro i u hi G;rw[N0 _ _ _ _ rfl,H];have e:=Kk xs j x i E hi;rw[VY];simpa using e.trans G);exact zR
theorem FvIn.bare(w:wd)(f:Fl)(E:f.bytes= [])(F:f.name.length<=140737488355328):FvIn w ⟨f,vn,0⟩:=⟨.inl ⟨rfl,E,rfl⟩,by rw[E];simp,F⟩
def LIn(w:wd)(v:vt)(l:List Fl):Prop:=∃ad c out,v=va ad l.length c/\FsIn w ad c out/\fls out=l
theorem T5.lin{l:List Fl}(h:T5 w w' v l):LIn w' v l:=h.ex
theorem LIn.below{l:List Fl}(h:LIn w v l)(H:vx w.heap.size w w'):LIn w' v l:=by obtain⟨ad,c,out,E,F,G⟩:=h;exact⟨ad,c,out,E,F.below H (VA _),G⟩
theorem LIn.shape{l:List Fl}(h:LIn w v l):∃ad c,v=va ad l.length c:=by obtain⟨ad,c,out,E,_⟩:=h;exact⟨ad,c,E⟩
theorem Mc{l:List Fl}(h:fls out=l):out.length=l.length:=by rw[<-h];simp[fls]
theorem Z7d{xs:List Fv}(h:FsIn w ah c xs)(E:xs.length=n):LIn w (va ah n c) (fls xs):=⟨ah,c,xs,by rw[<-E];simp[fls],h,rfl⟩
def LO(w:wd)(bs:List Nat)(e:Ending)(w':wd):Prop:=∃v,e=vm (vd #[v,so vh (readE bs:Nat)])/\LIn w' v (readL bs)/\vx w.heap.size w w'
theorem LIn.nil(w:wd):LIn w (va vn 0 0) []:=⟨vn,0,[],rfl,FsIn.nil w,rfl⟩
theorem LO.bad(h:readE bs=k)(E:k≠0)(F:vx w.heap.size w w'):LO w bs (vm (vd #[va vn 0 0,so vh k])) w':=by(have hl:readL bs= []:=by unfold readL;rw[A1 (by rw[h];exact E)]);exact⟨va vn 0 0,by rw[h],by rw[hl];exact LIn.nil _,F⟩
theorem JQ(E:List Ev):fls (E.map Ev.fv)=(E.map Ev.e).map En.f:=by simp[fls,Ev.fv,ZM]
theorem QE(n au:Nat)(a:Option vw)(bs:List Nat)(w:wd)(aa:bs.length=n)(cw:n<=au)(ao:PkIn w a au bs)(ap:∀x∈bs,x<256)(dv:n<=9223372036854775807)(Z:Zct bs):vu v8 14 #[va a n au] w λe w'=>LO w bs e w':=by
 by_cases hn:12000<n;. have O:=Ab (LO.bad (w:=w) (w':=w) (bs:=bs) (k:=2) (by unfold readE;rw[A1 om]) od (A2 _ _));have cz:(12000:Int)<n:=om;clear ao ap aa Z;go_enter func14,ntmps14;go_wp2;go_ret2;exact O
 . have G:readE bs=match Cd (n+1) bs with
    |none=>7
    |some l=>if errM (l.map En.f)≠0\/Ba l≠bs then 7 else if sumsF l=vq then 10 else 0:=by
    conv=>lhs;unfold readE
    rw[A0 om,aa]
    cases Cd (n+1) bs<;>rfl
   (have H:readL bs=if readE bs≠0 then []else ((Cd (n+1) bs).getD []).map En.f:=by unfold readL;rw[aa]);have cz:¬(12000:Int)<n:=om;obtain⟨co,dt,bm,bi,b0,ba⟩:=WW (G5 aa om cw ao ap Z) ao ap G H aa;clear ao ap G H aa Z;go_enter func14,ntmps14;go_wp2_with fail;refine co.mono ?_;rintro e dc ⟨af,(⟨F,rfl⟩|⟨v,es,F,rfl,cj,_⟩)⟩;. have O:=Ab (LO.bad (w:=w) (w':=dc) (bs:=bs) (k:=7) (by rw[Aa bi,F]) od af);clear af F;go_wp2;go_ret2;exact O
   . obtain⟨ad,c,rfl,bc⟩:=cj.entries;obtain⟨cg,bk⟩:=Ux bm F;have bh:=Uw F bm;have G:=Aa bi;rw[F]at G;dsimp only at G;have H:=Aa b0;rw[F]at H;obtain⟨l,ar⟩:=exq (es.map Ev.e);obtain⟨k,ac⟩:=exq (es.length);(have cu:l.length=k:=by rw[<-ar];simpa using ac);rw[ar]at bk G H F cg bh;have de:=Ab bh;rw[ac];(have cp:k<=20000:=by have:=Aa ba;omega);obtain⟨cd,ck,U,I,c9,bj,dj,ci⟩:=T6 (EZ bc ac cp) bc ar ac bk G H af;clear af cj bc cg bk G H F ar ac cu bh co bi b0;go_wp2_with fail;refine cd.mono ?_;rintro e d6 ⟨v2,rfl,bq,a6⟩;obtain⟨ak,c2,rfl,a4⟩:=bq.files (by rw[Aa I];omega);rw[Aa I];have a7:=Ab (Jf a4 k (by simpa using Aa I));obtain⟨E,ai⟩:=exq (errM (fls (es.map Ev.fv)));rw[ai]at a7;rw[JQ,Aa U]at ai;have ds:=Ab ai;have dm:=Ab a4;have dh:=ci.size;have b8:=Ab (ci.trans (a6.mono dh));have ce:=Ab a6;clear bq a4 a6 ai cd;go_wp2_with fail;refine a7.mono ?_;rintro e w3 ⟨rfl,ag⟩;have c6:=b8.size;obtain⟨al,ax,bv⟩:=Bq (b8.trans (ag.mono c6)) (ce.trans (ag.mono ce.size)) ag;clear ag a7;by_cases d5:E=0
     . subst d5;have a3:=Hf ds;(have a8:∀x∈es,HY x.e:=λx az=>by(have bw:x.e∈l:=by rw[<-Aa U];exact WZ az);have bg:=Aa c9 x.e bw;have dy:=Oi (a3.2 x.e.f (WZ bw));have du:=Aa ba;have dz:=bg.pl;exact⟨⟨om,om⟩,⟨om,om⟩,om,om,om,bg.cr,bg.mt⟩);(have dl:k<=12:=by have:=a3.1;rw[<-Aa U]at this;simpa[Aa I]using this);have a5:=Ab (Vu (ck.below ax) I dl a8);rw[Aa U]at a5;have cq:vz (∀x∈es,x.e.f.bytes.length<=12000):=Ab (λx az=>by have:=(a8 x az).bl;omega);have di:vz (∀y∈Ba l,y<256):=Ab (Se l de);clear a3 a8;go_wp2_with fail;refine a5.mono ?_;rintro e c5 ⟨v4,rfl,bo,ae⟩;obtain⟨c7,da,rfl,cm,db,ct,dn⟩:=Tu bo;have b5:=Ab ((dt.below al).below ae);have cv:=al.size;obtain⟨bb,c8,dq,ah⟩:=Do (al.trans (ae.mono cv)) (ax.trans (ae.mono ax.size)) (bv.trans (ae.mono bv.size)) (Vt c7 a _ da n au (Ba l) bs c5 rfl ba (Cq di) (Cq bm) cm.1 b5.1);obtain⟨dw,av⟩:=exq ((Ba l).length);obtain⟨df,bf⟩:=exq ((Ba l==bs));rw[av,bf]at ah;rw[av];have b7:=Ab bf;clear bo ae cm db ct dn av bf a5 b5;go_wp2_with fail;refine ah.mono ?_;rintro e dr ⟨rfl,rfl⟩
       cases df with
       |false=>(have bn:Ba l≠bs:=by have:=Aa b7;rw[HH]at this;exact this);have O:=Ab (LO.bad (w:=w) (w':=dr) (bs:=bs) (k:=7) (by rw[Aa bj,A1 (.inr bn)]) od bb);clear bn ah;go_wp2;go_ret2;exact O
       |true=>
        have b9:Ba l=bs:=eq_of_beq b7;have ay:=Aa bj;rw[A0 (by rintro (h|h);exact h (Aa ds);exact h b9)]at ay;have bu:=Ab ay;obtain⟨S,Z⟩:=exq (sumsF l);have a9:=Ab (Q1 (ck.below c8) I cp cq S (by rw[Aa U];exact Z));have cn:=Ab Z;clear b9 ay Z ah;go_wp2_with fail;refine a9.mono ?_;rintro e w6 ⟨rfl,aj⟩;have cy:=bb.size;have bz:=Ab (bb.trans (aj.mono cy))
        cases S with
        |false=>have O:=Ab (LO.bad (w:=w) (w':=w6) (bs:=bs) (k:=10) (by rw[Aa bu,A1 (Aa cn)]) od bz);clear aj a9;go_wp2;go_ret2;exact O
        |true=>(have bd:readE bs=0:=by rw[Aa bu,A0 (by rw[Aa cn];decide)]);(have aw:readL bs=l.map En.f:=by have:=Aa dj;rw[A0 (by rw[bd];decide)]at this;exact this);have b4:FsIn w6 ak c2 (es.map Ev.fv):=(dm.below dq (VA _)).below (aj.mono om) (VA _);have O:vz (LO w bs (vm (vd #[va ak k c2,so vh 0])) w6):=Ab ⟨va ak k c2,by rw[bd];rfl,⟨ak,c2,es.map Ev.fv,by rw[aw,<-Aa U];simp[Aa I],b4,by rw[JQ,Aa U,aw]⟩,bz⟩;clear aj a9 bd aw b4;go_wp2;go_ret2;exact O
     have O:=Ab (LO.bad (w:=w) (w':=w3) (bs:=bs) (k:=7) (by rw[Aa bj,A1 (.inl qBX)]) od al);exact kC
def WrA(w:wd)(fs:List Fl)(e:Ending)(w':wd):Prop:=
 vx w.heap.size w w'/\((errM fs≠0/\e=vm (vd #[va vn 0 0,so vh (errM fs:Nat)]))\/ (errM fs=0/\∃l:List En,l.map En.f=fs/\(∀x∈l,K0 x)/\((12000<(Ba l).length/\e=vm (vd #[va vn 0 0,so vh 11]))\/ ((Ba l).length<=12000/\∃a c,e=vm (vd #[va a (Ba l).length c,so vh 0])/\(Ba l).length<=c/\PkIn w' a c (Ba l)))))
theorem MD{xs:List Ev}(h:ERow w ac v xs)(Z:v.ownBlock=vp g)(I:xs≠ []):∃s,w.cell? ⟨g,0,vn⟩=vp (vb s):=by
 obtain⟨ad,c,rfl,H⟩:=h.entries
 cases xs with
 |nil=>exact absurd rfl I
 |cons x r=>rcases H.at_ with E|⟨b,o,rfl,hb,F⟩;(. cases E);. have U:=F 0 x rfl 0 od;have G:=Ax h.own oS;obtain⟨aa,cap,O,_⟩:=G;cases O;cases Z;have E:w.cell? ⟨b,0+0*8+0,vn⟩=vp (vb (B x.e.f.name)):=U;exact⟨_,E⟩
theorem K0.num{x:En}(h:K0 x)(ae:Lg x.f=0):HY x/\∀y∈x.pk,y<256:=by obtain⟨U,I,aa,O,Z,G⟩:=Oi ae;(have H:x.crc<4294967296:=by rw[h.cr];exact FI (Kb _) od);obtain⟨out,ac,(⟨af,F,E⟩|⟨af,F,E⟩)⟩:=h.pk;exact⟨⟨⟨aa,O⟩,⟨Z,G⟩,U,I,by rw[E];omega,H,by rw[F];decide⟩,by rw[E];exact F9 ac.val⟩;exact⟨⟨⟨aa,O⟩,⟨Z,G⟩,U,I,by rw[E,Cf];omega,H,by rw[F];decide⟩,by rw[E];exact Kb _⟩
theorem KU(c n:Nat){xs:List Fv}(h:FsIn w ah c xs)(bb:xs.length=n)(bi:Zdq (fls xs)):vu v8 7 #[va ah n c] w λe w'=>WrA w (fls xs) e w':=by
 have ba:=Ab (Jf h n bb);obtain⟨E,a7⟩:=exq (errM (fls xs));rw[a7]at ba;have bv:=Ab h;have cz:=Ab bi;clear bi;have bf:=Ab bb;have aj:=Ab a7;clear h bb a7;go_enter func7,ntmps7;go_wp2_with fail;refine ba.mono ?_;rintro e dt ⟨rfl,ao⟩;by_cases a4:E=0
 . subst a4;have ay:=Hf aj;(have c9:n<=12:=by have ck:=ay.1;have b0:=Aa bf;simp[fls]at ck;omega);have bg:∀x∈xs,Lg x.f=0:=λx F=>ay.2 x.f (WZ F);have ax:=Ab bg;have dq:=Ab ao;clear ao ay bg ba;go_wp2;go_loopw [5,7,16] (λco _ i wr=>∃(k:Nat) (es:List Ev),k<=n/\i=so vh k/\vz (ERow wr w.heap.size co es/\es.map (λy=>y.e.f)=(fls xs).take k/\(∀y∈es,K0 y.e)/\(es= []->co=va vn 0 0))/\vz (vx w.heap.size w wr)) (λ_ _ i _=>n-(vy i).toNat);exact⟨0,[],VF _,rfl,Ab ⟨ERow.nil _ _,oS,(λy a8=>absurd a8 WS),λ_=>rfl⟩,dq⟩;obtain⟨k,es,d7,rfl,ag,al⟩:=hrel;(have ak:es.length=k:=by have:=congrArg List.length ag.2.1;have b0:=Aa bf;simp[fls]at this;omega);by_cases aw:k<n
   . obtain⟨x,F,ai⟩:=qBO;obtain⟨b,o,rfl,hb,c0,c1,c2,a9,ac⟩:=bv.get al F;have G:=al.size;have a6:=bv.all x ai;have H:=Ab (λ(W:wd) (dv:vx w.heap.size w W)=>FD (a6.below dv (VA _)) (oI (Oi (ax x ai))) (cz x.f (WZ ai) (oI (Oi (ax x ai)))));have bm:(fls xs).take (k+1)=(fls xs).take k++ [x.f]:=Ht (by simp[fls,F]);(have cm:∀g o,x.a=vp ⟨g,o,vn⟩->x.f.bytes≠ []->g<w.heap.size:=λg o I e2=>by have:=C7 (Z2k a6.bs) g o I (λe=>e2 (by rw[<-MT x.f.bytes,e];rfl));exact this);have dz:=Ab cm;have de:=Ab bm;rw[Db]at H;unfold Fv.sl at c1;clear F ai a6 bm cm;have df:=Ab ak;have bk:∀o1:Obj,vx w.heap.size w (wr.alloc o1):=λo1=>al.alloc G o1;have bo:=Ab bk;have dc:=Ab (λo1:Obj=>ag.1.below ((A2 wr.heap.size wr).alloc (VA _) o1));obtain⟨aa,cg,ee⟩:=x;dsimp only at c0 c1 c2 a9 ac;have ds:=H;clear bk ak;generalize cy:B aa.name=nm at c0 H;generalize dj:aa.bytes.length=bl at c1 H;generalize c8:aa.stamp=st at c2 H;generalize dy:aa.node=nd at a9 H;generalize cu:aa.gone=gn at ac H;clear cy dj c8 dy cu ds;go_wp2_with fail;refine(H _ (bo _)).mono ?_;rintro e U ⟨y,rfl,ae,ce,au,a3,ap,ci⟩;replace ae:y.e.f=aa:=ae;replace ap:y.fa=cg:=ap;have li:=(bo _).trans (a3.mono oO);have Z:=(dc _).below a3;(have bu:y.lies (λg=>vp g≠u5.ownBlock):=by(have hold:∀g o,cg=vp ⟨g,o,vn⟩->aa.bytes≠ []->vp g≠u5.ownBlock:=λg o I e2 e3=>by have ck:=Aa dz g o I e2;have b0:=(Z.own.lt g e3.symm).1;omega);constructor;intro g o I e2;exact hold g o (ap.symm.trans I) (by rw[<-ae];exact e2);. intro g o I e2;(rcases ci g o I e2 with ⟨b7,bh⟩|rfl);exact hold g o b7 (by rw[<-ae];exact bh);. intro e3;(have cp:es≠ []:=by intro dr;rw[(Aa ag).2.2.2 dr]at e3;cases e3);obtain⟨s,dh⟩:=MD Z e3.symm cp;rcases au.pk.1 with db|⟨d6,d9,bz,ed,du⟩;exact e2 db;. rw[I]at bz;cases bz;have:=du 0 (List.length_pos_iff.2 e2);rw[VY,dh]at this;cases this);obtain⟨b4,di,c7,dn,d5⟩:=HF (λo1:Obj=>Z.below ((A2 U.heap.size U).alloc (VA _) o1)) (λo1:Obj=>au.below ((A2 U.heap.size U).alloc (VA _) o1)) bu ce ae;have dm:=li.size;have dw:=Ab (λo1:Obj=>li.alloc dm o1);(have ct:es.length+1<=100000:=by rw[Aa df];omega);have da:vz (∀o1,o1=vl y.cells.toArray 71->∀j u,y.cells[j]? =vp u->(U.alloc o1).cell? ⟨U.heap.size,j,vn⟩=vp u):=Ab (λo1 e j u cw=>by subst e;rw[Ac (B2 U _)];simpa using cw);clear a3 li Z bu au ce ae ap ci H c0 c1 c2 a9 ac;unfold Ev.val;go_wp2_with (at_builtin;refine Gg _ rfl _ _ rfl w.heap.size _ es rfl (b4 _) U.heap.size y rfl (da _ rfl) (di _) c7 ct oO ?_);intro v' w3 bd bj
     have cv:vz (ERow w3 w.heap.size v' (es++ [y])/\(es++ [y]).map (λy=>y.e.f)=(fls xs).take (k+1)/\(∀z∈es++ [y],K0 z.e)/\(es++ [y]= []->v'=va vn 0 0)):=Ab (by
      refine⟨bd,?_,λz G=> ?_,λe=>by simp at e⟩
      . rw[XC,(Aa ag).2.1,Aa de]
        simp[Aa d5]
      . rcases WG.1 G with G|G
        . exact ag.2.2.1 z G
        . rw[WR.1 G];exact Aa dn)
     have c6:vz (vx w.heap.size w w3):=Ab ((dw _).grown (Aa bj) oO (λg e=>((b4 (vl y.cells.toArray 71)).own.lt g e).1));clear bd bj;go_wp2;go_roundw;exact⟨k+1,es++ [y],om,by go_num,cv,c6⟩;simp[vy];omega
   . obtain rfl:n=k:=om;obtain⟨Z,a5,bc,_⟩:=Aa ag;have bq:(fls xs).take n=fls xs:=VQ (by simp[fls,Aa bf]);rw[bq]at a5;obtain⟨eb,c2,cd,b9⟩:=Z.entries;rw[ak]at cd;subst cd;obtain⟨l,af⟩:=exq (es.map Ev.e);(have av:l.map En.f=fls xs:=by rw[<-af,List.map_map];exact a5);(have az:∀x∈l,K0 x:=by rw[<-af];intro x F;obtain⟨y,a8,rfl⟩:=WU.1 F;exact bc y a8);(have cj:∀x∈l,Lg x.f=0:=λx F=>by(have:x.f∈fls xs:=by rw[<-av];exact WZ F);obtain⟨z,G,dl⟩:=WU.1 this;rw[<-dl];exact ax z G);have cn:∀x∈es,HY x.e:=λx F=>((az x.e (by rw[<-af];exact WZ F)).num (cj x.e (by rw[<-af];exact WZ F))).1;have pp:=Ab (Vu b9 ak c9 cn);rw[af]at pp;have b5:=Ab av;have bn:=Ab az;clear Z a5 bc bq b9 af av az cj cn ak;go_wp2_with fail;refine pp.mono ?_;rintro e bw ⟨v4,rfl,iy,li⟩;obtain⟨b8,ac,rfl,b7,bh,cq,i3⟩:=Tu iy;have p6:=al.trans (li.mono al.size);obtain⟨ar,ki⟩:=exq ((Ba l).length);rw[ki]at bh;rw[ki];by_cases qx:12000<ar;have O:vz (WrA w (fls xs) (vm (vd #[va vn 0 0,so vh 11])) bw):=Ab ⟨p6,.inr ⟨aj,l,b5,bn,.inl ⟨by rw[ki];exact qx,rfl⟩⟩⟩;have c5:(12000:Int)<ar:=om;exact yY;have O:vz (WrA w (fls xs) (vm (vd #[va b8 ar ac,so vh 0])) bw):=Ab ⟨p6,.inr ⟨aj,l,b5,bn,.inr ⟨by rw[ki];omega,b8,ac,by rw[ki],by rw[ki];exact bh,b7⟩⟩⟩;have c5:¬(12000:Int)<ar:=om;exact yY
 . have O:vz (WrA w (fls xs) (vm (vd #[va vn 0 0,so vh E])) dt):=Ab ⟨ao,.inl ⟨by rw[Aa aj];exact a4,by rw[Aa aj]⟩⟩;have h9:=bZ;have d8:=bY;clear ao a4;go_wp2;go_ret2;exact O
theorem Sf:∀(l:List En),(Ba l).length=22+(Au l).length+(Ao 0 l).length:=λl=>by
 unfold Ba
 rw[VB,VB,G7]
 omega
def T2(c x k:Nat):Nat:=Jn k (c^^^x%2^k)
theorem Z20(c x:Nat):T2 c x 0=c:=by simp[T2,Jn,Nat.mod_one]
theorem Z21(c x k:Nat):T2 c x (k+1)=I4 (T2 c x k^^^x/2^k%2):=Z0g c x k
theorem Z6f{x:Nat}(U:x<256):T2 c x 8=W7 c x:=by unfold T2 W7;rw[ZU uT]
theorem Za4{x:Nat}(k:Nat)(E:c<4294967296)(F:x<256):T2 c x k<4294967296:=by unfold T2;refine Ud k (ZY (n:=32) E ?_);have:=Nat.mod_le x (2^k);omega
theorem Zdy{x:Nat}(F:m<4294967296)(G:x<256)(H:j<8):bits .xor vj (bits .and vj (m:Int) 1) (bits .and vi ((x:Int)/2^j) 1%4294967296)=(((m%2^^^x/2^j%2):Nat):Int):=by have E:bits .and vi ((x/2^j:Nat):Int) ((1:Nat):Int)=((x/2^j&&&1:Nat):Int):=u8_and_nat _ _ (UJ (YW _ _) G) od;rw[Nat.and_one_is_mod]at E;have e:((x/2^j:Nat):Int)=(x:Int)/2^j:=sW;rw[e]at E;rw[Zdo F,show (1:Int)=((1:Nat):Int) from rfl,E,show (((x/2^j%2:Nat):Int))%4294967296=((x/2^j%2:Nat):Int) by omega];exact u32_xor_nat _ _ om om
theorem BI(p:Nat)(a:Option vw)(n ah:Nat)(bs:List Nat)(w:wd)(Z:bs.length=n)(ar:n<=12000)(O:p<4294967296)(U:BytesIn w a bs)(ac:∀j,bs.getD j 0<256):vu v8 12 #[so vj p,va a n ah] w λe w'=>e=vm (so vj (crcN p bs:Nat))/\w'=w:=by obtain⟨ag,ae,ay⟩:=Bq U ac Z;clear U ac Z;go_enter func12,ntmps12;go_wp2;rw[Zcq O];go_loop [5,14] (λr i=>∃k:Nat,k<=n/\i=so vh k/\r=so vj (Vh (p^^^4294967295) (bs.take k):Nat)) (λ_ i=>n-(vy i).toNat);exact⟨0,om,rfl,rfl⟩;obtain⟨k,ap,rfl,rfl⟩:=hrel;have hr:Vh (p^^^4294967295) (bs.take k)<4294967296:=Vf _ _ (λy aj=>by obtain⟨i,hi,rfl⟩:=XP aj;have:=Aa ae i;rw[VL]at hi;rw[YV];rw[List.getD,VP om]at this;exact this) (HU O);by_cases aw:k<n;(. have k8:=nG;obtain⟨b,o,rfl,hb,hc⟩:=KF ag k8;have F:=Aa ae k;have ai:=fK;generalize Vh (p^^^4294967295) (bs.take k)=r at*;generalize bs.getD k 0=x at*;clear k8;go_wp2;go_loop [5,18] (λr1 i=>∃j:Nat,j<=8/\i=so vh j/\r1=so vj (T2 r x j:Nat)) (λ_ i=>8-(vy i).toNat);exact⟨0,om,rfl,by rw[Z20]⟩;obtain⟨j,au,rfl,rfl⟩:=hrel;by_cases I:j<8;(. have aa:=Ab (Z21 r x j);have hm:=Za4 j hr F;generalize T2 r x j=m at*;by_cases E:(m%2^^^x/2^j%2)=1;(. (have G:(bits .xor vj (bits .and vj (m:Int) 1) (bits .and vi ((x:Int)/2^j) 1%4294967296)==1)=true:=by rw[Zdy hm F I,E];rfl);have H:vz (I4 (m^^^x/2^j%2)=m/2^^^3988292384):=Ab (by rw[Z0h _ _ (UH _ od),A1 E]);have ao:=Ab (Zdt hm);clear E;go_wp2;go_round;exact⟨j+1,om,by go_num,by rw[Aa aa,Aa H,Aa ao]⟩;simp[vy];omega);. have G:=Zdy hm F I;have af:((((m%2^^^x/2^j%2):Nat):Int)==1)=false:=sV;rw[<-G]at af;have H:vz (I4 (m^^^x/2^j%2)=m/2):=Ab (by rw[Z0h _ _ (UH _ od),A0 E]);clear E G;go_wp2;go_round;exact⟨j+1,om,by go_num,by rw[Aa aa,Aa H];rfl⟩;simp[vy];omega);. obtain rfl:j=8:=om;go_wp2;go_round;exact⟨k+1,om,by go_num,by rw[Aa ai,Z6f F]⟩;simp[vy];omega);. have e:k=n:=om;subst e;have al:=gE;have ak:=Ab (Zcq hr);clear hr;go_wp2;go_ret;exact⟨by rw[Aa ak,Aa al];rfl,rfl⟩
def Zb2:Go.Shelf.Ren:=⟨fun|160=>59|232=>83|231=>82|227=>84|234=>86|233=>85|236=>88|235=>87|228=>116|271=>119|151=>118|197=>117|120=>157|152=>156|260=>155|137=>191|119=>192|224=>189|225=>188|217=>187|266=>214|n=>n,fun|9=>9|4=>4|3=>3|5=>5|117=>143|116=>142|0=>0|124=>146|21=>21|105=>183|46=>66|119=>261|139=>264|138=>263|n=>n,fun|3=>1|4=>2|n=>n⟩
theorem Z81:Go.Proofs.Lays.n160 v8 Zb2:= {
 mixed:=oR
 f119:=Tryz.func192.trans (congrArg vp oR)
 f120:=Tryz.func157.trans (congrArg vp oR)
 f137:=Tryz.func191.trans (congrArg vp oR)
 f151:=Tryz.func118.trans (congrArg vp oR)
 f152:=Tryz.func156.trans (congrArg vp oR)
 f160:=Tryz.func59.trans (congrArg vp oR)
 f197:=Tryz.func117.trans (congrArg vp oR)
 f217:=Tryz.func187.trans (congrArg vp oR)
 f224:=Tryz.func189.trans (congrArg vp oR)
 f225:=Tryz.func188.trans (congrArg vp oR)
 f227:=Tryz.func84.trans (congrArg vp oR)
 f228:=Tryz.func116.trans (congrArg vp oR)
 f231:=Tryz.func82.trans (congrArg vp oR)
 f232:=Tryz.func83.trans (congrArg vp oR)
 f233:=Tryz.func85.trans (congrArg vp oR)
 f234:=Tryz.func86.trans (congrArg vp oR)
 f235:=Tryz.func87.trans (congrArg vp oR)
 f236:=Tryz.func88.trans (congrArg vp oR)
 f260:=Tryz.func155.trans (congrArg vp oR)
 f266:=Tryz.func214.trans (congrArg vp oR)
 f271:=Tryz.func119.trans (congrArg vp oR)
 t0:=underlying0
 a0:=Tryz.isAgg0
 z0:=Tryz.sizeOf0
 v0:=Tryz.zeroValue0
 t3:=underlying3
 a3:=Tryz.isAgg3
 z3:=Tryz.sizeOf3
 v3:=Tryz.zeroValue3
 t4:=underlying4
 a4:=Tryz.isAgg4
 z4:=Tryz.sizeOf4
 v4:=Tryz.zeroValue4
 t5:=underlying5
 a5:=Tryz.isAgg5
 z5:=Tryz.sizeOf5
 v5:=Tryz.zeroValue5
 t9:=underlying9
 a9:=Tryz.isAgg9
 z9:=Tryz.sizeOf9
 v9:=Tryz.zeroValue9
 t21:=underlying21
 a21:=Tryz.isAgg21
 z21:=Tryz.sizeOf21
 v21:=Tryz.zeroValue21
 t46:=underlying66
 a46:=Tryz.isAgg66
 z46:=Tryz.sizeOf66
 v46:=Tryz.zeroValue66
 t105:=underlying183
 a105:=Tryz.isAgg183
 z105:=Tryz.sizeOf183
 v105:=Tryz.zeroValue183
 t116:=underlying142
 a116:=Tryz.isAgg142
 z116:=Tryz.sizeOf142
 t117:=underlying143
 a117:=Tryz.isAgg143
 z117:=Tryz.sizeOf143
 v117:=Tryz.zeroValue143
 t119:=underlying261
 a119:=Tryz.isAgg261
 z119:=Tryz.sizeOf261
 t124:=underlying146
 a124:=Tryz.isAgg146
 z124:=Tryz.sizeOf146
 v124:=Tryz.zeroValue146
 t138:=underlying263
 a138:=Tryz.isAgg263
 z138:=Tryz.sizeOf263
 v138:=Tryz.zeroValue263
 t139:=underlying264
 a139:=Tryz.isAgg264
 z139:=Tryz.sizeOf264
 v139:=Tryz.zeroValue264
 g3:=oR
 g4:=oR}
theorem RI:(Tryz.prog.info? 142).map (λi=>(i.zero,i.size))=vp (vp (vf (Array.replicate 256 (ve vq))),256):=oR
theorem trimS(p:List UInt8)(w:wd)(E:p.length<=maxLen):
 vu v8 59 #[vb (B p),vb (B Ic)] w λe w'=>e=vm (vb (B (Lib.trimS p Ic)))/\vx w.heap.size w w':=
 Any.strings_Trim_laid Z81 RI (B p) (B Ic) w (by rw[Jp];exact E) od (ascii_of_all (l:=Ic) od)
theorem Z4y{p:List UInt8}(G:p≠ [])(E:p≠ [46])(F:p≠ [46,46]):I2 p=vr↔Lib.trimS p Ic= []:=by rw[Z3w];simp[I2,G,E,F]
theorem MM(s:List UInt8)(w:wd)(af:s.length<=maxLen):vu v8 37 #[vb (B s)] w λe w'=>∃v,e=vm (vd #[v,so vh (Ln s:Nat)])/\SRow w' w.heap.size v (aL s)/\vx w.heap.size w w'/\(Ln s≠0->v=va vn 0 0):=by
 have j9:=Jp s;unfold maxLen at af;by_cases ac:40<s.length;. have aa:=Ab (BB ac);have a7:40<(B s).size:=tG;have a8:(B s).size<=9223372036854775807:=tG;clear j9 ac af;generalize B s=t at*;go_enter func37,ntmps37;go_wp2;go_ret2;rw[Rh (by rw[Aa aa];decide),Aa aa];exact⟨_,rfl,SRow.nil _ _,A2 _ _,λ_=>rfl⟩
 . have Z:=Q6 (B s) w (by rw[j9];omega);rw[BG]at Z;have a7:(B s).size<=40:=tG;have a4:=GZ (s:=s) om;obtain⟨ck,aa,gv⟩:=mK;have a6:∀p∈CM s,p.length<=s.length:=Z6z s;obtain⟨L,ae⟩:=exq ((CM s).length);rw[ae]at Z ck a4;have ay:=Ab ae;have av:vz (∀j (hj:j<(CM s).length) (W:wd),vx (w.heap.size+1) (w.alloc (vl (Wc (CM s)).toArray 9)) W->W.cell? ⟨w.heap.size,j,vn⟩=vp (vb (B ((CM s)[j]'hj)))):=vF;have bb:s.length<=40:=om;clear ae j9 ac af;generalize B s=t at*;go_enter func37,ntmps37;go_wp2_with (go_at_call 58;refine Z.mono ?_;rintro e w' ⟨rfl,az⟩;rw[az]);clear Z;go_loopw [6,14] (λ_ i wr=>∃k:Nat,k<=L/\i=so vh k/\vz (∀j (hj:j<(CM s).length),j<k->I2 ((CM s)[j]'hj)=vr)/\vz (vx (w.heap.size+1) (w.alloc (vl (Wc (CM s)).toArray 9)) wr)) (λ_ i _=>L-(vy i).toNat);exact vI;obtain⟨k,ba,rfl,bf,ap⟩:=hrel;by_cases aw:k<L
   . have H:k<(CM s).length:=tC;have nk:=(Aa av) k H wr (Aa ap);have ax:=ap.size;have bc:=a6 _ (WO H);have ai:=Ab (WO H);have au:=Ab (λh=>(Aa aa) _ (Aa ai) h);have eo:vz (I2 ((CM s)[k]'H)=vr->∀j (hj:j<(CM s).length),j<k+1->I2 ((CM s)[j]'hj)=vr):=yA;generalize (CM s)[k]'H=q at*;(have ak:w.heap.size+1<=wr.heap.size:=by simp at ax;omega);clear ai;(have m3:∀W,vz (vx (w.heap.size+1) (w.alloc (vl (Wc (CM s)).toArray 9)) W)->vz (I2 q=vq)->vz (SRow W w.heap.size (va vn 0 0) (aL s)/\Ln s=1/\vx w.heap.size w W):=by intro W G E;have al:=(Aa au) (Aa E);refine⟨?_,al,(Oq w _).trans (G.mono (UI _))⟩;rw[Rh (by rw[al];decide)];exact SRow.nil _ _);by_cases U:q= [];subst U;have aj:wr.cell? ⟨w.heap.size,k,vn⟩=vp (vb ⟨#[]⟩):=nk;exact xH;by_cases G:q= [46];subst G;have aj:wr.cell? ⟨w.heap.size,k,vn⟩=vp (vb ⟨#[46]⟩):=nk;exact xH;by_cases E:q= [46,46];subst E;have aj:wr.cell? ⟨w.heap.size,k,vn⟩=vp (vb ⟨#[46,46]⟩):=nk;exact xH;have O:=Ab (Z4y U G E);have e0:=A9 (B q) U;have bh:=GX (B q) [46] G;have e2:=GX (B q) [46,46] E;have ag:=trimS q wr ou;clear U G E;generalize B q=a9 at*;by_cases F:Lib.trimS q Ic= [];. have lr:=Ab (O.2 F);(have ao:B (Lib.trimS q Ic)=⟨#[]⟩:=by rw[F];rfl);rw[ao]at ag;clear F ao O m3;go_wp2_with (go_at_call 59;refine ag.mono ?_;rintro e ah ⟨rfl,I⟩;have dj:=Ab (ap.trans (I.mono ak));clear I);go_roundw;exact wM;simp[vy];omega
     . have lr:vz (I2 q=vq):=by
        cases a3:I2 q with
        |false=>rfl
        |true=>exact absurd (O.1 a3) F
       have bd:=A9 (B (Lib.trimS q Ic)) F;clear F O;generalize B (Lib.trimS q Ic)=bg at*;have ar:=Ab m3;clear m3;go_wp2_with (go_at_call 59;refine ag.mono ?_;rintro e ah ⟨rfl,I⟩;have dj:=Ab (ap.trans (I.mono ak));clear I);go_ret2;obtain⟨x1,x2,x3⟩:=Aa ((Aa ar) ah dj lr);rw[x2];exact⟨_,rfl,x1,x3,λ_=>rfl⟩
   exact qX
theorem Z1n{f:Fl}(I:Ln f.name=0)(n:Nat)(G:f.bytes.length=n)(E:Nat)(Z:Lg f=E):(E=2/\3000<n)\/ (E=3/\n<=3000/\(f.stamp<0\/ (0<=f.stamp/\1000000<f.stamp)\/ (0<=f.stamp/\f.stamp<=1000000/\f.node<0)\/ (0<=f.stamp/\f.stamp<=1000000/\0<=f.node/\3<f.node)))\/ (E=4/\n<=3000/\0<=f.stamp/\f.stamp<=1000000/\0<=f.node/\f.node<=3/\f.gone=vr/\0<n)\/ (E=0/\n<=3000/\0<=f.stamp/\f.stamp<=1000000/\0<=f.node/\f.node<=3/\f.gone=vr/\n=0)\/ (E=0/\n<=3000/\0<=f.stamp/\f.stamp<=1000000/\0<=f.node/\f.node<=3/\f.gone=vq):=by
 subst G;subst Z;by_cases H:3000<f.bytes.length;exact .inl ⟨AY I H,H⟩
 . by_cases O:f.stamp<0\/1000000<f.stamp\/f.node<0\/3<f.node;exact .inr (.inl ⟨Yw I H O,om,om⟩)
   . have F:=AW I H O
     cases U:f.gone with
     |true=>by_cases G:0<f.bytes.length;rw[A1 ⟨U,G⟩]at F;exact .inr (.inr (.inl ⟨F,om,om,om,om,om,rfl,G⟩));rw[A0 (λk=>G k.2)]at F;exact .inr (.inr (.inr (.inl ⟨F,om,om,om,om,om,rfl,om⟩)))
     |false=>rw[A0 (λk=>by rw[U]at k;cases k.1)]at F;exact .inr (.inr (.inr (.inr ⟨F,om,om,om,om,om,rfl⟩)))
def V8(xs:List Fv):Nat->List UInt8
 |0=> []
 |k+1=>(((fls xs)[k]?).map Fl.name).getD []
theorem Za8(E:Option vw)(c:Nat)(w:wd)(h:12<n):vu v8 8 #[va E n c] w λe w'=>e=vm (so vh 2)/\w'=w:=by go_enter func8,ntmps8;go_wp2;go_ret;exact⟨rfl,rfl⟩
theorem Xd{xs:List Fv}(h:FsIn w ah c xs)(a6:xs.length=n):vu v8 8 #[va ah n c] w λe w'=>e=vm (so vh (errM (fls xs):Nat))/\vx w.heap.size w w':=by
 (have hl:(fls xs).length=n:=by simp[fls,a6]);by_cases hm:12<n;(have e:errM (fls xs)=2:=by unfold errM;rw[A1 om]);rw[e];refine(Za8 ah c w hm).mono ?_;rintro e w' ⟨rfl,rfl⟩;exact⟨rfl,A2 _ _⟩
 . have e:=rW;obtain⟨E,a4⟩:=exq (K7 vn (fls xs));rw[e,a4];obtain⟨bk,bf,ce,ay⟩:=Do h a6 a4 hl;clear h e a4 a6 hl;go_enter func8,ntmps8;go_wp2;go_loopw [3,4,5,6,7,13] (λbm _ _ _ _ i wr=>∃k:Nat,k<=n/\i=so vh k/\bm=vb (B (V8 xs k))/\vz (K7 (Oa xs k) ((fls xs).drop k)=E)/\vz (vx w.heap.size w wr)) (λ_ _ _ _ _ i _=>n-(vy i).toNat);exact⟨0,VF _,rfl,rfl,ce,A2 _ _⟩;obtain⟨k,cm,rfl,rfl,ck,ap⟩:=hrel;by_cases aw:k<n
   . obtain⟨x,ak,bi⟩:=qBO;obtain⟨b,o,rfl,hb,c0,c1,c2,b4,b0⟩:=bk.get ap ak;have az:=BA ak;rw[Aa ck]at az;have bz:=ap.size;have k5:=Ab (λW=>MM x.f.name W (by have:=(bk.all x bi).txt;unfold maxLen;omega));have ac:=Ab az;(have bb:V8 xs (k+1)=x.f.name:=by show (((fls xs)[k]?).map Fl.name).getD []=_;simp[fls,ak]);have bw:=Ab bb;have bd:x.sl=va x.a x.f.bytes.length x.c:=rfl;rw[bd]at c1;have jj:=Ab (λb9=>ap.alloc bz b9);obtain⟨ax,ba⟩:=exq (x.f.bytes.length);obtain⟨er,av⟩:=exq (Lg x.f);have ag:=Ab (λbo=>Z1n (f:=x.f) bo ax ba er av);have Z:=Ab (@AX x.f);rw[av]at ac Z
     have bj:vz ((k=0/\behind (Oa xs k) x.f=vr)\/ (0<k/\behind (Oa xs k) x.f=decide (Dy x.f.name (V8 xs k)=1))):=by
      cases k with
      |zero=>exact .inl ⟨rfl,rfl⟩
      |succ j=>refine .inr ⟨om,?_⟩;(have cd:j<(fls xs).length:=by rw[Aa ay];omega);show behind ((fls xs)[j]?) x.f=decide (Dy x.f.name ((((fls xs)[j]?).map Fl.name).getD [])=1);rw[VP cd];show decide (Dy (fls xs)[j].name x.f.name<0)=decide (Dy x.f.name (fls xs)[j].name=1);rw[kbk];have cn:=Ew x.f.name (fls xs)[j].name;have ai:=Bu x.f.name (fls xs)[j].name;omega
     have ae:=Z6v x.f.name (V8 xs k);have O:=Z6w x.f.name (V8 xs k);have b8:=Bu x.f.name (V8 xs k);obtain⟨U,ar⟩:=exq (Dy x.f.name (V8 xs k));rw[ar]at ae O b8;(have aj:vz ((k=0/\behind (Oa xs k) x.f=vr)\/ (0<k/\behind (Oa xs k) x.f=decide (U=1))):=by have:=Aa bj;rw[ar]at this;exact this);clear az bi ak bd av bb bj ar;rw[ba]at c1;clear ba;obtain⟨b5,aa⟩:=exq (Ln x.f.name);rw[aa]at k5 ag Z;clear aa;obtain⟨t,ai⟩:=exq (B x.f.name);obtain⟨bc,a3⟩:∃bc,B (V8 xs k)=bc:=⟨_,rfl⟩;rw[ai]at k5 c0 ae O;rw[a3]at ae O;rw[a3];have ci:=Ab ai;clear ai a3;generalize x.f.stamp=st at*;generalize x.f.node=nd at*;generalize x.f.gone=gn at*;by_cases a9:b5=0
     . subst a9;have a7:=Aa ag rfl;clear ag Z;have F:=Aa ac;clear ac;by_cases ao:er=0
       . subst ao;(have bq:(ax<=3000/\0<=st/\st<=1000000/\0<=nd/\nd<=3)/\((gn=vr/\ax=0)\/gn=vq):=by(rcases a7 with ⟨h,_⟩|⟨h,_⟩|⟨h,_⟩|⟨_,a1,a2,G,H,I,al,bn⟩|⟨_,a1,a2,G,H,I,al⟩);omega;omega;omega;exact⟨⟨a1,a2,G,H,I⟩,.inl ⟨al,bn⟩⟩;exact⟨⟨a1,a2,G,H,I⟩,.inr al⟩);obtain⟨⟨a1,a2,G,H,I⟩,bg⟩:=bq;rw[A0 oS]at F;clear a7;(have cg:(vz (behind (Oa xs k) x.f=vr)/\(k=0\/ (0<k/\U=1)))\/ (vz (behind (Oa xs k) x.f=vq)/\0<k/\(U= -1\/U=0)):=by(rcases Aa aj with ⟨b7,bh⟩|⟨b7,bh⟩);exact .inl ⟨bh,.inl b7⟩;by_cases a8:U=1;exact .inl ⟨by rw[bh];exact H6 a8,.inr ⟨b7,a8⟩⟩;exact .inr ⟨by rw[bh];exact H2 a8,b7,om⟩);clear aj;rcases cg with ⟨af,a5⟩|⟨af,bv,a5⟩
         . rw[A0 (by rw[Aa af];simp)]at F;have eo:=Ab F;clear F af;rcases bg with ⟨rfl,rfl⟩|rfl
           all_goals (
            rcases a5 with rfl|⟨bv,rfl⟩
            all_goals (
             try simp only[YU,XS]at c0 c1 c2 b4 b0
             try simp only[Int.reduceLT,Int.reduceEq,kb0]at ae O
             go_wp2_with fail
             refine(k5 _).mono ?_
             rintro e au ⟨o7,rfl,_,bu,_⟩
             have dj:=dE
             have q6:=bO
             have b7:=fW
             have bh:=dC
             have cq:=dD
             have i3:=fX
             clear bu
             go_wp2
             go_roundw
             . exact⟨_,om,by go_num,by rw[Aa bw,Aa ci],eo.symm,dj⟩
             simp[vy];omega))
         . rw[A1 (Aa af)]at F;have eo:=Ab F;clear F af;have cj:(0:Int)<k:=om;rcases bg with ⟨rfl,rfl⟩|rfl
           all_goals (
            rcases a5 with rfl|rfl
            all_goals (
             try simp only[Int.reduceLT,Int.reduceEq,Int.reduceNeg,decide_true,kb0]at ae O
             go_wp2_with fail
             refine(k5 _).mono ?_
             rintro e au ⟨o7,rfl,_,bu,_⟩
             have dj:=dE
             have q6:=bO
             have b7:=fW
             have bh:=dC
             have cq:=dD
             have i3:=fX
             clear bu
             go_wp2
             go_ret
             exact⟨Bm (by rw[Aa eo];rfl),dj⟩))
       . rw[A1 (by simpa using ao)]at F;have eo:=Ab F;clear F aj;(rcases a7 with ⟨rfl,a1⟩|⟨rfl,a1,a2|⟨a2,G⟩|⟨a2,G,H⟩|⟨a2,G,H,I⟩⟩|⟨rfl,a1,a2,G,H,I,rfl,al⟩|⟨rfl,_⟩|⟨rfl,_⟩);(. skip;exact qB);(. skip;exact qB);(. skip;exact qB);(. skip;exact qB);(. skip;exact qB);(. skip;exact qB);exact absurd rfl ao;exact absurd rfl ao
     . have aa:=Aa Z a9;have F:=Aa ac;rw[aa,A1 (by simpa using a9)]at F;have eo:=Ab F;clear F aa ac ag Z aj;go_wp2_with fail;refine(k5 _).mono ?_;rintro e au ⟨o7,rfl,_,bu,_⟩;exact vE
   exact zZ
structure RdK(bs:List Nat)(es:List Ev)(ok:Bool):Prop where
 few:es.length<=12
 by_:∀x∈es,x.e.f.bytes.length<=12000
 no:ok=vq->readE bs=7
 torn:errM ((es.map Ev.e).map En.f)≠0->readE bs=7
 sum:ok=vr->errM ((es.map Ev.e).map En.f)=0->sumsF (es.map Ev.e)=vq->readE bs=10
 yes:ok=vr->errM ((es.map Ev.e).map En.f)=0->sumsF (es.map Ev.e)=vr->readE bs=0/\readL bs=(es.map Ev.e).map En.f
theorem EnD.ways{e:Ending}(h:EnD w bs e w')(ah:bs.length<=12000)(O:∀x∈bs,x<256):vx w.heap.size w w'/\∃es ad c ok,e=vm (vd #[va ad es.length c,ve ok])/\K8 w' ad es/\RdK bs es ok:=by obtain⟨af,h⟩:=h;obtain⟨d1,ac⟩:=Z4j ah O;refine⟨af,?_⟩;(rcases h with ⟨F,rfl⟩|⟨es,ad,c,F,rfl,ae⟩);(have Z:readE bs=7:=by rw[<-d1];unfold Ll;rw[F]);exact⟨[],vn,0,vq,rfl,⟨.inl rfl,λx E=>by cases E⟩,VF _,(λx E=>by cases E),λ_=>Z,λ_=>Z,(λe=>by cases e),(λe=>by cases e)⟩;have H:=JZ O F;(have G:readE bs=if errM ((es.map Ev.e).map En.f)≠0\/Ba (es.map Ev.e)≠bs then 7 else if sumsF (es.map Ev.e)=vq then 10 else 0:=by rw[<-d1];unfold Ll;rw[F]);refine⟨es,ad,c,_,rfl,ae,by simpa using H.1,λx E=> ?_,λe=> ?_,λe=> ?_,λe e2 e3=> ?_,λe e2 e3=> ?_⟩;have ag:=(H.2 x.e (WZ E)).ok.un;have U:=GN (m:=x.e.meth) (pk:=x.e.pk) (ys:=n8 x.e.f.bytes) (by have:=(H.2 x.e (WZ E)).pl;omega) (by rw[Ms];exact ag);rw[Cf]at U;exact U;rw[HH]at e;rw[G,A1 (.inr e)];rw[G,A1 (.inl e)];have I:=eq_of_beq e;rw[G,A0 (by rintro (k|k);exact k e2;exact k I),A1 e3];have I:=eq_of_beq e;(have aa:readE bs=0:=by rw[G,A0 (by rintro (k|k);exact k e2;exact k I),A0 (by rw[e3];decide)]);refine⟨aa,?_⟩;rw[<-ac];unfold Yf;rw[A0 (by rw[d1,aa];decide),F];rfl
theorem Tp(a:Option vw)(bj:Nat)(w:wd)(cm:bs.length=n)(dq:n<=12000)(c8:n<=bj)(cn:PkIn w a bj bs)(bh:∀x∈bs,x<256)(b8:aO True):vu v8 16 #[va a n bj] w λe w'=>LO w bs e w':=by
 have ce:=Ab (FE n cm dq c8 cn bh True (.inl trivial) b8);have bd:vz (bs.length<=12000/\∀x∈bs,x<256):=Ab ⟨om,bh⟩;clear cn bh b8 cm;go_enter func16,ntmps16;go_wp2_with fail;refine ce.mono ?_;rintro e H bv;obtain⟨bu,es,ad,c,ok,rfl,ck,hK⟩:=bv.ways bd.1 bd.2;obtain⟨G,a3⟩:=exq (es.length);rw[a3];obtain⟨ao,ax⟩:=exq (sumsF (es.map Ev.e));(have du:G<=12:=by have:=hK.few;omega);obtain⟨ba,ah,Z,bf,a5⟩:=HF ck hK a3 bu ax;clear bv bu ck hK a3 ax ce bd;go_wp2;go_loopw [6,7,9,17] (λda c6 _ i wr=>∃(k:Nat) (S:Bool),k<=G/\i=so vh k/\c6=ve S/\vz ((S&&sumsF ((es.map Ev.e).drop k))=ao)/\vz (GR wr H.heap.size da (es.take k))/\vz (vx H.heap.size H wr)) (λ_ _ _ i _=>G-(vy i).toNat);exact⟨0,vr,VF _,rfl,rfl,Ab (by rw[ZP];exact Aa a5),Ab (GR.nil _ _),Ab (A2 _ _)⟩;obtain⟨k,S,dt,rfl,rfl,aw,ai,af⟩:=hrel;by_cases c9:k<G
 . obtain⟨x,U,a7⟩:∃x,es[k]? =vp x/\x∈es:=⟨es[k]'(by rw[Aa Z];exact c9),VP _,WO _⟩;obtain⟨b,o,rfl,hb,c0,c1,c2,db,di,dn,de,dl⟩:=ba.get af U;have b0:=af.size;have au:=(ba.all x a7).1;have I:=qBT;have ac:=λ(W:wd) (aa:vx H.heap.size H W)=>BI 0 x.fa x.e.f.bytes.length x.fc (n8 x.e.f.bytes) W (Cf _) (ah.by_ x a7) od (au.below aa).fb.1 (Cq (Kb _));have bw:=Ab (Ht U);have cp:=Ab (λo1 o2:Obj=>(au.below (af.trans ((A2 H.heap.size wr).alloc b0 o1))).below ((A2 _ _).alloc (VA _) o2));have bi:∀g,vp g=u6.ownBlock->H.heap.size<=g/\g<wr.heap.size:=λg e=>ai.own.lt g e.symm;have bz:vz (x.lies (λg=>vp g≠u6.ownBlock)):=Ab (au.lt.mono (λg az e=>by have:=(bi g e).1;omega));have cy:=Ab (λo1 o2:Obj=>(ai.below ((A2 _ _).alloc (VA _) o1)).below ((A2 _ _).alloc (VA _) o2));have cv:=Ab (λo1 o2:Obj=>(af.alloc b0 o1).alloc oO o2);have co:vz ((es.take k).length+1<=100000):=Ab qAM;have b7:vz (∀o1 o2,o2=vl x.fv.cells.toArray 30->∀j u,x.fv.cells[j]? =vp u->((wr.alloc o1).alloc o2).cell? ⟨wr.heap.size+1,j,vn⟩=vp u):=Ab (λo1 o2 e j u c7=>by subst e;have cw:=B2 (wr.alloc o1) (vl x.fv.cells.toArray 30);simp only[CL]at cw;rw[Ac cw];simpa using c7);have bq:vz (∀(o1 o2:Obj) (w3:wd),((wr.alloc o1).alloc o2).grownBy w3 u6.ownBlock->w3.heap[wr.heap.size]? =vp o1/\wr.heap.size<w3.heap.size):=Ab (λo1 o2 w3 az=>by have dm:=az.block wr.heap.size oO (λe=>by have:=(bi _ e).2;omega);rw[dm];refine⟨?_,VC oO az.size⟩;have df:=((A2 (wr.alloc o1).heap.size (wr.alloc o1)).alloc (VA _) o2).block wr.heap.size oS;rw[df];exact B2 wr o1);have c5:=Ab I;have cz:=Ab ac;clear U a7 au bi I ac;go_wp2_with (at_builtin;refine Jl _ rfl _ _ rfl H.heap.size _ (es.take k) rfl (cy _ _) (wr.heap.size+1) x rfl (b7 _ _ rfl) (cp _ _) bz co oO ?_);intro v' w3 ci cg ae;have bk:vz (GR w3 H.heap.size v' (es.take (k+1))):=Ab (by rw[Aa bw];exact Aa ci);have F:=Ab ((cv _ _).trans (Aa ae));obtain⟨bo,b9⟩:=Aa bq _ _ _ (Aa cg);have aj:=Ac (i:=1) bo;have ak:=Ac (i:=7) bo;simp only[WF,VW,WI]at aj ak;have I:=Aa c5;obtain⟨m,hm⟩:=exq (crcN 0 (n8 x.e.f.bytes));have ac:=Aa cz;rw[hm]at I ac;generalize x.e.f.bytes.length=bl at aj ac;generalize x.e.crc=cr at ak I;have k1:∀W:wd,vx w3.heap.size w3 W->W.cell? ⟨wr.heap.size,1,vn⟩=vp (va x.fa bl x.fc):=λW aa=>(aa.cell (p:=⟨wr.heap.size,1,vn⟩) b9).trans aj;have b5:∀W:wd,vx w3.heap.size w3 W->W.cell? ⟨wr.heap.size,7,vn⟩=vp (so vj cr):=λW aa=>(aa.cell (p:=⟨wr.heap.size,7,vn⟩) b9).trans ak;have bn:=Ab (λ(W:wd) (aa:vx w3.heap.size w3 W)=>ac W (F.trans (aa.mono (oI F.size))));have cq:=F.size;have bb:=Aa aw;rw[I]at bb;have ap:=Ab bb;clear ci ae cg bo I ac hm bb c0 c1 c2 db di dn de dl aw ai af cy cv cp bz co b7 bq c5 cz bw aj ak
   cases S with
   |true=>
    obtain⟨cu,dj⟩:=exq (((m:Int)==cr))
    have a4:vz ((cu&&sumsF ((es.map Ev.e).drop (k+1)))=ao):=Ab (by
     have h:=Aa ap
     rw[ZP]at h
     rw[<-h,<-dj]
     congr 1
     by_cases e:cr=m
     . subst e;rw[H6 rfl,beq_self_eq_true]
     . rw[H2 e,HH];omega)
    clear ap;go_wp2;go_region_held3 (λW=>vx w3.heap.size w3 W) (first|exact Co (A2 _ _)|exact av) ((go_at_call 12;refine(bn _ (Co (A2 _ _))).mono ?_;rintro e dr ⟨rfl,cd⟩;have av:vx w3.heap.size w3 dr:=(by rw[cd];exact Co (A2 _ _));clear cd));all_goals (have a9:=Ab (bk.below av);have bg:=Ab (F.trans (av.mono cq));clear k1 b5 bn bk F av;(try go_wp2);go_roundw;exact⟨k+1,cu,om,by go_num,rfl,a4,a9,bg⟩;simp[vy];omega)
   |false=>have a4:vz ((vq&&sumsF ((es.map Ev.e).drop (k+1)))=ao):=Ab (by have h:=Aa ap;rw[Bool.false_and]at h ⊢;exact h);clear ap k1 b5 bn;go_wp2;go_region;all_goals (have a9:=Ab (bk.below (Co (A2 _ _)));have bg:=Ab (F.trans ((Co (A2 _ _)).mono cq));(try go_wp2);go_roundw;exact⟨k+1,vq,om,by go_num,rfl,a4,a9,bg⟩;simp[vy];omega)
 . obtain rfl:G=k:=om;have ar:es.take G=es:=VQ (by rw[Aa Z];exact VA _);have cj:(es.map Ev.e).drop G= []:=XE (by simp[Aa Z]);(have ax:S=ao:=by have:=Aa aw;rw[cj]at this;rw[<-this];cases S<;>rfl);obtain⟨bc,c2,b4,ag⟩:=ai.files (by rw[ar,Aa Z];omega);rw[ar]at ag;rw[ar,Aa Z]at b4;subst ax b4;(have dh:(es.map Ev.fv).length=G:=by simpa using Aa Z);have a6:=Ab (bf.trans (af.mono bf.size));have bm:=Ab ag;clear ar cj aw ai bf ba
   cases ok with
   |false=>have O:=Ab (LO.bad (w:=w) (w':=wr) (bs:=bs) (k:=7) (ah.no rfl) od a6);clear bm ag;go_wp2;go_ret2;exact O
   |true=>
    have a8:=Ab (Xd ag dh);obtain⟨E,al⟩:=exq (errM (fls (es.map Ev.fv)));rw[al]at a8;rw[JQ]at al;have ds:=Ab al;clear ag al;go_wp2_with fail;refine a8.mono ?_;rintro e w3 ⟨rfl,ae⟩;have dc:=Ab (bm.below ae (VA _));have F:=Ab (a6.trans (ae.mono a6.size));clear ae a8 bm;by_cases d5:E=0
    . subst d5
      cases S with
      |false=>have O:=Ab (LO.bad (w:=w) (w':=w3) (bs:=bs) (k:=10) (ah.sum rfl ds a5) od F);go_wp2;go_ret2;exact O
      |true=>obtain⟨ct,ay⟩:=ah.yes rfl ds a5;have O:vz (LO w bs (vm (vd #[va bc G c2,so vh 0])) w3):=Ab ⟨va bc G c2,by rw[ct];rfl,⟨bc,c2,es.map Ev.fv,by rw[ay];simp[Aa Z],dc,by rw[JQ,ay]⟩,F⟩;clear ct ay;go_wp2;go_ret2;exact O
    have O:=Ab (LO.bad (w:=w) (w':=w3) (bs:=bs) (k:=7) (ah.torn qBX) od F);exact kC
end
section
open Go.RowKit Go.Proofs.Tryz Go.ChangeShapes Go.WideShapes Go.ChangeAt Go.Deep
variable{au:List Value}{G aa ac base j:Nat}{ah:Option Addr}{v:Value}{w:World}
theorem Z32(b o j:Nat):(⟨b,o,vn⟩:vw).add j=⟨b,o+j,vn⟩:=by unfold Addr.add;split<;>simp_all
theorem Zcj:Tryz.prog.cellsOf 5=1:=oR
theorem Zf1:Tryz.prog.cellsOf 30=5:=oR
theorem Zgj:Tryz.prog.cellsOf 9=1:=oR
theorem Zgk:Tryz.prog.cellsOf 3=1:=oR
theorem Zg7:Tryz.prog.cellsOf 4=1:=oR
theorem Za9:Tryz.prog.cellsOf 23=1:=oR
theorem Zad:Tryz.prog.bytesOf 5=1:=oR
theorem Zg8:Tryz.prog.bytesOf 30=64:=oR
theorem Zeu{H:Type}{enc:TypeId×vt->H}{P:Program}{E:Nat->Bool}{F:Bool}{t:TypeId}{ag aa I ae U:Field}{x:DataW H×List MemPlace}(ah:P.underlying t=vp (.struct #[ag,aa,I,ae,U]))(h:DataW.trod enc P w base E F ac t au=vp x):∃G y1 y2 Z af n,x=(.agg [G.1,y1.1,y2.1,Z.1,af.1],G.2++(y1.2++(y2.2++(Z.2++af.2))))/\au.length=P.cellsOf t/\DataW.trod enc P w base E F n ag.type ((au.drop ag.offset).take (P.cellsOf ag.type))=vp G/\DataW.trod enc P w base E F n aa.type ((au.drop aa.offset).take (P.cellsOf aa.type))=vp y1/\DataW.trod enc P w base E F n I.type ((au.drop I.offset).take (P.cellsOf I.type))=vp y2/\DataW.trod enc P w base E F n ae.type ((au.drop ae.offset).take (P.cellsOf ae.type))=vp Z/\DataW.trod enc P w base E F n U.type ((au.drop U.offset).take (P.cellsOf U.type))=vp af:=by
 obtain⟨xs,n,_,rfl,hl,ai,O⟩:=DataW.trod_struct ah h
 match xs,ai with
 | [G,y1,y2,Z,af],_=>exact⟨G,y1,y2,Z,af,n,oS,hl,by simpa using O 0 ag rfl,by simpa using O 1 aa rfl,by simpa using O 2 I rfl,by simpa using O 3 ae rfl,by simpa using O 4 U rfl⟩
theorem DZ{H:Type}{enc:TypeId×vt->H}{x:DataW H×List MemPlace} (h:DataW.trod enc v8 w 0 (λ_=>vr) vr ac 23 [v]=vp x) (ag:∀n∈x.1.weights v8 23,n<=140737488351232):∃a c bs,v=va a bs.length c/\BsIn w a c bs/\bs.length<=140737488351232:=by(rcases open_ints underlying23 underlying5 Zcj h with ⟨F,_⟩|⟨a,l,c,E,F,_,hl,hm,af,aj,Z,ai⟩);simp at F;subst F;exact⟨vn,0,[],rfl,.inl ⟨rfl,rfl,rfl⟩,oS⟩;simp at F;subst F;(have ao:E.length=c:=by simpa using af);(have hb:∀j,j<E.length->0<=E.getD j 0/\E.getD j 0<=255:=by intro j hj;have ak:E.getD j 0∈E:=tE;have:=ai _ ak;simpa[Lit.wf,IntKind.min,IntKind.max,IntKind.signed,IntKind.bits]using this);have G:((E.take l).map λn=>UInt8.ofNat n.toNat).length=l:=oO;(have hc:c<=140737488351232:=by apply ag;rw[aj];simp only[DataW.weights,underlying23,Zad];refine VV.2 (.inl ?_);simp[lits];omega);refine⟨vp a,c,(E.take l).map λn=>UInt8.ofNat n.toNat,by rw[G],?_,by rw[G];omega⟩;by_cases aa:l=0;subst aa;exact .inr (.inl ⟨oS,a,rfl⟩);obtain⟨b,o,ae⟩:=a;have I:=Z 0 om;(have ah:ae=none:=by simpa[Addr.add]using World.cell?_spot I);subst ah;refine .inr (.inr ⟨b,o,rfl,?_,by rw[G];exact hl,?_⟩);have:=World.block_lt_of_cell? _ _ I;simpa[Addr.add]using this;intro j hj;rw[G]at hj;have O:=Z j om;rw[Z32]at O;rw[O];have U:j<E.length:=om;have al:=hb j U;(have e:((E.take l).map λn=>UInt8.ofNat n.toNat).getD j 0=UInt8.ofNat (E.getD j 0).toNat:=by simp[List.getD,hj,U]);rw[e];(have e2:(UInt8.ofNat (E.getD j 0).toNat).toNat=(E.getD j 0).toNat:=by rw[UInt8.toNat_ofNat'];omega);rw[e2,ZD al.1]
instance:Inhabited Fv:=⟨⟨⟨[],[],0,0,vq⟩,vn,0⟩⟩
theorem Zfy{H:Type}{enc:TypeId×vt->H}{x:DataW H×List MemPlace} (h:DataW.trod enc v8 w 0 (λ_=>vr) vr ac 30 au=vp x) (aa:∀n∈x.1.weights v8 30,n<=140737488351232):∃z:Fv,au=z.cells/\FvIn w z:=by
 obtain⟨ag,y1,y2,al,ao,k,af,I,E,g1,g2,g3,F⟩:=Zeu underlying30 h;rw[Zf1]at I
 match au,I with
 | [v0,v1,v2,v3,v4],_=>simp only[Zgj,Zgk,Zg7,Za9]at E g1 g2 g3 F;simp at E g1 g2 g3 F;(have G:∀n,n∈ag.1.weights v8 9\/n∈y1.1.weights v8 23->n<=140737488351232:=by intro n hn;apply aa;rw[af];simp only[DataW.weights,underlying30];rcases hn with hn|hn;exact kbr (j:=0) rfl rfl n hn;exact kbr (j:=1) rfl rfl n hn);obtain⟨s,e0,ae,_⟩:=DataW.trod_string underlying9 E;obtain⟨a,c,bs,ah,ai,aj⟩:=DZ g1 (λn hn=>G n (.inr hn));obtain⟨n2,e2,_,_⟩:=DataW.trod_int underlying3 g2;obtain⟨U,e3,_,_⟩:=DataW.trod_int underlying3 g3;obtain⟨Z,O,_⟩:=DataW.trod_bool underlying4 F;simp at e0 e2 e3 O;subst e0;subst ah;subst e2;subst e3;subst O;have ak:s.data.toList.length<=140737488351232:=G _ (.inl (by rw[ae];simp[DataW.weights]));exact⟨⟨⟨s.data.toList,bs,n2,U,Z⟩,a,c⟩,by simp[Fv.cells,Fv.sl,KT],⟨ai,by simp only;omega,by simp only;omega⟩⟩
theorem G4{H:Type}{P:Program}{e:TypeId}:∀ {E:List (DataW H)} {d:DataW H},d∈E->∀n∈d.weights P e,n∈DataW.weightsAll P e E
 |x::r,d,h,n,hn=>by simp only[DataW.weightsAll,WG];rcases VV.1 h with e|e;subst e;exact .inl hn;exact .inr (G4 e n hn)
 | [],d,h,n,hn=>by cases h
theorem Zfn{H:Type}{enc:TypeId×vt->H}{d:DataW H}{p:List MemPlace} (h:DataW.trod enc v8 w 0 (λ_=>vr) vr aa 22 [va ah ac G]=vp (d,p)) {ts:List TypeId} {ao:List (DataW H)} (a8:(DataW.weightsEach v8 ts ao).all (· <=reachBytes)=vr) (az:ts[j]? =vp 22) (aw:ao[j]? =vp d):∃xs,xs.length=ac/\FsIn w ah G xs:=by(have ap:∀n∈d.weights v8 22,n<=140737488351232:=by intro n hn;have ba:=XA.1 a8 _ (kbr az aw _ hn);(have bb:n<=reachBytes:=by simpa using ba);have:reachBytes=140737488351232:=rfl;omega);(rcases open_slice underlying22 h with ⟨E,_⟩|⟨a,len,cap,m,n,D,bg,E,_,hl,hm,af,a4,Z⟩);simp at E;obtain⟨rfl,rfl,rfl⟩:=E;exact⟨[],rfl,FsIn.nil w⟩;simp at E;obtain⟨rfl,rfl,rfl⟩:=E;simp only[RZ]at af;subst af;have O:=congrArg Prod.fst a4;simp only at O;(have bc:m*64<=140737488351232:=by apply ap;rw[O];simp only[DataW.weights,underlying22,Zg8];refine VV.2 (.inl ?_);simp;omega);(have each:∀i,i<ac->∃z:Fv,FvIn w z/\∀k,k<5->w.cell? (a.add (i*5+k))=z.cells[k]? :=by intro i hi;obtain⟨bf,ak,ax⟩:=Z i om;rw[Zf1]at ak;obtain⟨_,bd,a5⟩:=World.cells?_some ak;obtain⟨z,a7,a6⟩:=Zfy ax (λn hn=>ap n (by rw[O];simp only[DataW.weights,underlying22];exact WL _ (WG.2 (.inl (G4 (WU.2 ⟨i,List.mem_range.2 hi,rfl⟩) _ hn)))));refine⟨z,a6,λk a3=> ?_⟩;have:=a5 k a3;rw[add_add]at this;rw[this,a7]);obtain⟨f,U⟩:=choose_lt each;refine⟨(List.range ac).map f,oS,⟨?_,oO,by unfold maxLen at hm;omega,oO,?_⟩⟩;by_cases ay:ac=0;subst ay;exact .inl rfl;obtain⟨b,o,ag⟩:=a;have hc:=(U 0 om).2 0 om;have ai:w.cell? (Addr.add ⟨b,o,ag⟩ (0*5+0))=vp (vb (B (f 0).f.name)):=hc;(have a9:ag=none:=by simpa[Addr.add]using World.cell?_spot ai);subst a9;refine .inr ⟨b,o,rfl,?_,?_⟩;have:=World.block_lt_of_cell? _ _ ai;simpa[Addr.add]using this;intro j x F;(have au:j<ac:=by rcases YN j ac with I|I;exact I;. rw[VZ (by simpa using I)]at F;cases F);simp[au]at F;subst F;have q:=(U j au).2;have ae:=q 0 od;have aj:=q 1 od;have av:=q 2 od;have al:=q 3 od;have ar:=q 4 od;rw[Z32]at ae aj av al ar;exact⟨ae,by rw[WV];exact aj,by rw[WV];exact av,by rw[WV];exact al,by rw[WV];exact ar⟩;intro x Z;obtain⟨i,hi,rfl⟩:=WU.1 Z;exact(U i (List.mem_range.1 hi)).1
end
end Go.Proofs.YtleocpdblhbimaaGreatDoor
