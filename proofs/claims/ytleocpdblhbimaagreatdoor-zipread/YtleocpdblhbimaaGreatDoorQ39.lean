import Derived.Test.YtleocpdblhbimaaGreatDoorQ24
import Derived.Test.YtleocpdblhbimaaGreatDoorQ38
import Derived.Deep.Slices
import Derived.SizedLaws
import Derived.Deep.Strs
set_option linter.unusedSimpArgs false
set_option linter.unusedVariables false
set_option maxRecDepth 100000
set_option maxHeartbeats 4000000
namespace Go.Proofs.YtleocpdblhbimaaGreatDoor
open Go.RowKit
theorem Z8c (a b:Fl):(a=b)↔(a.name=b.name/\a.bytes=b.bytes/\a.stamp=b.stamp/\a.node=b.node/\a.gone=b.gone):=by
 cases a;cases b;simp
theorem Z03 (x y:Fv)(w:World)(ac:FvIn w x)(Y:FvIn w y):
 Calls Tryz.prog 11 #[x.val,y.val] w fun e w'=>e=.returned (.bool (decide (x.f=y.f)))/\Below w.heap.size w w':=by
 have I:=Ab (fun W (Z:Below w.heap.size w W)=>Z1q (ac.bs.below Z (VB _)) (Y.bs.below Z (VB _)));have U:=Z8c x.f y.f
 have hn:((B x.f.name).toList==(B y.f.name).toList)=decide (x.f.name=y.f.name):=by
  rw[Fh,Fh,XZ,beq_iff_eq,decide_eq_true_iff]
 rw[Nw,Nw];obtain⟨r,hr⟩:=exq (decide (x.f=y.f));have aa:r=decide (x.f.name=y.f.name/\x.f.bytes=y.f.bytes/\x.f.stamp=y.f.stamp/\x.f.node=y.f.node/\x.f.gone=y.f.gone):=by rw[<-hr];exact decide_eq_decide.2 U
 rw[hr];clear U hr ac Y;have G:=Ab aa;clear aa
 by_cases H:x.f.name=y.f.name
 . rw[decide_eq_true H]at hn
   by_cases F:x.f.bytes=y.f.bytes
   . by_cases M:x.f.stamp=y.f.stamp
     . by_cases O:x.f.node=y.f.node
       . have E:r=decide (x.f.gone=y.f.gone):=by rw[Aa G];exact decide_eq_decide.2 ⟨fun k=>k.2.2.2.2,fun k=>⟨H,F,M,O,k⟩⟩
         rw[E];rw[decide_eq_true F]at I;clear H F E G;generalize B x.f.name=t at*;generalize B y.f.name=T at*;generalize x.f.bytes.length=n at*;generalize y.f.bytes.length=n2 at*;generalize x.f.stamp=af at*;generalize y.f.stamp=ae at*;generalize x.f.node=ag at*;generalize y.f.node=ah at*;generalize x.f.gone=g1 at*;generalize y.f.gone=g2 at*;subst M;subst O;go_enter Tryz.func11,Tryz.ntmps11
         go_wp2_with (go_at_call 13;refine(Aa I _ (Ck (Ck (Below.refl _ _) _) _)).mono ?_;rintro e w' ⟨rfl,rfl⟩)
         go_ret;exact⟨Dq (by cases g1<;>cases g2<;>rfl),Ck (Ck (Below.refl _ _) _) _⟩
       . have E:r=false:=by rw[Aa G];exact decide_eq_false (fun k=>O k.2.2.2.1)
         have hb:(x.f.node==y.f.node)=false:=by simpa using O
         rw[E];rw[decide_eq_true F]at I;clear H F E G O;generalize B x.f.name=t at*;generalize B y.f.name=T at*;generalize x.f.bytes.length=n at*;generalize y.f.bytes.length=n2 at*;generalize x.f.stamp=af at*;generalize y.f.stamp=ae at*;subst M;go_enter Tryz.func11,Tryz.ntmps11
         go_wp2_with (go_at_call 13;refine(Aa I _ (Ck (Ck (Below.refl _ _) _) _)).mono ?_;rintro e w' ⟨rfl,rfl⟩)
         go_ret;exact⟨rfl,Ck (Ck (Below.refl _ _) _) _⟩
     . have E:r=false:=by rw[Aa G];exact decide_eq_false (fun k=>M k.2.2.1)
       have hb:(x.f.stamp==y.f.stamp)=false:=by simpa using M
       rw[E];rw[decide_eq_true F]at I;clear H F E G M;generalize B x.f.name=t at*;generalize B y.f.name=T at*;generalize x.f.bytes.length=n at*;generalize y.f.bytes.length=n2 at*;go_enter Tryz.func11,Tryz.ntmps11
       go_wp2_with (go_at_call 13;refine(Aa I _ (Ck (Ck (Below.refl _ _) _) _)).mono ?_;rintro e w' ⟨rfl,rfl⟩)
       go_ret;exact⟨rfl,Ck (Ck (Below.refl _ _) _) _⟩
   . have E:r=false:=by rw[Aa G];exact decide_eq_false (fun k=>F k.2.1)
     rw[E];rw[decide_eq_false F]at I;clear H F E G;generalize B x.f.name=t at*;generalize B y.f.name=T at*;generalize x.f.bytes.length=n at*;generalize y.f.bytes.length=n2 at*;go_enter Tryz.func11,Tryz.ntmps11
     go_wp2_with (go_at_call 13;refine(Aa I _ (Ck (Ck (Below.refl _ _) _) _)).mono ?_;rintro e w' ⟨rfl,rfl⟩)
     go_ret;exact⟨rfl,Ck (Ck (Below.refl _ _) _) _⟩
 . have E:r=false:=by rw[Aa G];exact decide_eq_false (fun k=>H k.1)
   rw[E];rw[decide_eq_false H]at hn;clear H E G I;generalize B x.f.name=t at*;generalize B y.f.name=T at*;generalize x.f.bytes.length=n at*;generalize y.f.bytes.length=n2 at*;go_enter Tryz.func11,Tryz.ntmps11
   go_wp2;go_ret;exact⟨rfl,Ck (Ck (Below.refl _ _) _) _⟩
theorem Z3g {E:Type}{a b:List E}{k:Nat}{x y:E}(H:a[k]? =some x)(F:b[k]? =some y)(G:x≠y):a≠b:=by
 rintro rfl;rw[H]at F;exact G (VM F)
theorem Z3h {E:Type}{a b:List E}{k:Nat}{x:E}(F:a.take k=b.take k)(H:a[k]? =some x)(G:b[k]? =some x):a.take (k+1)=b.take (k+1):=by
 rw[XM,XM,F,H,G]
theorem Yj (a5 ag:Option Addr)(c d:Nat)(xs ys:List Fv)(w:World)(E:FsIn w a5 c xs)(k:FsIn w ag d ys)(n m:Nat)(G:xs.length=n)(M:ys.length=m):
 Calls Tryz.prog 44 #[.slice a5 n c,.slice ag m d,.func (.func 11) #[] #[]] w fun e w'=>e=.returned (.bool (decide (fls xs=fls ys)))/\Below w.heap.size w w':=by
 have H:(fls xs).length=n:=by simp[fls,G]
 have I:(fls ys).length=m:=by simp[fls,M]
 have bh:=E.lim;rw[G]at bh
 by_cases ap:n=m
 . subst ap;obtain⟨r,hr⟩:=exq (decide (fls xs=fls ys));rw[hr];have ax:=Ab E;have ay:=Ab k;have a7:=Ab G;have bf:=Ab M;have a6:=Ab hr;have bc:=Ab H;have bb:=Ab I;have bj:((n:Int)!=(n:Int))=false:=by simp
   clear E k G M hr H I;go_enter Tryz.func44,Tryz.ntmps44
   go_wp2;go_loopw [7,8,9,17] (fun _ _ _ i wr=>∃k:Nat,k<=n/\i=.int .i64 (k:Int)/\Hid ((fls xs).take k=(fls ys).take k)/\Hid (Below w.heap.size w wr)) (fun _ _ _ i _=>n-(intOf i).toNat)
   case atStart=>exact⟨0,VH _,rfl,by simp;exact trivial,Below.refl _ _⟩
   case round=>
    obtain⟨k,b9,rfl,az,F⟩:=hrel
    by_cases al:k<n
    . obtain⟨x,Z,a1⟩:=Ob (xs:=xs) (k:=k) (by rw[Aa a7];exact al);obtain⟨y,U,ai⟩:=Ob (xs:=ys) (k:=k) (by rw[Aa bf];exact al);obtain⟨b,o,ba,hb,c0,c1,c2,b0,b5⟩:=(Aa ax).get (Aa F) Z;obtain⟨bw,bu,bk,b7,d0,Y,a2,aa,av⟩:=(Aa ay).get (Aa F) U;have bv:=(Aa F).size;have a3:(fls xs)[k]? =some x.f:=by simp[fls,Z]
      have ae:(fls ys)[k]? =some y.f:=by simp[fls,U]
      have ak:=Ab a3;have af:=Ab ae;have O:=Ab (fun W (a4:Below w.heap.size w W)=>Z03 x y W (((Aa ax).all x a1).below a4 (VB _)) (((Aa ay).all y ai).below a4 (VB _)));rw[Nw,Nw]at O;have ah:x.sl=.slice x.a x.f.bytes.length x.c:=rfl;have aw:y.sl=.slice y.a y.f.bytes.length y.c:=rfl;rw[ah]at c1;rw[aw]at Y;obtain⟨q,T⟩:=exq (decide (x.f=y.f));rw[T]at O;have ao:=Ab T;clear Z U a1 ai a3 ae ah aw T;subst ba;subst bk;generalize B x.f.name=t at*;generalize B y.f.name=b8 at*;generalize x.f.bytes.length=b3 at*;generalize y.f.bytes.length=b4 at*;generalize x.f.stamp=cd at*;generalize y.f.stamp=bz at*;generalize x.f.node=n1 at*;generalize y.f.node=n2 at*;generalize x.f.gone=g1 at*;generalize y.f.gone=g2 at*;have ar:=Ab (fun o1 o2=>Ck (Ck (Aa F) o1) o2);have bi:=fun o=>Sw (o:=o) d0
      have bm:=fun o=>Sw (o:=o) Y
      have bn:=fun o=>Sw (o:=o) a2
      have bo:=fun o=>Sw (o:=o) aa
      have a8:=fun o=>Sw (o:=o) av
      clear d0 Y a2 aa av;go_wp2_with fail
      refine(Aa O _ (Aa ar _ _)).mono ?_;rintro e bq ⟨rfl,au⟩;have ac:=Ab ((Aa ar _ _).trans (au.mono (by simp;omega)));clear au bi bm bn bo a8
      cases q with
      |false=>
       have a9:r=false:=by
        rw[<-Aa a6];exact decide_eq_false (Z3g (Aa ak) (Aa af) (of_decide_eq_false (Aa ao)))
       subst a9;go_wp2;go_ret;exact⟨rfl,Aa ac⟩
      |true=>
       have aj:x.f=y.f:=of_decide_eq_true (Aa ao);have bd:=Ab (Z3h (Aa az) (Aa ak) (by rw[aj];exact Aa af));clear aj;go_wp2;go_roundw
       case rel=>exact⟨k+1,by omega,by go_num,Aa bd,Aa ac⟩
       case measure=>simp[intOf];omega
    . obtain rfl:n=k:=by omega
      have bg:r=true:=by
       rw[<-Aa a6];have:=Aa az
       rw[VV (by rw[Aa bc];exact VB _),VV (by rw[Aa bb];exact VB _)]at this;exact decide_eq_true this
      subst bg;go_wp2;go_ret;exact⟨rfl,Aa F⟩
 . have e:decide (fls xs=fls ys)=false:=decide_eq_false (fun E=>ap (by rw[<-H,<-I,E]));rw[e];have bj:((n:Int)!=(m:Int))=true:=by simp;omega
   clear E k G M e H I;go_enter Tryz.func44,Tryz.ntmps44
   go_wp2;go_ret;exact⟨rfl,Below.refl _ _⟩
theorem Xe (E F:Option Addr)(c d:Nat)(xs ys:List Fv)(w:World)(G:FsIn w E c xs)(k:FsIn w F d ys)(n m:Nat)(T:xs.length=n)(M:ys.length=m):
 Calls Tryz.prog 17 #[.slice E n c,.slice F m d] w fun e w'=>e=.returned (.bool (decide (fls xs=fls ys)))/\Below w.heap.size w w':=by
 have O:=Ab (Yj E F c d xs ys w G k n m T M);clear G k;generalize decide (fls xs=fls ys)=r at*;go_enter Tryz.func17,Tryz.ntmps17
 go_wp2_with fail
 refine(Aa O).mono ?_;rintro e U ⟨rfl,H⟩;have I:=Ab H;clear H;go_wp2;go_ret;exact⟨rfl,Aa I⟩
theorem Z69 {w:World}{v u:Value}{a b:List Fl}(I:LIn w v a)(k:LIn w u b):
 Calls Tryz.prog 17 #[v,u] w fun e w'=>e=.returned (.bool (decide (a=b)))/\Below w.heap.size w w':=by
 obtain⟨ad,c,out,rfl,G,F⟩:=I;obtain⟨O,d,H,rfl,k2,E⟩:=k;refine(Xe ad O c d out H w G k2 _ _ (PH F) (PH E)).mono ?_;rintro e w' ⟨rfl,M⟩;rw[F,E];exact⟨rfl,M⟩
theorem Z02 {w:World}{v u:Value}{a b:List Fl}(E:LIn w v a)(k:LIn w u b)(e:a=b):
 Calls Tryz.prog 17 #[v,u] w fun e w'=>e=.returned (.bool true)/\Below w.heap.size w w':=by
 have:=Z69 E k
 rw[decide_eq_true e]at this;exact this
theorem Z1w {w w':World}(E:∃q,w'=w.drewN q):Below w.heap.size w w':=by
 obtain⟨q,rfl⟩:=E;exact Ae (Below.refl _ _) q
theorem Q3 (n H:Nat)(a:Option Addr)(bs:List Nat)(w:World)(ag:bs.length=n)(bi:n<=H)(af:PkIn w a H bs)(au:∀x∈bs,x<256)(b5:n<=9223372036854775807)(bq:UnC True):
 Calls Tryz.prog 4 #[.slice a n H] w fun e w'=>e=.returned (.bool true)/\Below w.heap.size w w':=by
 obtain⟨de,hi,c5,dl,c6⟩:=info_parts I7;have aj:=Ab (Ps n H a bs w ag bi af au b5 (.inl Z8n));have ax:=Ab (fun(W:World) (U:Below w.heap.size w W)=>Tz n H a bs W ag bi (af.below U) au b5 (.inl Z8n));have Z:Hid (¬12000<n->∀(W:World) (U:Below w.heap.size w W),Calls Tryz.prog 16 #[.slice a n H] W fun e w'=>RdA W bs e w'):=Ab (fun h W U=>Qw a n H bs W ag (by omega) bi (af.below U) au bq);have I:12000<n->readE bs=2:=fun h=>by unfold readE;rw[if_pos (by omega)]
 have ao:readE bs≠0->readL bs= []:=fun h=>by unfold readL;rw[if_pos h]
 have dn:(readL bs).length<=12:=by
  by_cases cj:readE bs=0
  . obtain⟨l,_,I,_,_,cv,_⟩:=C6 cj;rw[cv];exact(Mr I).1
  . rw[ao cj];exact VH _
 unfold RdA at aj Z;obtain⟨M,bc⟩:=exq (readE bs);obtain⟨fs,bf⟩:=exq (readL bs);obtain⟨k,al⟩:=exq (fs.length);rw[bc,bf]at aj ax ao Z;rw[bc]at I;rw[bf,al]at dn;have co:(fs.map Fl.name).length=k:=by simpa using al
 have ac:=Ab ao;have az:=Ab I;have T:=Ab al;have b9:=Ab co;clear ag af au ao I al co bc bf bq;go_enter Tryz.func4,Tryz.ntmps4
 go_wp2_with fail
 refine(Aa aj).mono ?_;rintro e df ⟨dx,rfl,a2,ck⟩;obtain⟨d8,c1,bv⟩:=a2.shape;rw[Aa T]at bv;subst bv;have cd:=Ab a2;have ap:=Ab ck;clear a2 ck aj;go_wp2_with fail
 refine(Aa ax df (Aa ap)).mono ?_;rintro e dh ⟨dm,rfl,a3,a4⟩
 obtain⟨bz,c2,dp⟩:∃bz c2,dm=.slice bz k c2:=by
  rcases a3.cases with ⟨ba,I⟩|⟨g,cy,ba,_⟩
  . have:=Aa b9;rw[I]at this;exact⟨none,0,by rw[ba,<-this];rfl⟩
  . exact⟨_,cy,by rw[ba,Aa b9]⟩
 subst dp;have ct:=Ab a3;have Y:=Ab ((Aa ap).trans (a4.mono (Aa ap).size));have a6:=Ab a4;clear a3 a4 ax;go_wp2_with fail
 refine(P5 dh).mono ?_;rintro e w3 ⟨rfl,av⟩;have O:=Ab ((Aa Y).trans (av.mono (Aa Y).size));have cg:=Ab ((Aa cd).below ((Aa a6).trans (av.mono (Aa a6).size)));have ah:=Ab ((Aa ct).below av);clear av ap Y a6 cd ct;have c7:((M:Int)!=(M:Int))=false:=by simp
 have dj:((M:Int)==(M:Int))=true:=by simp
 by_cases hn:12000<n
 . have cw:=Aa az hn;subst cw;have a9:=Aa ac (by decide);subst a9;have aa:=Aa T;simp only[WE]at aa;subst aa;have c9:(12000:Int)<(n:Int):=by omega
   clear hn az ac Z;go_wp2;go_ret;exact⟨rfl,Aa O⟩
 have c9:¬(12000:Int)<(n:Int):=by omega
 have b7:=Ab (Aa Z hn w3 (Aa O));clear hn az Z;go_wp2_with fail
 refine(Aa b7).mono ?_;rintro e F ⟨d5,rfl,⟨d6,bh,xs,cm,bg,ai⟩,ak⟩;rw[Aa T]at cm;subst cm;have ar:=Ab ((Aa O).trans (ak.mono (Aa O).size));have ci:=Ab ((Aa cg).below ak);have bu:=Ab ((Aa ah).below ak);clear ak cg ah O b7
 by_cases bk:M=0
 . subst bk;have bo:xs.length=k:=by rw[<-Aa T,<-ai];simp[fls]
   have aw:=Ab bg;have a1:=Ab ai;have b8:=Ab bo;clear bg ai bo c7 dj ac;go_wp2;go_loopw [9,11,66] (fun di _ i wr=>∃j:Nat,j<=k/\i=.int .i64 (j:Int)/\Hid (SRow wr F.heap.size di ((fs.take j).map Fl.name))/\Hid (Below F.heap.size F wr)) (fun _ _ i _=>k-(intOf i).toNat)
   case atStart=>exact⟨0,VH _,rfl,Ab (SRow.nil _ _),Ab (Below.refl _ _)⟩
   case round=>
    obtain⟨j,dv,rfl,bj,G⟩:=hrel
    by_cases da:j<k
    . obtain⟨x,bn,dc⟩:=Ob (xs:=xs) (k:=j) (by rw[Aa b8];exact da);obtain⟨b,o,rfl,hb,c0,c1,c2,b3,bh⟩:=(Aa aw).get (Aa G) bn;have ds:=(Aa G).size
      have bd:(fs.take (j+1)).map Fl.name=(fs.take j).map Fl.name++ [x.f.name]:=by
       have:fs[j]? =some x.f:=by rw[<-Aa a1];simp[fls,bn]
       rw[Eu this];simp
      have ae:((fs.take j).map Fl.name).length=j:=by rw[WL,VL,Aa T];omega
      unfold Fv.sl at c1;have E:=Aa bj;unfold SRow at E;rw[ae]at E;obtain⟨db,b0⟩:=exq ((fs.take j).map Fl.name);rw[b0]at E bd ae;have cz:=Ab bd;clear b0;have dd:=Ab (fun o1 o2:Obj=>(E.alloc o1).alloc o2);have Y:=Ab (fun o1 o2:Obj=>((Aa G).alloc ds o1).alloc (by simp;omega) o2);have cp:∀g,u9.ownBlock=some g->F.heap.size<=g:=fun g e=>(E.lt g e).1
      have dq:=Ab cp;have dt:=Ab ae;obtain⟨⟨nml,bys,st,nd,gn⟩,dz,dy⟩:=x;dsimp only at c0 c1 c2 b3 bh;obtain⟨nm,a7⟩:=exq (B nml);rw[a7]at c0;have du:=Ab a7;generalize bys.length=bl at c1;clear bn dc bd ae a7 E cp;go_wp2_with (at_builtin;refine wpList_append_own_at _ rfl _ _ 43 rfl F.heap.size 9 de (.string ByteArray.empty) 1 16 Tryz.underlying43 hi c5 dl c6 rfl (by decide) _ j (Qj db) rfl (Aa dd _ _) ⟨wr.heap.size+1,0,none⟩ 1 1 [.string nm] rfl rfl (fun i u hi=>Lu (Jo (by simp)) hi) (Bc rfl) (by unfold maxLen;omega) (by omega) (by simp;omega) ?_)
      intro v' bw bb cn _ _
      have ah:Hid (SRow bw F.heap.size v' ((fs.take (j+1)).map Fl.name)):=Ab (by
       rw[Aa cz];unfold SRow;rw[VE,Aa dt,Qj,WU];rw[<-Aa du]at bb;exact bb)
      have O:Hid (Below F.heap.size F bw):=Ab ((Aa Y _ _).grown cn (by simp;omega) (Aa dq));clear bb cn c0 c1 c2 b3 bh;go_wp2;go_roundw
      case rel=>exact⟨j+1,by omega,by go_num,ah,O⟩
      case measure=>simp[intOf];omega
    . obtain rfl:k=j:=by omega
      have ce:fs.take k=fs:=VV (by rw[Aa T];exact VB _);have E:=Aa bj;rw[ce]at E;have cq:=Ab (Z02 ((Aa ci).below (Aa G)) (Z6s ((Aa aw).below (Aa G) (VB _)) (Aa b8)) (Aa a1).symm);have ay:=Ab (fun(W:World) (U:Below wr.heap.size wr W)=>Z2y (((Aa bu).below (Aa G)).below U) (E.below U));rw[decide_eq_true rfl]at ay;have a5:=Ab ((Aa ar).trans ((Aa G).mono (Aa ar).size));clear ce E bj G ci bu aw a1 ar;go_wp2_with fail
      refine(Aa cq).mono ?_;rintro e w6 ⟨rfl,a8⟩;have b4:=Ab (Aa ay w6 a8);have bm:=Ab ((Aa a5).trans (a8.mono (Aa a5).size));clear a8 ay cq a5;go_wp2_with fail
      refine(Aa b4).mono ?_;rintro e d7 ⟨rfl,cu⟩;have c8:=Ab ((Aa bm).trans ((Z1w cu).mono (Aa bm).size));clear cu b4 bm;go_wp2;go_ret;exact⟨rfl,Aa c8⟩
 . have a9:=Aa ac bk;subst a9;have aa:=Aa T;simp only[WE]at aa;subst aa;have dr:((M:Int)==0)=false:=by rw[beq_eq_false_iff_ne];omega
   have dw:((M:Int)!=0)=true:=by rw[bne,dr];rfl
   clear bk bg ai ac;go_wp2;go_ret;exact⟨rfl,Aa ar⟩
open Go.RowKit Go.ChangeShapes Go.WideShapes Go.ChangeAt Go.Deep
theorem RV (b o j:Nat):(⟨b,o,none⟩:Addr).add j=⟨b,o+j,none⟩:=by unfold Addr.add;split<;>simp_all
theorem Z7a:Tryz.prog.cellsOf 5=1:=by kernel_rfl
open Go.RowKit Go.ChangeShapes Go.WideShapes Go.ChangeAt Go.Deep
theorem Z5h:Tryz.prog.bytesOf 5=1:=by kernel_rfl
theorem Z4b {H:Type}{enc:TypeId×Value->H}{w:World}{ah:Nat}{v:Value}{x:DataW H×List MemPlace}
 (h:DataW.trod enc Tryz.prog w 0 (fun _=>true) true ah 23 [v]=some x) (ai:∀n∈x.1.weights Tryz.prog 23,n<=140737488351232):∃a c bs,v=.slice a bs.length c/\BsIn w a c bs/\bs.length<=140737488351232:=by
 rcases open_ints Tryz.underlying23 Tryz.underlying5 Z7a h with ⟨F,_⟩|⟨a,l,c,E,F,_,hl,hm,ac,ag,T,aa⟩
 . simp at F
   subst F;exact⟨none,0,[],rfl,.inl ⟨rfl,rfl,rfl⟩,by simp⟩
 . simp at F
   subst F;have ak:E.length=c:=by simpa using ac
   have hb:∀j,j<E.length->0<=E.getD j 0/\E.getD j 0<=255:=by
    intro j G;have aj:E.getD j 0∈E:=by simp[List.getD,G]
    have:=aa _ aj
    simpa[Lit.wf,IntKind.min,IntKind.max,IntKind.signed,IntKind.bits]using this
   have I:((E.take l).map fun n=>UInt8.ofNat n.toNat).length=l:=by simp;omega
   have hc:c<=140737488351232:=by
    apply ai
    rw[ag];simp only[DataW.weights,Tryz.underlying23,Z5h];refine WH.2 (.inl ?_);simp[lits]
    omega
   refine⟨some a,c,(E.take l).map fun n=>UInt8.ofNat n.toNat,by rw[I], ?_,by rw[I];omega⟩
   by_cases Z:l=0
   . subst Z;exact .inr (.inl ⟨by simp,a,rfl⟩)
   . obtain⟨b,o,af⟩:=a;have M:=T 0 (by omega);have Y:af=none:=by simpa[Addr.add]using World.cell?_spot M
     subst Y;refine .inr (.inr ⟨b,o,rfl, ?_,by rw[I];exact hl, ?_⟩)
     . have:=World.block_lt_of_cell? _ _ M
       simpa[Addr.add]using this
     . intro j G;rw[I]at G;have U:=T j (by omega);rw[RV]at U;rw[U];have O:j<E.length:=by omega
       have ae:=hb j O;have e:((E.take l).map fun n=>UInt8.ofNat n.toNat).getD j 0=UInt8.ofNat (E.getD j 0).toNat:=by simp[List.getD,G,O]
       rw[e]
       have e2:(UInt8.ofNat (E.getD j 0).toNat).toNat=(E.getD j 0).toNat:=by
        rw[UInt8.toNat_ofNat'];omega
       rw[e2,YU ae.1]
instance:Inhabited Fv:=⟨⟨⟨[],[],0,0,false⟩,none,0⟩⟩
end Go.Proofs.YtleocpdblhbimaaGreatDoor
