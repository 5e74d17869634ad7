import Derived.Test.YtleocpdblhbimaaGreatDoorQ24
import Derived.Test.YtleocpdblhbimaaGreatDoorQ38
import Derived.Deep.Slices
import Derived.SizedLaws
import Derived.Deep.Strs
set_option linter.unusedSimpArgs false
set_option maxHeartbeats 4000000
namespace Go.Proofs.YtleocpdblhbimaaGreatDoor
open Go.RowKit
set_option linter.unusedVariables false
set_option maxRecDepth 100000
theorem Z8c (a b:Fl):(a=b)↔(a.name=b.name/\a.bytes=b.bytes/\a.stamp=b.stamp/\a.node=b.node/\a.gone=b.gone):=by
 cases a;cases b;simp
theorem Z03 (x y:Fv)(w:World)(U:FvIn w x)(ac:FvIn w y):
 Calls Tryz.prog 11 #[x.val,y.val] w fun e w'=>e=.returned (.bool (decide (x.f=y.f)))/\Below w.heap.size w w':=by
 have I:=Ab (fun W (Y:Below w.heap.size w W)=>Z1q (U.bs.below Y (VB _)) (ac.bs.below Y (VB _)));have Z:=Z8c x.f y.f
 have hn:((B x.f.name).toList==(B y.f.name).toList)=decide (x.f.name=y.f.name):=by
  rw[Fh,Fh,XZ,beq_iff_eq,decide_eq_true_iff]
 rw[Nw,Nw];obtain⟨r,hr⟩:=exq (decide (x.f=y.f));have aa:r=decide (x.f.name=y.f.name/\x.f.bytes=y.f.bytes/\x.f.stamp=y.f.stamp/\x.f.node=y.f.node/\x.f.gone=y.f.gone):=by rw[<-hr];exact decide_eq_decide.2 Z
 rw[hr];clear Z hr U ac;have G:=Ab aa;clear aa
 by_cases H:x.f.name=y.f.name
 . rw[decide_eq_true H]at hn
   by_cases F:x.f.bytes=y.f.bytes
   . by_cases M:x.f.stamp=y.f.stamp
     . by_cases O:x.f.node=y.f.node
       . have E:r=decide (x.f.gone=y.f.gone):=by rw[Aa G];exact decide_eq_decide.2 ⟨fun k=>k.2.2.2.2,fun k=>⟨H,F,M,O,k⟩⟩
         rw[E];rw[decide_eq_true F]at I;clear H F E G;generalize B x.f.name=t at*;generalize B y.f.name=T at*;generalize x.f.bytes.length=n at*;generalize y.f.bytes.length=n2 at*;generalize x.f.stamp=af at*;generalize y.f.stamp=ae at*;generalize x.f.node=ah at*;generalize y.f.node=ag at*;generalize x.f.gone=g1 at*;generalize y.f.gone=g2 at*;subst M;subst O;go_enter Tryz.func11,Tryz.ntmps11
         go_wp2_with (go_at_call 13;refine(Aa I _ (Ck (Ck (Below.refl _ _) _) _)).mono ?_;rintro e w' ⟨rfl,rfl⟩)
         go_ret;exact⟨Dq (by cases g1<;>cases g2<;>rfl),Ck (Ck (Below.refl _ _) _) _⟩
       . have E:r=false:=by rw[Aa G];exact decide_eq_false (fun k=>O k.2.2.2.1)
         have hb:(x.f.node==y.f.node)=false:=by simpa using O
         rw[E];rw[decide_eq_true F]at I;clear H F E G O;generalize B x.f.name=t at*;generalize B y.f.name=T at*;generalize x.f.bytes.length=n at*;generalize y.f.bytes.length=n2 at*;generalize x.f.stamp=af at*;generalize y.f.stamp=ae at*;subst M;go_enter Tryz.func11,Tryz.ntmps11
         go_wp2_with (go_at_call 13;refine(Aa I _ (Ck (Ck (Below.refl _ _) _) _)).mono ?_;rintro e w' ⟨rfl,rfl⟩)
         go_ret;exact⟨rfl,Ck (Ck (Below.refl _ _) _) _⟩
     . have E:r=false:=by rw[Aa G];exact decide_eq_false (fun k=>M k.2.2.1)
       have hb:(x.f.stamp==y.f.stamp)=false:=by simpa using M
       rw[E];rw[decide_eq_true F]at I;clear H F E G M;generalize B x.f.name=t at*;generalize B y.f.name=T at*;generalize x.f.bytes.length=n at*;generalize y.f.bytes.length=n2 at*;go_enter Tryz.func11,Tryz.ntmps11
       go_wp2_with (go_at_call 13;refine(Aa I _ (Ck (Ck (Below.refl _ _) _) _)).mono ?_;rintro e w' ⟨rfl,rfl⟩)
       go_ret;exact⟨rfl,Ck (Ck (Below.refl _ _) _) _⟩
   . have E:r=false:=by rw[Aa G];exact decide_eq_false (fun k=>F k.2.1)
     rw[E];rw[decide_eq_false F]at I;clear H F E G;generalize B x.f.name=t at*;generalize B y.f.name=T at*;generalize x.f.bytes.length=n at*;generalize y.f.bytes.length=n2 at*;go_enter Tryz.func11,Tryz.ntmps11
     go_wp2_with (go_at_call 13;refine(Aa I _ (Ck (Ck (Below.refl _ _) _) _)).mono ?_;rintro e w' ⟨rfl,rfl⟩)
     go_ret;exact⟨rfl,Ck (Ck (Below.refl _ _) _) _⟩
 . have E:r=false:=by rw[Aa G];exact decide_eq_false (fun k=>H k.1)
   rw[E];rw[decide_eq_false H]at hn;clear H E G I;generalize B x.f.name=t at*;generalize B y.f.name=T at*;generalize x.f.bytes.length=n at*;generalize y.f.bytes.length=n2 at*;go_enter Tryz.func11,Tryz.ntmps11
   go_wp2;go_ret;exact⟨rfl,Ck (Ck (Below.refl _ _) _) _⟩
theorem Z3g {E:Type}{a b:List E}{k:Nat}{x y:E}(H:a[k]? =some x)(F:b[k]? =some y)(G:x≠y):a≠b:=by
 rintro rfl;rw[H]at F;exact G (VM F)
theorem Z3h {E:Type}{a b:List E}{k:Nat}{x:E}(F:a.take k=b.take k)(G:a[k]? =some x)(H:b[k]? =some x):a.take (k+1)=b.take (k+1):=by
 rw[XM,XM,F,G,H]
theorem Yj (ag az:Option Addr)(c d:Nat)(xs ys:List Fv)(w:World)(E:FsIn w ag c xs)(k:FsIn w az d ys)(n m:Nat)(F:xs.length=n)(M:ys.length=m):
 Calls Tryz.prog 44 #[.slice ag n c,.slice az m d,.func (.func 11) #[] #[]] w fun e w'=>e=.returned (.bool (decide (fls xs=fls ys)))/\Below w.heap.size w w':=by
 have I:(fls xs).length=n:=by simp[fls,F]
 have H:(fls ys).length=m:=by simp[fls,M]
 have bk:=E.lim;rw[F]at bk
 by_cases aw:n=m
 . subst aw;obtain⟨r,hr⟩:=exq (decide (fls xs=fls ys));rw[hr];have a2:=Ab E;have ae:=Ab k;have bc:=Ab F;have bm:=Ab M;have a3:=Ab hr;have bj:=Ab I;have a9:=Ab H;have bg:((n:Int)!=(n:Int))=false:=by simp
   clear E k F M hr I H;go_enter Tryz.func44,Tryz.ntmps44
   go_wp2;go_loopw [7,8,9,17] (fun _ _ _ i wr=>∃k:Nat,k<=n/\i=.int .i64 (k:Int)/\Hid ((fls xs).take k=(fls ys).take k)/\Hid (Below w.heap.size w wr)) (fun _ _ _ i _=>n-(intOf i).toNat)
   case atStart=>exact⟨0,VH _,rfl,by simp;exact trivial,Below.refl _ _⟩
   case round=>
    obtain⟨k,b5,rfl,ao,G⟩:=hrel
    by_cases ak:k<n
    . obtain⟨x,Y,ar⟩:=Ob (xs:=xs) (k:=k) (by rw[Aa bc];exact ak);obtain⟨y,T,a4⟩:=Ob (xs:=ys) (k:=k) (by rw[Aa bm];exact ak);obtain⟨b,o,a8,hb,c0,c1,c2,b7,bu⟩:=(Aa a2).get (Aa G) Y;obtain⟨bz,b4,bh,cd,d0,U,a5,ax,a6⟩:=(Aa ae).get (Aa G) T;have b0:=(Aa G).size;have ah:(fls xs)[k]? =some x.f:=by simp[fls,Y]
      have ap:(fls ys)[k]? =some y.f:=by simp[fls,T]
      have af:=Ab ah;have aj:=Ab ap;have O:=Ab (fun W (au:Below w.heap.size w W)=>Z03 x y W (((Aa a2).all x ar).below au (VB _)) (((Aa ae).all y a4).below au (VB _)));rw[Nw,Nw]at O;have ac:x.sl=.slice x.a x.f.bytes.length x.c:=rfl;have al:y.sl=.slice y.a y.f.bytes.length y.c:=rfl;rw[ac]at c1;rw[al]at U;obtain⟨q,Z⟩:=exq (decide (x.f=y.f));rw[Z]at O;have ay:=Ab Z;clear Y T ar a4 ah ap ac al Z;subst a8;subst bh;generalize B x.f.name=t at*;generalize B y.f.name=bw at*;generalize x.f.bytes.length=b9 at*;generalize y.f.bytes.length=b8 at*;generalize x.f.stamp=b3 at*;generalize y.f.stamp=bq at*;generalize x.f.node=n1 at*;generalize y.f.node=n2 at*;generalize x.f.gone=g1 at*;generalize y.f.gone=g2 at*;have ai:=Ab (fun o1 o2=>Ck (Ck (Aa G) o1) o2);have a7:=fun o=>Sw (o:=o) d0
      have bf:=fun o=>Sw (o:=o) U
      have bo:=fun o=>Sw (o:=o) a5
      have bn:=fun o=>Sw (o:=o) ax
      have bd:=fun o=>Sw (o:=o) a6
      clear d0 U a5 ax a6;go_wp2_with fail
      refine(Aa O _ (Aa ai _ _)).mono ?_;rintro e bv ⟨rfl,av⟩;have aa:=Ab ((Aa ai _ _).trans (av.mono (by simp;omega)));clear av a7 bf bo bn bd
      cases q with
      |false=>
       have bi:r=false:=by
        rw[<-Aa a3];exact decide_eq_false (Z3g (Aa af) (Aa aj) (of_decide_eq_false (Aa ay)))
       subst bi;go_wp2;go_ret;exact⟨rfl,Aa aa⟩
      |true=>
       have a1:x.f=y.f:=of_decide_eq_true (Aa ay);have ba:=Ab (Z3h (Aa ao) (Aa af) (by rw[a1];exact Aa aj));clear a1;go_wp2;go_roundw
       case rel=>exact⟨k+1,by omega,by go_num,Aa ba,Aa aa⟩
       case measure=>simp[intOf];omega
    . obtain rfl:n=k:=by omega
      have bb:r=true:=by
       rw[<-Aa a3];have:=Aa ao
       rw[VV (by rw[Aa bj];exact VB _),VV (by rw[Aa a9];exact VB _)]at this;exact decide_eq_true this
      subst bb;go_wp2;go_ret;exact⟨rfl,Aa G⟩
 . have e:decide (fls xs=fls ys)=false:=decide_eq_false (fun E=>aw (by rw[<-I,<-H,E]));rw[e];have bg:((n:Int)!=(m:Int))=true:=by simp;omega
   clear E k F M e I H;go_enter Tryz.func44,Tryz.ntmps44
   go_wp2;go_ret;exact⟨rfl,Below.refl _ _⟩
theorem Xe (F E:Option Addr)(c d:Nat)(xs ys:List Fv)(w:World)(G:FsIn w F c xs)(k:FsIn w E d ys)(n m:Nat)(M:xs.length=n)(T:ys.length=m):
 Calls Tryz.prog 17 #[.slice F n c,.slice E m d] w fun e w'=>e=.returned (.bool (decide (fls xs=fls ys)))/\Below w.heap.size w w':=by
 have O:=Ab (Yj F E c d xs ys w G k n m M T);clear G k;generalize decide (fls xs=fls ys)=r at*;go_enter Tryz.func17,Tryz.ntmps17
 go_wp2_with fail
 refine(Aa O).mono ?_;rintro e U ⟨rfl,H⟩;have I:=Ab H;clear H;go_wp2;go_ret;exact⟨rfl,Aa I⟩
end Go.Proofs.YtleocpdblhbimaaGreatDoor
namespace Go.Proofs.YtleocpdblhbimaaGreatDoor
open Go.RowKit
set_option linter.unusedVariables false
theorem Z69 {w:World}{v u:Value}{a b:List Fl}(O:LIn w v a)(k:LIn w u b):
 Calls Tryz.prog 17 #[v,u] w fun e w'=>e=.returned (.bool (decide (a=b)))/\Below w.heap.size w w':=by
 obtain⟨ad,c,out,rfl,M,F⟩:=O;obtain⟨I,d,H,rfl,k2,E⟩:=k;refine(Xe ad I c d out H w M k2 _ _ (PH F) (PH E)).mono ?_;rintro e w' ⟨rfl,G⟩;rw[F,E];exact⟨rfl,G⟩
theorem Z02 {w:World}{v u:Value}{a b:List Fl}(E:LIn w v a)(k:LIn w u b)(e:a=b):
 Calls Tryz.prog 17 #[v,u] w fun e w'=>e=.returned (.bool true)/\Below w.heap.size w w':=by
 have:=Z69 E k
 rw[decide_eq_true e]at this;exact this
end Go.Proofs.YtleocpdblhbimaaGreatDoor
namespace Go.Proofs.YtleocpdblhbimaaGreatDoor
open Go.RowKit
set_option linter.unusedVariables false
set_option maxRecDepth 100000
theorem Z1w {w w':World}(E:∃q,w'=w.drewN q):Below w.heap.size w w':=by
 obtain⟨q,rfl⟩:=E;exact Ae (Below.refl _ _) q
theorem Q3 (n I:Nat)(a:Option Addr)(bs:List Nat)(w:World)(ao:bs.length=n)(a8:n<=I)(al:PkIn w a I bs)(aj:∀x∈bs,x<256)(cn:n<=9223372036854775807)(ci:UnC True):
 Calls Tryz.prog 4 #[.slice a n I] w fun e w'=>e=.returned (.bool true)/\Below w.heap.size w w':=by
 obtain⟨cy,hi,dq,du,dc⟩:=info_parts I7;have ae:=Ab (Ps n I a bs w ao a8 al aj cn (.inl Z8n));have bg:=Ab (fun(W:World) (U:Below w.heap.size w W)=>Tz n I a bs W ao a8 (al.below U) aj cn (.inl Z8n));have ac:Hid (¬12000<n->∀(W:World) (U:Below w.heap.size w W),Calls Tryz.prog 16 #[.slice a n I] W fun e w'=>RdA W bs e w'):=Ab (fun h W U=>Qw a n I bs W ao (by omega) a8 (al.below U) aj ci);have O:12000<n->readE bs=2:=fun h=>by unfold readE;rw[if_pos (by omega)]
 have ak:readE bs≠0->readL bs= []:=fun h=>by unfold readL;rw[if_pos h]
 have c9:(readL bs).length<=12:=by
  by_cases co:readE bs=0
  . obtain⟨l,_,O,_,_,dl,_⟩:=C6 co;rw[dl];exact(Mr O).1
  . rw[ak co];exact VH _
 unfold RdA at ae ac;obtain⟨M,bh⟩:=exq (readE bs);obtain⟨fs,bb⟩:=exq (readL bs);obtain⟨k,ag⟩:=exq (fs.length);rw[bh,bb]at ae bg ak ac;rw[bh]at O;rw[bb,ag]at c9;have cj:(fs.map Fl.name).length=k:=by simpa using ag
 have aa:=Ab ak;have a1:=Ab O;have H:=Ab ag;have b9:=Ab cj;clear ao al aj ak O ag cj bh bb ci;go_enter Tryz.func4,Tryz.ntmps4
 go_wp2_with fail
 refine(Aa ae).mono ?_;rintro e df ⟨dv,rfl,bc,cm⟩;obtain⟨dy,c1,bv⟩:=bc.shape;rw[Aa H]at bv;subst bv;have ck:=Ab bc;have ar:=Ab cm;clear bc cm ae;go_wp2_with fail
 refine(Aa bg df (Aa ar)).mono ?_;rintro e dr ⟨dm,rfl,a9,a4⟩
 obtain⟨b5,c2,c7⟩:∃b5 c2,dm=.slice b5 k c2:=by
  rcases a9.cases with ⟨a6,O⟩|⟨g,dn,a6,_⟩
  . have:=Aa b9;rw[O]at this;exact⟨none,0,by rw[a6,<-this];rfl⟩
  . exact⟨_,dn,by rw[a6,Aa b9]⟩
 subst c7;have cd:=Ab a9;have Z:=Ab ((Aa ar).trans (a4.mono (Aa ar).size));have a2:=Ab a4;clear a9 a4 bg;go_wp2_with fail
 refine(P5 dr).mono ?_;rintro e w3 ⟨rfl,av⟩;have T:=Ab ((Aa Z).trans (av.mono (Aa Z).size));have b7:=Ab ((Aa ck).below ((Aa a2).trans (av.mono (Aa a2).size)));have au:=Ab ((Aa cd).below av);clear av ar Z a2 ck cd;have dp:((M:Int)!=(M:Int))=false:=by simp
 have dd:((M:Int)==(M:Int))=true:=by simp
 by_cases hn:12000<n
 . have da:=Aa a1 hn;subst da;have a7:=Aa aa (by decide);subst a7;have Y:=Aa H;simp only[WE]at Y;subst Y;have c8:(12000:Int)<(n:Int):=by omega
   clear hn a1 aa ac;go_wp2;go_ret;exact⟨rfl,Aa T⟩
 have c8:¬(12000:Int)<(n:Int):=by omega
 have bz:=Ab (Aa ac hn w3 (Aa T));clear hn a1 ac;go_wp2_with fail
 refine(Aa bz).mono ?_;rintro e F ⟨dz,rfl,⟨d6,ax,xs,bu,bd,af⟩,ai⟩;rw[Aa H]at bu;subst bu;have ap:=Ab ((Aa T).trans (ai.mono (Aa T).size));have bw:=Ab ((Aa b7).below ai);have bo:=Ab ((Aa au).below ai);clear ai b7 au T bz
 by_cases bi:M=0
 . subst bi;have cu:xs.length=k:=by rw[<-Aa H,<-af];simp[fls]
   have az:=Ab bd;have bn:=Ab af;have cq:=Ab cu;clear bd af cu dp dd aa;go_wp2;go_loopw [9,11,66] (fun de _ i wr=>∃j:Nat,j<=k/\i=.int .i64 (j:Int)/\Hid (SRow wr F.heap.size de ((fs.take j).map Fl.name))/\Hid (Below F.heap.size F wr)) (fun _ _ i _=>k-(intOf i).toNat)
   case atStart=>exact⟨0,VH _,rfl,Ab (SRow.nil _ _),Ab (Below.refl _ _)⟩
   case round=>
    obtain⟨j,dx,rfl,bj,G⟩:=hrel
    by_cases db:j<k
    . obtain⟨x,a5,dt⟩:=Ob (xs:=xs) (k:=j) (by rw[Aa cq];exact db);obtain⟨b,o,rfl,hb,c0,c1,c2,ce,ax⟩:=(Aa az).get (Aa G) a5;have cw:=(Aa G).size
      have ba:(fs.take (j+1)).map Fl.name=(fs.take j).map Fl.name++ [x.f.name]:=by
       have:fs[j]? =some x.f:=by rw[<-Aa bn];simp[fls,a5]
       rw[Eu this];simp
      have ah:((fs.take j).map Fl.name).length=j:=by rw[WL,VL,Aa H];omega
      unfold Fv.sl at c1;have E:=Aa bj;unfold SRow at E;rw[ah]at E;obtain⟨dh,cp⟩:=exq ((fs.take j).map Fl.name);rw[cp]at E ba ah;have c5:=Ab ba;clear cp;have cz:=Ab (fun o1 o2:Obj=>(E.alloc o1).alloc o2);have Z:=Ab (fun o1 o2:Obj=>((Aa G).alloc cw o1).alloc (by simp;omega) o2);have b4:∀g,u9.ownBlock=some g->F.heap.size<=g:=fun g e=>(E.lt g e).1
      have ds:=Ab b4;have c6:=Ab ah;obtain⟨⟨nml,bys,st,nd,gn⟩,d7,d8⟩:=x;dsimp only at c0 c1 c2 ce ax;obtain⟨nm,bf⟩:=exq (B nml);rw[bf]at c0;have cv:=Ab bf;generalize bys.length=bl at c1;clear a5 dt ba ah bf E b4;go_wp2_with (at_builtin;refine wpList_append_own_at _ rfl _ _ 43 rfl F.heap.size 9 cy (.string ByteArray.empty) 1 16 Tryz.underlying43 hi dq du dc rfl (by decide) _ j (Qj dh) rfl (Aa cz _ _) ⟨wr.heap.size+1,0,none⟩ 1 1 [.string nm] rfl rfl (fun i u hi=>Lu (Jo (by simp)) hi) (Bc rfl) (by unfold maxLen;omega) (by omega) (by simp;omega) ?_)
      intro v' cg aw bq _ _
      have au:Hid (SRow cg F.heap.size v' ((fs.take (j+1)).map Fl.name)):=Ab (by
       rw[Aa c5];unfold SRow;rw[VE,Aa c6,Qj,WU];rw[<-Aa cv]at aw;exact aw)
      have T:Hid (Below F.heap.size F cg):=Ab ((Aa Z _ _).grown bq (by simp;omega) (Aa ds));clear aw bq c0 c1 c2 ce ax;go_wp2;go_roundw
      case rel=>exact⟨j+1,by omega,by go_num,au,T⟩
      case measure=>simp[intOf];omega
    . obtain rfl:k=j:=by omega
      have b8:fs.take k=fs:=VV (by rw[Aa H];exact VB _);have E:=Aa bj;rw[b8]at E;have b0:=Ab (Z02 ((Aa bw).below (Aa G)) (Z6s ((Aa az).below (Aa G) (VB _)) (Aa cq)) (Aa bn).symm);have a3:=Ab (fun(W:World) (U:Below wr.heap.size wr W)=>Z2y (((Aa bo).below (Aa G)).below U) (E.below U));rw[decide_eq_true rfl]at a3;have bk:=Ab ((Aa ap).trans ((Aa G).mono (Aa ap).size));clear b8 E bj G bw bo az bn ap;go_wp2_with fail
      refine(Aa b0).mono ?_;rintro e w6 ⟨rfl,ay⟩;have ct:=Ab (Aa a3 w6 ay);have bm:=Ab ((Aa bk).trans (ay.mono (Aa bk).size));clear ay a3 b0 bk;go_wp2_with fail
      refine(Aa ct).mono ?_;rintro e dw ⟨rfl,b3⟩;have di:=Ab ((Aa bm).trans ((Z1w b3).mono (Aa bm).size));clear b3 ct bm;go_wp2;go_ret;exact⟨rfl,Aa di⟩
 . have a7:=Aa aa bi;subst a7;have Y:=Aa H;simp only[WE]at Y;subst Y;have dj:((M:Int)==0)=false:=by rw[beq_eq_false_iff_ne];omega
   have d5:((M:Int)!=0)=true:=by rw[bne,dj];rfl
   clear bi bd af aa;go_wp2;go_ret;exact⟨rfl,Aa ap⟩
end Go.Proofs.YtleocpdblhbimaaGreatDoor
namespace Go.Proofs.YtleocpdblhbimaaGreatDoor
open Go.RowKit Go.ChangeShapes Go.WideShapes Go.ChangeAt Go.Deep
set_option linter.unusedVariables false
theorem RV (b o j:Nat):(⟨b,o,none⟩:Addr).add j=⟨b,o+j,none⟩:=by unfold Addr.add;split<;>simp_all
theorem Z7a:Tryz.prog.cellsOf 5=1:=by kernel_rfl
end Go.Proofs.YtleocpdblhbimaaGreatDoor
namespace Go.Proofs.YtleocpdblhbimaaGreatDoor
open Go.RowKit Go.ChangeShapes Go.WideShapes Go.ChangeAt Go.Deep
set_option linter.unusedVariables false
set_option maxRecDepth 100000
theorem Z5h:Tryz.prog.bytesOf 5=1:=by kernel_rfl
theorem Z4b {H:Type}{enc:TypeId×Value->H}{w:World}{ai:Nat}{v:Value}{x:DataW H×List MemPlace}
 (h:DataW.trod enc Tryz.prog w 0 (fun _=>true) true ai 23 [v]=some x) (ah:∀n∈x.1.weights Tryz.prog 23,n<=140737488351232):∃a c bs,v=.slice a bs.length c/\BsIn w a c bs/\bs.length<=140737488351232:=by
 rcases open_ints Tryz.underlying23 Tryz.underlying5 Z7a h with ⟨F,_⟩|⟨a,l,c,E,F,_,hl,hm,ag,ac,O,af⟩
 . simp at F
   subst F;exact⟨none,0,[],rfl,.inl ⟨rfl,rfl,rfl⟩,by simp⟩
 . simp at F
   subst F;have ak:E.length=c:=by simpa using ag
   have hb:∀j,j<E.length->0<=E.getD j 0/\E.getD j 0<=255:=by
    intro j G;have ae:E.getD j 0∈E:=by simp[List.getD,G]
    have:=af _ ae
    simpa[Lit.wf,IntKind.min,IntKind.max,IntKind.signed,IntKind.bits]using this
   have I:((E.take l).map fun n=>UInt8.ofNat n.toNat).length=l:=by simp;omega
   have hc:c<=140737488351232:=by
    apply ah
    rw[ac];simp only[DataW.weights,Tryz.underlying23,Z5h];refine WH.2 (.inl ?_);simp[lits]
    omega
   refine⟨some a,c,(E.take l).map fun n=>UInt8.ofNat n.toNat,by rw[I], ?_,by rw[I];omega⟩
   by_cases aa:l=0
   . subst aa;exact .inr (.inl ⟨by simp,a,rfl⟩)
   . obtain⟨b,o,Z⟩:=a;have U:=O 0 (by omega);have Y:Z=none:=by simpa[Addr.add]using World.cell?_spot U
     subst Y;refine .inr (.inr ⟨b,o,rfl, ?_,by rw[I];exact hl, ?_⟩)
     . have:=World.block_lt_of_cell? _ _ U
       simpa[Addr.add]using this
     . intro j G;rw[I]at G;have M:=O j (by omega);rw[RV]at M;rw[M];have T:j<E.length:=by omega
       have aj:=hb j T;have e:((E.take l).map fun n=>UInt8.ofNat n.toNat).getD j 0=UInt8.ofNat (E.getD j 0).toNat:=by simp[List.getD,G,T]
       rw[e]
       have e2:(UInt8.ofNat (E.getD j 0).toNat).toNat=(E.getD j 0).toNat:=by
        rw[UInt8.toNat_ofNat'];omega
       rw[e2,YU aj.1]
instance:Inhabited Fv:=⟨⟨⟨[],[],0,0,false⟩,none,0⟩⟩
end Go.Proofs.YtleocpdblhbimaaGreatDoor
