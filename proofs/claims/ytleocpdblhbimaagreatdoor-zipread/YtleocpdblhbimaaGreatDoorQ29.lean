import Derived.Test.YtleocpdblhbimaaGreatDoorQ28
set_option linter.unusedSimpArgs false
set_option maxHeartbeats 8000000
namespace Go.Proofs.YtleocpdblhbimaaGreatDoor
open Go.RowKit
set_option linter.unusedVariables false
set_option maxRecDepth 100000 in
theorem FW (N F a6 af a0 a2 a4 aq:Nat)(l:List Int)(d:Nat->Int×Int)(a m b:Nat)(w:World)(Z:Hid (m=a+1))(b5:N<=288)(cd:m<b)(bo:b<=N)(aj:Cx F af a0 a2 a4 aq l w)
 (ar:PC N F l d w) (ah:Stab.Srt Stab.lx d m b) (a3:Stab.Cross d a m b):
 Calls Tryz.prog 285 #[.slice (some ⟨F,0,none⟩) N a6,.int .i64 a,.int .i64 m,.int .i64 b,CF af] w fun e w'=>e=.returned (.tuple #[])/\∃d',PC N F l d' w'/\Stab.Moved a b d d'/\Stab.Srt Stab.lx d' a b/\w.grownBy w' (some F):=by
 have a1:=Ab ar;have bk:=Ab ah;have ba:=Ab a3;have be:=Ab aj;have b9:((m:Int)-(a:Int)==1)=true:=by rw[beq_iff_eq];have:=Aa Z;omega
 have a5:a<m:=by have:=Aa Z;omega
 clear ar ah a3 aj;go_enter Tryz.func285,Tryz.ntmps285
 go_wp2;go_loopw [10,11,12] (fun Y ae bn wr=>∃i j q:Nat,m<=i/\i<=j/\j<=b/\Y=.int .i64 i/\ae=.int .i64 j/\(m<i->Stab.lx (d (i-1)) (d a))/\(j<b->Stab.lx (d a) (d j))/\wr=w.drewN q) (fun Y ae _ _=>(intOf ae).toNat-(intOf Y).toNat)
 case atStart=>exact⟨m,b,0,VB _,by omega,VB _,rfl,rfl,fun h=>by omega,fun h=>by omega,rfl⟩
 case round=>
  obtain⟨i,j,q,hi,b0,ac,rfl,rfl,ax,ay,au⟩:=hrel;have H:=Ab au;have aa:=Ab ax;have ai:=Ab ay;clear ax ay au
  by_cases b4:i<j
  . obtain⟨c,a8⟩:∃c,c=(i+j)/2:=⟨_,rfl⟩
    have b7:i<=c:=by omega
    have bw:c<j:=by omega
    have E:Hid (((i:Int)+(j:Int))/2=(c:Int)):=by unfold Hid;omega
    have O:=Ab (Stab.cross_less (Aa ba a c (VB _) a5 (by omega) (by omega)));have U:PC N F l d wr:=by rw[Aa H];exact(Aa a1).drewN q
    have ao:Cx F af a0 a2 a4 aq l wr:=by rw[Aa H];exact(Aa be).drewN q
    have al:=fun n=>DN U ao c a (by omega) (by omega) n
    have cc:=(U c (by omega)).1.1;have ca:=(U a (by omega)).1.1;generalize (d c).2=y at*;generalize (d a).2=z at*;have bi:=Ab al;clear a8 U ao al;have ch:(c:Int)<(N:Int):=by omega
    have bt:(a:Int)<(N:Int):=by omega
    go_wp2_with fail
    rw[Aa E];go_wp2_with fail
    go_quiet ((go_at_call 276;refine Calls.quiet_of (Aa bi _)))
    rw[Yq]
    cases M:decide ((d c).1<(d a).1)with
    |true=>
     have ab:=Ab ((Aa O).1 M);clear O M;go_wp2;go_roundw
     case rel=>exact⟨c+1,j,_,by omega,by omega,ac,by go_num,rfl,fun _=>Aa ab,Aa ai,by rw[Aa H,World.drewN_drewN]⟩
     case measure=>simp[intOf];omega
    |false=>
     have ab:=Ab ((Aa O).2 M);clear O M;go_wp2;go_roundw
     case rel=>exact⟨i,c,_,hi,by omega,by omega,rfl,rfl,Aa aa,fun _=>Aa ab,by rw[Aa H,World.drewN_drewN]⟩
     case measure=>simp[intOf];omega
  . obtain rfl:i=j:=by omega
    have bv:¬(i:Int)<(i:Int):=by omega
    have bd:Hid (Stab.rot d a (a+1) (a+1)=d):=Stab.rot_right d a (a+1);have bg:Hid (PC N F l d wr):=by rw[Aa H];exact(Aa a1).drewN q
    have a7:Hid (w.grownBy wr (some F)):=by rw[Aa H];exact Ge (Aw _ _) q
    go_wp2;go_loopw [13] (fun vk am=>∃k:Nat,a<=k/\k<i/\vk=.int .i64 k/\PC N F l (Stab.rot d a (a+1) (k+1)) am/\w.grownBy am (some F)) (fun vk _=>i-(intOf vk).toNat)
    case atStart=>exact⟨a,VB _,by omega,rfl,by rw[Aa bd];exact Aa bg,Aa a7⟩
    case round=>
     obtain⟨k,bb,bq,rfl,az,aw⟩:=hrel;have G:=Ab az;have an:=Ab aw;clear az aw
     by_cases b8:k<i-1
     . have bz:(k:Int)<(i:Int)-1:=by omega
       have bh:=Ab (Stab.rot_up d a k bb);generalize Stab.rot d a (a+1) (k+1)=dk at*;obtain⟨t,ak⟩:∃t,t=k+1:=⟨_,rfl⟩
       have I:k<N:=by omega
       have T:t<N:=by omega
       have c1:=((Aa G) k I).1.1;have f1:=((Aa G) k I).1.2;have c2:=((Aa G) t T).1.1;have f2:=((Aa G) t T).1.2;have as:=Ab ((Aa G).sw k t I T);have ap:=Ab (Cb (Aj (Aa an) (Mf wr F (dk k).2 (dk t).2 k t)));obtain⟨u,bf⟩:=PC.c2 (Aa G) k t I T (.int .i64 (dk t).2);generalize (dk k).2=x at*;generalize (dk t).2=y at*;have bu:(k:Int)<(N:Int):=by omega
       have ec:((k:Int)+1).toNat=t:=by omega
       have pc:(0:Int)<=(k:Int)+1:=by omega
       have cg:(k:Int)+1<(N:Int):=by omega
       have b3:IntKind.i64.wrap ((k:Int)+1)=(k:Int)+1:=by rw[IntKind.wrap_i64];omega
       have bj:=Ab ak;clear ak G;go_wp2_with fail
       go_big_region
       clear c1 c2 bf f1 f2;unfold swC at as ap;go_wp2;go_roundw
       case rel=>exact⟨k+1,by omega,by omega,by go_num,by rw[<-Aa bh,<-Aa bj];exact Aa as,Aa ap⟩
       case measure=>simp[intOf];omega
     . obtain rfl:k=i-1:=by omega
       have ce:¬((i-1:Nat):Int)<(i:Int)-1:=by omega
       have av:i-1+1=i:=by omega
       have a9:Hid (PC N F l (Stab.rot d a (a+1) i) wr):=by rw[av]at G;exact G
       have bm:=Ab ((Stab.moved_rot d a (a+1) i (by omega) (by omega)).wider (VB _) (by omega) ac);have ag:=Aa bk;rw[Aa Z]at ag aa;have bc:=Ab (Stab.ins_first (by omega) ac ag (Aa aa) (Aa ai));clear av ag G;go_wp2;refine bodyPost_ret (results_none rfl _ _ _) rfl ?_;exact⟨rfl,_,Aa a9,Aa bm,Aa bc,Aa an⟩
set_option maxRecDepth 100000 in
theorem X5 (N F a6 ag a1 a3 a5 ap:Nat)(l:List Int)(d:Nat->Int×Int)(a m b:Nat)(w:World)(aa:Hid (b=m+1))(b5:N<=288)(bm:a+1<m)(bk:m<b)(bq:b<=N)(ai:Cx F ag a1 a3 a5 ap l w)
 (as:PC N F l d w) (aq:Stab.Srt Stab.lx d a m) (a4:Stab.Cross d a m b):
 Calls Tryz.prog 285 #[.slice (some ⟨F,0,none⟩) N a6,.int .i64 a,.int .i64 m,.int .i64 b,CF ag] w fun e w'=>e=.returned (.tuple #[])/\∃d',PC N F l d' w'/\Stab.Moved a b d d'/\Stab.Srt Stab.lx d' a b/\w.grownBy w' (some F):=by
 have a2:=Ab as;have bi:=Ab aq;have a9:=Ab a4;have bc:=Ab ai;have bo:((m:Int)-(a:Int)==1)=false:=by rw[beq_eq_false_iff_ne];omega
 have b9:((b:Int)-(m:Int)==1)=true:=by rw[beq_iff_eq];have:=Aa aa;omega
 clear as aq a4 ai;go_enter Tryz.func285,Tryz.ntmps285
 go_wp2;go_loopw [14,15,16] (fun Z af bn wr=>∃i j q:Nat,a<=i/\i<=j/\j<=m/\Z=.int .i64 i/\af=.int .i64 j/\(a<i->Stab.lx (d (i-1)) (d m))/\(j<m->Stab.lx (d m) (d j))/\wr=w.drewN q) (fun Z af _ _=>(intOf af).toNat-(intOf Z).toNat)
 case atStart=>exact⟨a,m,0,VB _,by omega,VB _,rfl,rfl,fun h=>by omega,fun h=>by omega,rfl⟩
 case round=>
  obtain⟨i,j,q,hi,b0,ay,rfl,rfl,ax,az,av⟩:=hrel;have H:=Ab av;have ar:=Ab ax;have ah:=Ab az;clear ax az av
  by_cases b4:i<j
  . obtain⟨c,a8⟩:∃c,c=(i+j)/2:=⟨_,rfl⟩
    have b7:i<=c:=by omega
    have bz:c<j:=by omega
    have E:Hid (((i:Int)+(j:Int))/2=(c:Int)):=by unfold Hid;omega
    have O:=Ab (Stab.cross_less (Aa a9 c m (by omega) (by omega) (VB _) bk));have U:PC N F l d wr:=by rw[Aa H];exact(Aa a2).drewN q
    have an:Cx F ag a1 a3 a5 ap l wr:=by rw[Aa H];exact(Aa bc).drewN q
    have ak:=fun n=>DN U an m c (by omega) (by omega) n
    have cc:=(U c (by omega)).1.1;have ca:=(U m (by omega)).1.1;generalize (d c).2=y at*;generalize (d m).2=z at*;have bg:=Ab ak;clear a8 U an ak;have cg:(c:Int)<(N:Int):=by omega
    have bu:(m:Int)<(N:Int):=by omega
    go_wp2_with fail
    rw[Aa E];go_wp2_with fail
    go_quiet ((go_at_call 276;refine Calls.quiet_of (Aa bg _)))
    rw[Yq]
    cases M:decide ((d m).1<(d c).1)with
    |true=>
     have ac:=Ab ((Aa O).1 M);clear O M;go_wp2;go_roundw
     case rel=>exact⟨i,c,_,hi,by omega,by omega,rfl,rfl,Aa ar,fun _=>Aa ac,by rw[Aa H,World.drewN_drewN]⟩
     case measure=>simp[intOf];omega
    |false=>
     have ac:=Ab ((Aa O).2 M);clear O M;go_wp2;go_roundw
     case rel=>exact⟨c+1,j,_,by omega,by omega,ay,by go_num,rfl,fun _=>Aa ac,Aa ah,by rw[Aa H,World.drewN_drewN]⟩
     case measure=>simp[intOf];omega
  . obtain rfl:i=j:=by omega
    have bw:¬(i:Int)<(i:Int):=by omega
    have bb:Hid (Stab.rot d m m (m+1)=d):=Stab.rot_left d m (m+1);have be:Hid (PC N F l d wr):=by rw[Aa H];exact(Aa a2).drewN q
    have a7:Hid (w.grownBy wr (some F)):=by rw[Aa H];exact Ge (Aw _ _) q
    go_wp2;go_loopw [17] (fun vk al=>∃k:Nat,i<=k/\k<=m/\vk=.int .i64 k/\PC N F l (Stab.rot d k m (m+1)) al/\w.grownBy al (some F)) (fun vk _=>(intOf vk).toNat)
    case atStart=>exact⟨m,ay,VB _,rfl,by rw[Aa bb];exact Aa be,Aa a7⟩
    case round=>
     obtain⟨k,bt,ab,rfl,a0,aw⟩:=hrel;have G:=Ab a0;have am:=Ab aw;clear a0 aw
     by_cases b8:i<k
     . have bf:=Ab (Stab.rot_down d k m (by omega) ab);generalize Stab.rot d k m (m+1)=dk at*;obtain⟨t,aj⟩:∃t,t=k-1:=⟨_,rfl⟩
       have I:k<N:=by omega
       have T:t<N:=by omega
       have c1:=((Aa G) k I).1.1;have f1:=((Aa G) k I).1.2;have c2:=((Aa G) t T).1.1;have f2:=((Aa G) t T).1.2;have au:=Ab ((Aa G).sw k t I T);have ao:=Ab (Cb (Aj (Aa am) (Mf wr F (dk k).2 (dk t).2 k t)));obtain⟨u,bd⟩:=PC.c2 (Aa G) k t I T (.int .i64 (dk t).2);generalize (dk k).2=x at*;generalize (dk t).2=y at*;have bv:(k:Int)<(N:Int):=by omega
       have ec:((k:Int)-1).toNat=t:=by omega
       have pc:(0:Int)<=(k:Int)-1:=by omega
       have ce:(k:Int)-1<(N:Int):=by omega
       have b3:IntKind.i64.wrap ((k:Int)-1)=(k:Int)-1:=by rw[IntKind.wrap_i64];omega
       have bh:=Ab aj;clear aj G;go_wp2_with fail
       go_big_region
       clear c1 c2 bd f1 f2;unfold swC at au ao;go_wp2;go_roundw
       case rel=>exact⟨k-1,by omega,by omega,by go_num,by rw[<-Aa bf,<-Aa bh];exact Aa au,Aa ao⟩
       case measure=>simp[intOf];omega
     . obtain rfl:k=i:=by omega
       have cd:¬(k:Int)<(k:Int):=by omega
       have Y:=(Stab.moved_rot d k m (m+1) ab (by omega)).wider hi (by omega) (VB _);have ae:=Stab.ins_last hi ab (Aa bi) (Aa ar) (Aa ah);rw[<-Aa aa]at Y ae;have bj:=Ab Y;have ba:=Ab ae;rw[<-Aa aa]at G;clear Y ae;go_wp2;refine bodyPost_ret (results_none rfl _ _ _) rfl ?_;exact⟨rfl,_,Aa G,Aa bj,Aa ba,Aa am⟩
def Z32 (N bp cap bx bl ol ln lc:Nat)(l:List Int)(L:Nat):Prop:=∀(d:Nat->Int×Int) (a m b:Nat) (w:World),b-a<=L->a<m->m<b->b<=N->Cx bp bx bl ol ln lc l w->
 PC N bp l d w->Stab.Srt Stab.lx d a m->Stab.Srt Stab.lx d m b->Stab.Cross d a m b->
 Calls Tryz.prog 285 #[.slice (some ⟨bp,0,none⟩) N cap,.int .i64 a,.int .i64 m,.int .i64 b,CF bx] w fun e w'=>e=.returned (.tuple #[])/\∃d',PC N bp l d' w'/\Stab.Moved a b d d'/\Stab.Srt Stab.lx d' a b/\w.grownBy w' (some bp)
structure CSt (N bp bx bl ol ln lc:Nat)(l:List Int)(w W:World)(D:Nat->Int×Int):Prop where
 ps:PC N bp l D W
 grown:w.grownBy W (some bp)
 cx:Cx bp bx bl ol ln lc l W
theorem CSt.next {N E G F H T O:Nat}{l:List Int}{w W W':World}{U M:Nat->Int×Int}(s:CSt N E G F H T O l w W U)(p:PC N E l M W')(I:W.grownBy W' (some E)):CSt N E G F H T O l w W' M:=
 ⟨p,Aj s.grown I,s.cx.grown I⟩
theorem Hy {F H:Nat->Int×Int}{a st E G b:Nat}(M:(Stab.Srt Stab.lx F a st/\Stab.Srt Stab.lx F st E/\Stab.Cross F a st E)/\(Stab.Srt Stab.lx F E G/\Stab.Srt Stab.lx F G b/\Stab.Cross F E G b))(I:Stab.Moved a E F H)(T:E<=G):
 Stab.Srt Stab.lx H E G/\Stab.Srt Stab.lx H G b/\Stab.Cross H E G b:=
 ⟨M.2.1.congr (fun k O _=>I.out k (by omega)),M.2.2.1.congr (fun k O _=>I.out k (by omega)),M.2.2.2.congr (fun k O _=>I.out k (by omega))⟩
set_option maxRecDepth 100000 in
theorem Rg (N ag a5 ak a1 a3 a4 az:Nat)(l:List Int)(L:Nat)(a6:Hid (Z32 N ag a5 ak a1 a3 a4 az l L))(d:Nat->Int×Int)(a m b H ar aw:Nat)(w:World)(bd:N<=288)(da:b-a<=L+1)(cz:a+1<m)(di:m+1<b)(c5:b<=N)
 (bt:Hid (H=(a+b)/2)) (a8:Hid ((H<m/\ar+b=H+m/\aw=H)\/ (m<=H/\ar=a/\aw=m))) (bo:Cx ag ak a1 a3 a4 az l w)
 (b3:PC N ag l d w) (b0:Stab.Srt Stab.lx d a m) (bn:Stab.Srt Stab.lx d m b) (ch:Stab.Cross d a m b):
 Calls Tryz.prog 285 #[.slice (some ⟨ag,0,none⟩) N a5,.int .i64 a,.int .i64 m,.int .i64 b,CF ak] w fun e w'=>e=.returned (.tuple #[])/\∃d',PC N ag l d' w'/\Stab.Moved a b d d'/\Stab.Srt Stab.lx d' a b/\w.grownBy w' (some ag):=by
 have ce:=Ab b3;have ax:=Ab b0;have aq:=Ab bn;have bv:=Ab ch;have bw:=Ab bo;have c4:((m:Int)-(a:Int)==1)=false:=by rw[beq_eq_false_iff_ne];omega
 have c6:((b:Int)-(m:Int)==1)=false:=by rw[beq_eq_false_iff_ne];omega
 have bc:a<=ar/\ar<=aw/\aw<=m/\aw<=H/\a<H/\H<b/\H+m<=ar+b:=by have:=Aa bt;have:=Aa a8;omega
 obtain⟨c3,ci,db,cw,c8,c7,dh⟩:=bc;have b9:((a:Int)+(b:Int))/2=(H:Int):=by have:=Aa bt;omega
 have an:=Ab b9;clear b3 b0 bn ch bo b9
 rcases Aa a8 with ⟨cn,bm,bi⟩|⟨cn,bm,bi⟩
 case' inl=>have cl:((a:Int)+(b:Int))/2<(m:Int):=by rw[Aa an];omega
 case' inr=>have cl:¬((a:Int)+(b:Int))/2<(m:Int):=by rw[Aa an];omega
 all_goals
  have b5:=Ab bm;have cd:=Ab bi;clear bm bi;go_enter Tryz.func285,Tryz.ntmps285
  go_wp2;go_loopw [20,21,23] (fun bg bj cy wr=>∃st r q:Nat,ar<=st/\st<=r/\r<=aw/\bg=.int .i64 st/\bj=.int .i64 r/\(ar<st->Stab.lx (d (st-1)) (d (H+m-st)))/\(r<aw->Stab.lx (d (H+m-1-r)) (d r))/\wr=w.drewN q) (fun bg bj _ _=>(intOf bj).toNat-(intOf bg).toNat)
  case atStart=>exact⟨ar,aw,0,VB _,ci,VB _,congrArg (Value.int .i64) (by have:=Aa b5;have:=Aa an;omega),congrArg (Value.int .i64) (by have:=Aa cd;have:=Aa an;omega),fun h=>by omega,fun h=>by omega,rfl⟩
  case round=>
   obtain⟨st,r,q,cu,de,co,rfl,rfl,bc,b8,b7⟩:=hrel;have a7:=Ab b7;have bh:=Ab bc;have bf:=Ab b8;clear bc b8 b7
   by_cases df:st<r
   . obtain⟨c,ck⟩:∃c,c=(st+r)/2:=⟨_,rfl⟩
     have cq:st<=c:=by omega
     have dc:c<r:=by omega
     have E:Hid (((st:Int)+(r:Int))/2=(c:Int)):=by unfold Hid;omega
     obtain⟨f,cg⟩:∃f,f=H+m-1-c:=⟨_,rfl⟩
     have dd:(((a:Int)+(b:Int))/2+(m:Int)-1-(c:Int)).toNat=f:=by have:=Aa an;omega
     have ao:(0:Int)<=((a:Int)+(b:Int))/2+(m:Int)-1-(c:Int):=by have:=Aa an;omega
     have b2:((a:Int)+(b:Int))/2+(m:Int)-1-(c:Int)<(N:Int):=by have:=Aa an;omega
     have r2:IntKind.i64.wrap (((a:Int)+(b:Int))/2+(m:Int)-1-(c:Int))=((a:Int)+(b:Int))/2+(m:Int)-1-(c:Int):=by rw[IntKind.wrap_i64];have:=Aa an;omega
     have ba:=Ab (Stab.cross_less (Aa bv c f (by omega) (by omega) (by omega) (by omega)));have be:PC N ag l d wr:=by rw[Aa a7];exact(Aa ce).drewN q
     have bz:Cx ag ak a1 a3 a4 az l wr:=by rw[Aa a7];exact(Aa bw).drewN q
     have bu:=fun n=>DN be bz f c (by omega) (by omega) n
     have cc:=(be c (by omega)).1.1;have ca:=(be f (by omega)).1.1;generalize (d c).2=y at*;generalize (d f).2=z at*;have ct:=Ab bu;have bq:=Ab cg;have dj:(c:Int)<(N:Int):=by omega
     clear ck be bz bu cg;go_wp2_with fail
     rw[Aa E];go_wp2_with fail
     go_quiet ((go_at_call 276;refine Calls.quiet_of (Aa ct _)))
     rw[Yq]
     cases a9:decide ((d f).1<(d c).1)with
     |true=>
      have bb:=Ab ((Aa ba).1 a9);rw[Aa bq]at bb;clear ba a9;go_wp2;go_roundw
      case rel=>exact⟨st,c,_,cu,cq,by omega,rfl,rfl,Aa bh,fun _=>Aa bb,by rw[Aa a7,World.drewN_drewN]⟩
      case measure=>simp[intOf];omega
     |false=>
      have bb:=Ab ((Aa ba).2 a9);have cm:Hid (H+m-(c+1)=f):=by have:=Aa bq;unfold Hid;omega
      clear ba a9;go_wp2;go_roundw
      case rel=>exact⟨c+1,r,_,by omega,by omega,co,by go_num,rfl,fun _=>by rw[Aa cm];exact Aa bb,Aa bf,by rw[Aa a7,World.drewN_drewN]⟩
      case measure=>simp[intOf];omega
   . obtain rfl:st=r:=by omega
     have c9:¬(st:Int)<(st:Int):=by omega
     obtain⟨G,cv⟩:∃G,G+st=H+m:=⟨H+m-st,by omega⟩
     have dg:(H:Int)+(m:Int)-(st:Int)=(G:Int):=by omega
     have au:H+m=st+G:=by omega
     have cp:m<=G:=by have:=Aa a8;omega
     have cj:G<=b:=by omega
     have a0:H<=G:=by omega
     have Y:=Ab (Stab.merge_parts (show a<=st by omega) (show st<=m by omega) cp cj au (Aa ax) (Aa aq) (Aa bv))
     have ay:Hid (a<st->G<b->Stab.lx (d (st-1)) (d G)):=fun c1 c2=>by
      have h:=Aa bh (by have:=Aa b5;have:=Aa a8;omega);rw[show H+m-st=G by omega]at h;exact h
     have a2:Hid (st<m->m<G->Stab.lx (d (G-1)) (d st)):=fun c1 c2=>by
      have h:=Aa bf (by have:=Aa cd;have:=Aa a8;omega);rw[show H+m-1-st=G-1 by omega]at h;exact h
     have al:Hid (CSt N ag ak a1 a3 a4 az l w wr d):=by rw[Aa a7];exact⟨(Aa ce).drewN q,Ge (Aw _ _) q,(Aa bw).drewN q⟩
     rw[Aa an];have U:(st<m/\m<G/\a<st/\G<b/\st<H/\H<G)\/ (st<m/\m<G/\a<st/\G=b/\st<H/\H<G)\/ (st<m/\m<G/\st=a/\G<b/\st<H/\H<G)\/ (st<m/\m<G/\st=a/\G=b/\st<H/\H<G)\/ (st=m/\G=H/\a<st/\st<H)\/ (st=m/\G=H/\a<st/\st=H)\/ (st<m/\G=m/\st=H/\a<st/\H<G/\G<b):=by omega
     clear bh bf cv
     rcases U with U|U|U|U|U|U|U
     . have k1:(st:Int)<(m:Int):=by omega
       have k2:(m:Int)<(G:Int):=by omega
       have l1:(a:Int)<(st:Int):=by omega
       have l2:(st:Int)<(H:Int):=by omega
       have n1:(H:Int)<(G:Int):=by omega
       have n2:(G:Int)<(b:Int):=by omega
       have F:=Ab U;clear U;go_wp2_with fail
       refine(Xk (CF ak) N ag a5 l d st m G _ bd (by have:=Aa F;omega) (by have:=Aa F;omega) (by have:=Aa F;omega) (Aa al).ps).mono ?_;rintro e bk ⟨rfl,am,g1⟩;have ab:=Ab ((Aa al).next am g1);clear am g1;go_wp2_with fail
       refine(Aa a6 (Stab.rot d st m G) a st H _ (by have:=Aa F;omega) (by have:=Aa F;omega) (by have:=Aa F;omega) (by have:=Aa F;omega) (Aa ab).cx (Aa ab).ps (Aa Y).1.1 (Aa Y).1.2.1 (Aa Y).1.2.2).mono ?_;rintro e b4 ⟨rfl,I,ao,m1,as,g2⟩;have T:=Ab ((Aa ab).next ao g2);have Z:=Ab m1;have ah:=Ab as;clear ao g2 m1 as;have af:=Ab (Hy (Aa Y) (Aa Z) a0);go_wp2_with fail
       refine(Aa a6 I H G b _ (by have:=Aa F;omega) (by have:=Aa F;omega) (by have:=Aa F;omega) (by have:=Aa F;omega) (Aa T).cx (Aa T).ps (Aa af).1 (Aa af).2.1 (Aa af).2.2).mono ?_;rintro e w3 ⟨rfl,M,ap,m2,av,g3⟩;have O:=Ab ((Aa T).next ap g3);have aj:=Ab m2;have ai:=Ab av;clear ap g3 m2 av;have aa:=Ab (Stab.merge_step Stab.lx_trans (by have:=Aa F;omega) (by have:=Aa F;omega) (by have:=Aa F;omega) (by have:=Aa F;omega) au (Aa ax) (Aa aq) (Aa ay) (Aa a2) (Aa Z) (Aa ah) (Aa aj) (Aa ai));go_wp2
       all_goals (go_end0;exact⟨rfl,M,(Aa O).ps,(Aa aa).2,(Aa aa).1,(Aa O).grown⟩)
     . have k1:(st:Int)<(m:Int):=by omega
       have k2:(m:Int)<(G:Int):=by omega
       have l1:(a:Int)<(st:Int):=by omega
       have l2:(st:Int)<(H:Int):=by omega
       have n1:(H:Int)<(G:Int):=by omega
       have n2:¬(G:Int)<(b:Int):=by omega
       have F:=Ab U;clear U;go_wp2_with fail
       refine(Xk (CF ak) N ag a5 l d st m G _ bd (by have:=Aa F;omega) (by have:=Aa F;omega) (by have:=Aa F;omega) (Aa al).ps).mono ?_;rintro e bk ⟨rfl,am,g1⟩;have ab:=Ab ((Aa al).next am g1);clear am g1;go_wp2_with fail
       refine(Aa a6 (Stab.rot d st m G) a st H _ (by have:=Aa F;omega) (by have:=Aa F;omega) (by have:=Aa F;omega) (by have:=Aa F;omega) (Aa ab).cx (Aa ab).ps (Aa Y).1.1 (Aa Y).1.2.1 (Aa Y).1.2.2).mono ?_;rintro e b4 ⟨rfl,I,ao,m1,as,g2⟩;have T:=Ab ((Aa ab).next ao g2);have Z:=Ab m1;have ah:=Ab as;clear ao g2 m1 as;have af:=Ab (Hy (Aa Y) (Aa Z) a0);have O:=T;obtain⟨M,ae⟩:∃M,M=I:=⟨_,rfl⟩
       rw[<-ae]at O;have aj:Hid (Stab.Moved H b I M):=by rw[ae];exact Stab.Moved.refl _ _ _
       have ai:Hid (Stab.Srt Stab.lx M H b):=by rw[ae];exact(Aa af).1.sub (VB _) (by have:=Aa F;omega)
       clear ae;have aa:=Ab (Stab.merge_step Stab.lx_trans (by have:=Aa F;omega) (by have:=Aa F;omega) (by have:=Aa F;omega) (by have:=Aa F;omega) au (Aa ax) (Aa aq) (Aa ay) (Aa a2) (Aa Z) (Aa ah) (Aa aj) (Aa ai));go_wp2
       all_goals (go_end0;exact⟨rfl,M,(Aa O).ps,(Aa aa).2,(Aa aa).1,(Aa O).grown⟩)
     . have k1:(st:Int)<(m:Int):=by omega
       have k2:(m:Int)<(G:Int):=by omega
       have l1:¬(a:Int)<(st:Int):=by omega
       have n1:(H:Int)<(G:Int):=by omega
       have n2:(G:Int)<(b:Int):=by omega
       have F:=Ab U;clear U;go_wp2_with fail
       refine(Xk (CF ak) N ag a5 l d st m G _ bd (by have:=Aa F;omega) (by have:=Aa F;omega) (by have:=Aa F;omega) (Aa al).ps).mono ?_;rintro e bk ⟨rfl,am,g1⟩;have ab:=Ab ((Aa al).next am g1);clear am g1;have T:=ab;obtain⟨I,ac⟩:∃I,I=Stab.rot d st m G:=⟨_,rfl⟩
       rw[<-ac]at T;have Z:Hid (Stab.Moved a H (Stab.rot d st m G) I):=by rw[ac];exact Stab.Moved.refl _ _ _
       have ah:Hid (Stab.Srt Stab.lx I a H):=by rw[ac];exact(Aa Y).1.2.1.sub (by have:=Aa F;omega) (VB _)
       clear ac;have af:=Ab (Hy (Aa Y) (Aa Z) a0);go_wp2_with fail
       refine(Aa a6 I H G b _ (by have:=Aa F;omega) (by have:=Aa F;omega) (by have:=Aa F;omega) (by have:=Aa F;omega) (Aa T).cx (Aa T).ps (Aa af).1 (Aa af).2.1 (Aa af).2.2).mono ?_;rintro e w3 ⟨rfl,M,ap,m2,av,g3⟩;have O:=Ab ((Aa T).next ap g3);have aj:=Ab m2;have ai:=Ab av;clear ap g3 m2 av;have aa:=Ab (Stab.merge_step Stab.lx_trans (by have:=Aa F;omega) (by have:=Aa F;omega) (by have:=Aa F;omega) (by have:=Aa F;omega) au (Aa ax) (Aa aq) (Aa ay) (Aa a2) (Aa Z) (Aa ah) (Aa aj) (Aa ai));go_wp2
       all_goals (go_end0;exact⟨rfl,M,(Aa O).ps,(Aa aa).2,(Aa aa).1,(Aa O).grown⟩)
     . have k1:(st:Int)<(m:Int):=by omega
       have k2:(m:Int)<(G:Int):=by omega
       have l1:¬(a:Int)<(st:Int):=by omega
       have n1:(H:Int)<(G:Int):=by omega
       have n2:¬(G:Int)<(b:Int):=by omega
       have F:=Ab U;clear U;go_wp2_with fail
       refine(Xk (CF ak) N ag a5 l d st m G _ bd (by have:=Aa F;omega) (by have:=Aa F;omega) (by have:=Aa F;omega) (Aa al).ps).mono ?_;rintro e bk ⟨rfl,am,g1⟩;have ab:=Ab ((Aa al).next am g1);clear am g1;have T:=ab;obtain⟨I,ac⟩:∃I,I=Stab.rot d st m G:=⟨_,rfl⟩
       rw[<-ac]at T;have Z:Hid (Stab.Moved a H (Stab.rot d st m G) I):=by rw[ac];exact Stab.Moved.refl _ _ _
       have ah:Hid (Stab.Srt Stab.lx I a H):=by rw[ac];exact(Aa Y).1.2.1.sub (by have:=Aa F;omega) (VB _)
       clear ac;have af:=Ab (Hy (Aa Y) (Aa Z) a0);have O:=T;obtain⟨M,ae⟩:∃M,M=I:=⟨_,rfl⟩
       rw[<-ae]at O;have aj:Hid (Stab.Moved H b I M):=by rw[ae];exact Stab.Moved.refl _ _ _
       have ai:Hid (Stab.Srt Stab.lx M H b):=by rw[ae];exact(Aa af).1.sub (VB _) (by have:=Aa F;omega)
       clear ae;have aa:=Ab (Stab.merge_step Stab.lx_trans (by have:=Aa F;omega) (by have:=Aa F;omega) (by have:=Aa F;omega) (by have:=Aa F;omega) au (Aa ax) (Aa aq) (Aa ay) (Aa a2) (Aa Z) (Aa ah) (Aa aj) (Aa ai));go_wp2
       all_goals (go_end0;exact⟨rfl,M,(Aa O).ps,(Aa aa).2,(Aa aa).1,(Aa O).grown⟩)
     . have k1:¬(st:Int)<(m:Int):=by omega
       have l1:(a:Int)<(st:Int):=by omega
       have l2:(st:Int)<(H:Int):=by omega
       have n1:¬(H:Int)<(G:Int):=by omega
       have F:=Ab U;clear U;have ab:Hid (CSt N ag ak a1 a3 a4 az l w wr (Stab.rot d st m G)):=by rw[show Stab.rot d st m G=d from by rw[show st=m by have:=Aa F;omega];exact Stab.rot_left d m G];exact Aa al
       go_wp2_with fail
       refine(Aa a6 (Stab.rot d st m G) a st H _ (by have:=Aa F;omega) (by have:=Aa F;omega) (by have:=Aa F;omega) (by have:=Aa F;omega) (Aa ab).cx (Aa ab).ps (Aa Y).1.1 (Aa Y).1.2.1 (Aa Y).1.2.2).mono ?_;rintro e b4 ⟨rfl,I,ao,m1,as,g2⟩;have T:=Ab ((Aa ab).next ao g2);have Z:=Ab m1;have ah:=Ab as;clear ao g2 m1 as;have af:=Ab (Hy (Aa Y) (Aa Z) a0);have O:=T;obtain⟨M,ae⟩:∃M,M=I:=⟨_,rfl⟩
       rw[<-ae]at O;have aj:Hid (Stab.Moved H b I M):=by rw[ae];exact Stab.Moved.refl _ _ _
       have ai:Hid (Stab.Srt Stab.lx M H b):=by rw[ae];exact(Aa af).2.1.sub (by have:=Aa F;omega) (VB _)
       clear ae;have aa:=Ab (Stab.merge_step Stab.lx_trans (by have:=Aa F;omega) (by have:=Aa F;omega) (by have:=Aa F;omega) (by have:=Aa F;omega) au (Aa ax) (Aa aq) (Aa ay) (Aa a2) (Aa Z) (Aa ah) (Aa aj) (Aa ai));go_wp2
       all_goals (go_end0;exact⟨rfl,M,(Aa O).ps,(Aa aa).2,(Aa aa).1,(Aa O).grown⟩)
     . have k1:¬(st:Int)<(m:Int):=by omega
       have l1:(a:Int)<(st:Int):=by omega
       have l2:¬(st:Int)<(H:Int):=by omega
       have n1:¬(H:Int)<(G:Int):=by omega
       have F:=Ab U;clear U;have ab:Hid (CSt N ag ak a1 a3 a4 az l w wr (Stab.rot d st m G)):=by rw[show Stab.rot d st m G=d from by rw[show st=m by have:=Aa F;omega];exact Stab.rot_left d m G];exact Aa al
       have T:=ab;obtain⟨I,ac⟩:∃I,I=Stab.rot d st m G:=⟨_,rfl⟩
       rw[<-ac]at T;have Z:Hid (Stab.Moved a H (Stab.rot d st m G) I):=by rw[ac];exact Stab.Moved.refl _ _ _
       have ah:Hid (Stab.Srt Stab.lx I a H):=by rw[ac];exact(Aa Y).1.1.sub (VB _) (by have:=Aa F;omega)
       clear ac;have af:=Ab (Hy (Aa Y) (Aa Z) a0);have O:=T;obtain⟨M,ae⟩:∃M,M=I:=⟨_,rfl⟩
       rw[<-ae]at O;have aj:Hid (Stab.Moved H b I M):=by rw[ae];exact Stab.Moved.refl _ _ _
       have ai:Hid (Stab.Srt Stab.lx M H b):=by rw[ae];exact(Aa af).2.1.sub (by have:=Aa F;omega) (VB _)
       clear ae;have aa:=Ab (Stab.merge_step Stab.lx_trans (by have:=Aa F;omega) (by have:=Aa F;omega) (by have:=Aa F;omega) (by have:=Aa F;omega) au (Aa ax) (Aa aq) (Aa ay) (Aa a2) (Aa Z) (Aa ah) (Aa aj) (Aa ai));go_wp2
       all_goals (go_end0;exact⟨rfl,M,(Aa O).ps,(Aa aa).2,(Aa aa).1,(Aa O).grown⟩)
     . have k1:(st:Int)<(m:Int):=by omega
       have k2:¬(m:Int)<(G:Int):=by omega
       have l1:(a:Int)<(st:Int):=by omega
       have l2:¬(st:Int)<(H:Int):=by omega
       have n1:(H:Int)<(G:Int):=by omega
       have n2:(G:Int)<(b:Int):=by omega
       have F:=Ab U;clear U;have ab:Hid (CSt N ag ak a1 a3 a4 az l w wr (Stab.rot d st m G)):=by rw[show Stab.rot d st m G=d from by rw[show G=m by have:=Aa F;omega];exact Stab.rot_right d st m];exact Aa al
       have T:=ab;obtain⟨I,ac⟩:∃I,I=Stab.rot d st m G:=⟨_,rfl⟩
       rw[<-ac]at T;have Z:Hid (Stab.Moved a H (Stab.rot d st m G) I):=by rw[ac];exact Stab.Moved.refl _ _ _
       have ah:Hid (Stab.Srt Stab.lx I a H):=by rw[ac];exact(Aa Y).1.1.sub (VB _) (by have:=Aa F;omega)
       clear ac;have af:=Ab (Hy (Aa Y) (Aa Z) a0);go_wp2_with fail
       refine(Aa a6 I H G b _ (by have:=Aa F;omega) (by have:=Aa F;omega) (by have:=Aa F;omega) (by have:=Aa F;omega) (Aa T).cx (Aa T).ps (Aa af).1 (Aa af).2.1 (Aa af).2.2).mono ?_;rintro e w3 ⟨rfl,M,ap,m2,av,g3⟩;have O:=Ab ((Aa T).next ap g3);have aj:=Ab m2;have ai:=Ab av;clear ap g3 m2 av;have aa:=Ab (Stab.merge_step Stab.lx_trans (by have:=Aa F;omega) (by have:=Aa F;omega) (by have:=Aa F;omega) (by have:=Aa F;omega) au (Aa ax) (Aa aq) (Aa ay) (Aa a2) (Aa Z) (Aa ah) (Aa aj) (Aa ai));go_wp2
       all_goals (go_end0;exact⟨rfl,M,(Aa O).ps,(Aa aa).2,(Aa aa).1,(Aa O).grown⟩)
theorem Nk (N G H I E M F O:Nat)(l:List Int)(T:N<=288):∀L,Z32 N G H I E M F O l L
 |0=>fun d a m b w ae af aa _ _ _ _ _ _=>by omega
 |L+1=>fun d a m b w ae af aa hb Y U ab Z hc=>by
  by_cases ah:m=a+1
  . exact FW N G H I E M F O l d a m b w (Ab ah) T aa hb Y U Z hc
  . by_cases ag:b=m+1
    . exact X5 N G H I E M F O l d a m b w (Ab ag) T (by omega) aa hb Y U ab hc
    . by_cases ac:(a+b)/2<m
      . exact Rg N G H I E M F O l L (Ab (Nk N G H I E M F O l T L)) d a m b ((a+b)/2) ((a+b)/2+m-b) ((a+b)/2) w T (by omega) (by omega) (by omega) hb (Ab rfl) (Ab (.inl ⟨ac,by omega,rfl⟩)) Y U ab Z hc
      . exact Rg N G H I E M F O l L (Ab (Nk N G H I E M F O l T L)) d a m b ((a+b)/2) a m w T (by omega) (by omega) (by omega) hb (Ab rfl) (Ab (.inr ⟨by omega,rfl,rfl⟩)) Y U ab Z hc
set_option maxRecDepth 100000 in
theorem Vk (N F a5 O U Y Z T:Nat)(l:List Int)(d:Nat->Int×Int)(a b:Nat)(w:World)(bt:N<=288)(bw:a<=b)(bo:b<=N)(ay:Cx F O U Y Z T l w)(a2:PC N F l d w)(a3:RW d a b):
 Calls Tryz.prog 284 #[.slice (some ⟨F,0,none⟩) N a5,.int .i64 a,.int .i64 b,CF O] w fun e w'=>e=.returned (.tuple #[])/\∃d',PC N F l d' w'/\Stab.Moved a b d d'/\Stab.Srt Stab.lx d' a b/\w.grownBy w' (some F):=by
 have am:Hid (CSt N F O U Y Z T l w w d):=⟨a2,Aw _ _,ay⟩
 have a4:=Ab a3;clear a2 ay a3;go_enter Tryz.func284,Tryz.ntmps284
 go_wp2;go_loopw [8] (fun al wr=>∃(i:Nat) (E:Nat->Int×Int),a<i/\(i<=b\/ (i=a+1/\E=d))/\al=.int .i64 i/\CSt N F O U Y Z T l w wr E/\Stab.Moved a i d E/\Stab.Srt Stab.lx E a i) (fun al _=>b+2-(intOf al).toNat)
 case atStart=>exact⟨a+1,d,by omega,.inr ⟨rfl,rfl⟩,by go_num,Aa am,Stab.Moved.refl _ _ _,fun i j H ag bh=>by omega⟩
 case round=>
  obtain⟨i,E,bv,as,rfl,ae,ab,I⟩:=hrel;have au:=Ab ae;have a8:=Ab ab;have bg:=Ab I
  by_cases a9:i<b
  . have bb:Hid (∀k,a<=k->k<i->(E k).2<(E i).2):=fun k H ag=>by
     obtain⟨bc,a7,e2,e3⟩:=ab.mem H ag;rw[ab.out i (by omega),<-e3];exact Aa a4 bc i a7 e2 a9
    clear as ae ab I am;go_wp2;go_loopw [9] (fun aq wr=>∃j:Nat,a<=j/\j<=i/\aq=.int .i64 j/\CSt N F O U Y Z T l w wr (Stab.rot E j i (i+1))/\(j<i->Stab.lx (E i) (E j))) (fun aq _=>(intOf aq).toNat)
    case atStart=>exact⟨i,by omega,VB _,rfl,by rw[Stab.rot_left];exact Aa au,fun h=>by omega⟩
    case round=>
     obtain⟨j,az,ap,rfl,ae,a0⟩:=hrel;have G:=Ab ae;have bj:=Ab a0
     have af:((a<j->Stab.lx (E (j-1)) (E i))->Hid (Stab.Moved a (i+1) d (Stab.rot E j i (i+1))/\Stab.Srt Stab.lx (Stab.rot E j i (i+1)) a (i+1))):=fun hl=>
      Ab ⟨((Aa a8).wider (VB _) (by omega) (by omega)).trans ((Stab.moved_rot E j i (i+1) ap (by omega)).wider az (by omega) (VB _)),Stab.ins_last az ap (Aa bg) hl (Aa bj)⟩
     clear ae a0
     by_cases b3:a<j
     . obtain⟨t,rfl⟩:∃t,j=t+1:=⟨j-1,by omega⟩
       rw[YA]at af
       have ao:Stab.rot E (t+1) i (i+1) (t+1)=E i:=by
        unfold Stab.rot;rw[if_pos (by omega)]
        congr 1;omega
       have ak:Stab.rot E (t+1) i (i+1) t=E t:=by
        unfold Stab.rot;rw[if_neg (by omega),if_neg (by omega)]
       have ai:=Ab (Stab.cross_less (Aa bb t (by omega) (by omega)));have aw:=Stab.rot_down E (t+1) i (by omega) ap;rw[YA]at aw;have av:=Ab aw;have ax:=Ab af;have an:=fun n=>DN (Aa G).ps (Aa G).cx (t+1) t (by omega) (by omega) n
       rw[ao,ak]at an;have ar:=Ab an;have c1:=((Aa G).ps (t+1) (by omega)).1.1;have f1:=((Aa G).ps (t+1) (by omega)).1.2;have c2:=((Aa G).ps t (by omega)).1.1;have f2:=((Aa G).ps t (by omega)).1.2;have aa:=Ab (fun n=>PC.sw ((Aa G).ps.drewN n) (t+1) t (by omega) (by omega));have aj:=Ab (fun n=>PC.c2 ((Aa G).ps.drewN n) (t+1) t (by omega) (by omega) (.int .i64 (E t).2));rw[ao]at c1 aa;rw[ak]at c2 aa;clear ao ak af aw an;generalize Stab.rot E (t+1) i (i+1)=D at*;obtain⟨s,I⟩:∃s,s=t+1:=⟨_,rfl⟩
       have a1:=Ab I;rw[<-I]at c1 f1 aa aj;generalize (E i).2=x at*;generalize (E t).2=y at*;have bn:(a:Int)<(t:Int)+1:=by omega
       have bf:decide ((t:Int)+1>(a:Int))=true:=decide_eq_true (by omega);have ea:((t:Int)+1).toNat=s:=by omega
       have pa:(0:Int)<=(t:Int)+1:=by omega
       have bz:(t:Int)+1<(N:Int):=by omega
       have b0:(t:Int)<(N:Int):=by omega
       have bq:IntKind.i64.wrap (t:Int)=(t:Int):=by rw[IntKind.wrap_i64];omega
       clear I;go_wp2_with fail
       go_quiet ((go_at_call 276;refine Calls.quiet_of (Aa ar _)))
       rw[Yq]
       cases ah:decide ((E i).1<(E t).1)with
       |true=>
        have bk:=Ab ((Aa ai).1 ah)
        have ac:Hid (CSt N F O U Y Z T l w (swC (wr.drewN nq) F x y s t).drew (Stab.rot E t i (i+1))):=by
         have H:=(Aa aa) nq;rw[Aa a1,Aa av,<-Aa a1]at H;exact(Aa G).next H (Cb (Aj (Ge (Aw wr (some F)) nq) (Mf (wr.drewN nq) F x y s t)))
        obtain⟨u,bi⟩:=(Aa aj) nq;have bd:(wr.drewN nq).cell? ⟨F,s,none⟩=some (.int .i64 x):=c1;have a6:(wr.drewN nq).cell? ⟨F,t,none⟩=some (.int .i64 y):=c2;have be:(wr.drewN nq).frozen? ⟨F,s,none⟩=false:=f1;have ba:(wr.drewN nq).frozen? ⟨F,t,none⟩=false:=f2;unfold swC at ac;clear ah aa ai ax av aj ar c1 c2 f1 f2;generalize wr.drewN nq=bu at*;go_wp2_with fail
        go_big_region
        clear bd a6 be ba bi;go_wp2;go_roundw
        case rel=>exact⟨t,by omega,by omega,by go_num,Aa ac,fun _=>Aa bk⟩
        case measure=>simp[intOf]
       |false=>
        have M:=Aa ax (fun _=>(Aa ai).2 ah);have ac:Hid (CSt N F O U Y Z T l w (wr.drewN nq) D):=(Aa G).next ((Aa G).ps.drewN nq) (Ge (Aw _ _) nq);clear ah ai ax av aa aj ar c1 c2 f1 f2;go_wp2;go_roundw
        case rel=>exact⟨i+1,D,by omega,.inl (by omega),by go_num,Aa ac,(Aa M).1,(Aa M).2⟩
        case measure=>simp[intOf];omega
     . have bm:¬(a:Int)<(j:Int):=by omega
       have bf:decide ((j:Int)>(a:Int))=false:=decide_eq_false (by omega);have M:=af (fun h=>by omega);clear af;generalize Stab.rot E j i (i+1)=D at*;have ac:Hid (CSt N F O U Y Z T l w wr.drew D):=(Aa G).next ((Aa G).ps.drewN 1) (Cb (Aw _ _));go_wp2_with fail
       go_big_region
       all_goals go_wp2
       go_roundw
       case rel=>exact⟨i+1,D,by omega,.inl (by omega),by go_num,Aa ac,(Aa M).1,(Aa M).2⟩
       case measure=>simp[intOf];omega
  . have M:Hid (Stab.Moved a b d E/\Stab.Srt Stab.lx E a b):=by
     rcases as with H|⟨H,ag⟩
     . have e:i=b:=by omega
       rw[<-e];exact⟨ab,I⟩
     . rw[ag];exact⟨Stab.Moved.refl _ _ _,fun i j H ag bh=>by omega⟩
    clear as ae ab I am;go_wp2;go_end0
    exact⟨rfl,E,(Aa au).ps,(Aa M).1,(Aa M).2,(Aa au).grown⟩
end Go.Proofs.YtleocpdblhbimaaGreatDoor
