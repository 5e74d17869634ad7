import Derived.Test.YtcjbgpacnkilnagGreatDoorQ31
import Derived.Test.YtcjbgpacnkilnagGreatDoorQ3
set_option maxHeartbeats 8000000
namespace Go.Proofs.YtcjbgpacnkilnagGreatDoor
open Go.RowKit
set_option linter.unusedVariables false
set_option maxRecDepth 100000 in
theorem Z76 (N bp cap bx bl ol ln lc:Nat)(l:List Int)(d:Nat->Int×Int)(a m b:Nat)(w:World)(hm:Hid (m=a+1))(hN:N<=288)(hab:m<b)(hb:b<=N)(hX:Cx bp bx bl ol ln lc l w)
 (hP:PC N bp l d w) (sR:Stab.Srt Stab.lx d m b) (hc:Stab.Cross d a m b):
 Calls Tryz.prog 173 #[.slice (some ⟨bp,0,none⟩) N cap,.int .i64 a,.int .i64 m,.int .i64 b,CF bx] w fun e w'=>e=.returned (.tuple #[])/\∃d',PC N bp l d' w'/\Stab.Moved a b d d'/\Stab.Srt Stab.lx d' a b/\w.grownBy w' (some bp):=by
 have HP:=Ab hP;have HS:=Ab sR;have HC:=Ab hc;have HX:=Ab hX;have hone:((m:Int)-(a:Int)==1)=true:=by rw[beq_iff_eq];have:=Aa hm;omega
 have ham:a<m:=by have:=Aa hm;omega
 clear hP sR hc hX;go_enter Tryz.func173,Tryz.ntmps173
 go_wp2;go_loopw [10,11,12] (fun vi vj vh wr=>∃i j q:Nat,m<=i/\i<=j/\j<=b/\vi=.int .i64 i/\vj=.int .i64 j/\(m<i->Stab.lx (d (i-1)) (d a))/\(j<b->Stab.lx (d a) (d j))/\wr=w.drewN q) (fun vi vj _ _=>(intOf vj).toNat-(intOf vi).toNat)
 case atStart=>exact⟨m,b,0,Nat.le_refl _,by omega,Nat.le_refl _,rfl,rfl,fun h=>by omega,fun h=>by omega,rfl⟩
 case round=>
  obtain⟨i,j,q,hi,hij,hj,rfl,rfl,hlo,hhi,hw⟩:=hrel;have HW:=Ab hw;have HLO:=Ab hlo;have HHI:=Ab hhi;clear hlo hhi hw
  by_cases hlt:i<j
  . obtain⟨c,hcc⟩:∃c,c=(i+j)/2:=⟨_,rfl⟩
    have hc1:i<=c:=by omega
    have hc2:c<j:=by omega
    have E:Hid (((i:Int)+(j:Int))/2=(c:Int)):=by unfold Hid;omega
    have hx:=Ab (Stab.cross_less (Aa HC a c (Nat.le_refl _) ham (by omega) (by omega)));have P1:PC N bp l d wr:=by rw[Aa HW];exact(Aa HP).drewN q
    have X1:Cx bp bx bl ol ln lc l wr:=by rw[Aa HW];exact(Aa HX).drewN q
    have hCmp:=fun n=>Z62 P1 X1 c a (by omega) (by omega) n
    have cc:=(P1 c (by omega)).1.1;have ca:=(P1 a (by omega)).1.1;generalize (d c).2=y at*;generalize (d a).2=z at*;have CM:=Ab hCmp;clear hcc P1 X1 hCmp;have hcN:(c:Int)<(N:Int):=by omega
    have haN:(a:Int)<(N:Int):=by omega
    go_wp2_with fail
    rw[Aa E];go_wp2_with fail
    go_quiet ((go_at_call 156;refine Calls.quiet_of (Aa CM _)))
    rw[Xd]
    cases hd:decide ((d c).1<(d a).1)with
    |true=>
     have HX2:=Ab ((Aa hx).1 hd);clear hx hd;go_wp2;go_roundw
     case rel=>exact⟨c+1,j,_,by omega,by omega,hj,by go_num,rfl,fun _=>Aa HX2,Aa HHI,by rw[Aa HW,World.drewN_drewN]⟩
     case measure=>simp[intOf];omega
    |false=>
     have HX2:=Ab ((Aa hx).2 hd);clear hx hd;go_wp2;go_roundw
     case rel=>exact⟨i,c,_,hi,by omega,by omega,rfl,rfl,Aa HLO,fun _=>Aa HX2,by rw[Aa HW,World.drewN_drewN]⟩
     case measure=>simp[intOf];omega
  . obtain rfl:i=j:=by omega
    have hno:¬(i:Int)<(i:Int):=by omega
    have HA:Hid (Stab.rot d a (a+1) (a+1)=d):=Stab.rot_right d a (a+1);have HW0:Hid (PC N bp l d wr):=by rw[Aa HW];exact(Aa HP).drewN q
    have HWG:Hid (w.grownBy wr (some bp)):=by rw[Aa HW];exact Gd (Ap _ _) q
    go_wp2;go_loopw [13] (fun vk wq=>∃k:Nat,a<=k/\k<i/\vk=.int .i64 k/\PC N bp l (Stab.rot d a (a+1) (k+1)) wq/\w.grownBy wq (some bp)) (fun vk _=>i-(intOf vk).toNat)
    case atStart=>exact⟨a,Nat.le_refl _,by omega,rfl,by rw[Aa HA];exact Aa HW0,Aa HWG⟩
    case round=>
     obtain⟨k,hk1,hk2,rfl,hPk,hg⟩:=hrel;have HPk:=Ab hPk;have HG:=Ab hg;clear hPk hg
     by_cases hlt2:k<i-1
     . have hltI:(k:Int)<(i:Int)-1:=by omega
       have HU:=Ab (Stab.rot_up d a k hk1);generalize Stab.rot d a (a+1) (k+1)=dk at*;obtain⟨t,ht⟩:∃t,t=k+1:=⟨_,rfl⟩
       have hkN:k<N:=by omega
       have htN:t<N:=by omega
       have c1:=((Aa HPk) k hkN).1.1;have f1:=((Aa HPk) k hkN).1.2;have c2:=((Aa HPk) t htN).1.1;have f2:=((Aa HPk) t htN).1.2;have HSW:=Ab ((Aa HPk).sw k t hkN htN);have HGS:=Ab (Bp (Aj (Aa HG) (Lp wr bp (dk k).2 (dk t).2 k t)));obtain⟨u,c3⟩:=PC.c2 (Aa HPk) k t hkN htN (.int .i64 (dk t).2);generalize (dk k).2=x at*;generalize (dk t).2=y at*;have ba:(k:Int)<(N:Int):=by omega
       have ec:((k:Int)+1).toNat=t:=by omega
       have pc:(0:Int)<=(k:Int)+1:=by omega
       have bc:(k:Int)+1<(N:Int):=by omega
       have rc:IntKind.i64.wrap ((k:Int)+1)=(k:Int)+1:=by rw[IntKind.wrap_i64];omega
       have HT:=Ab ht;clear ht HPk;go_wp2_with fail
       go_big_region
       clear c1 c2 c3 f1 f2;unfold swC at HSW HGS;go_wp2;go_roundw
       case rel=>exact⟨k+1,by omega,by omega,by go_num,by rw[<-Aa HU,<-Aa HT];exact Aa HSW,Aa HGS⟩
       case measure=>simp[intOf];omega
     . obtain rfl:k=i-1:=by omega
       have hno2:¬((i-1:Nat):Int)<(i:Int)-1:=by omega
       have ei:i-1+1=i:=by omega
       have HF:Hid (PC N bp l (Stab.rot d a (a+1) i) wr):=by rw[ei]at HPk;exact HPk
       have hmv:=Ab ((Stab.moved_rot d a (a+1) i (by omega) (by omega)).wider (Nat.le_refl _) (by omega) hj);have sR':=Aa HS;rw[Aa hm]at sR' HLO;have hsr:=Ab (Stab.ins_first (by omega) hj sR' (Aa HLO) (Aa HHI));clear ei sR' HPk;go_wp2;refine bodyPost_ret (results_none rfl _ _ _) rfl ?_;exact⟨rfl,_,Aa HF,Aa hmv,Aa hsr,Aa HG⟩
set_option maxRecDepth 100000 in
theorem Z2v (N bp cap bx bl ol ln lc:Nat)(l:List Int)(d:Nat->Int×Int)(a m b:Nat)(w:World)(hb1:Hid (b=m+1))(hN:N<=288)(ham:a+1<m)(hmb:m<b)(hb:b<=N)(hX:Cx bp bx bl ol ln lc l w)
 (hP:PC N bp l d w) (sL:Stab.Srt Stab.lx d a m) (hc:Stab.Cross d a m b):
 Calls Tryz.prog 173 #[.slice (some ⟨bp,0,none⟩) N cap,.int .i64 a,.int .i64 m,.int .i64 b,CF bx] w fun e w'=>e=.returned (.tuple #[])/\∃d',PC N bp l d' w'/\Stab.Moved a b d d'/\Stab.Srt Stab.lx d' a b/\w.grownBy w' (some bp):=by
 have HP:=Ab hP;have HS:=Ab sL;have HC:=Ab hc;have HX:=Ab hX;have hnot:((m:Int)-(a:Int)==1)=false:=by rw[beq_eq_false_iff_ne];omega
 have hone:((b:Int)-(m:Int)==1)=true:=by rw[beq_iff_eq];have:=Aa hb1;omega
 clear hP sL hc hX;go_enter Tryz.func173,Tryz.ntmps173
 go_wp2;go_loopw [14,15,16] (fun vi vj vh wr=>∃i j q:Nat,a<=i/\i<=j/\j<=m/\vi=.int .i64 i/\vj=.int .i64 j/\(a<i->Stab.lx (d (i-1)) (d m))/\(j<m->Stab.lx (d m) (d j))/\wr=w.drewN q) (fun vi vj _ _=>(intOf vj).toNat-(intOf vi).toNat)
 case atStart=>exact⟨a,m,0,Nat.le_refl _,by omega,Nat.le_refl _,rfl,rfl,fun h=>by omega,fun h=>by omega,rfl⟩
 case round=>
  obtain⟨i,j,q,hi,hij,hj,rfl,rfl,hlo,hhi,hw⟩:=hrel;have HW:=Ab hw;have HLO:=Ab hlo;have HHI:=Ab hhi;clear hlo hhi hw
  by_cases hlt:i<j
  . obtain⟨c,hcc⟩:∃c,c=(i+j)/2:=⟨_,rfl⟩
    have hc1:i<=c:=by omega
    have hc2:c<j:=by omega
    have E:Hid (((i:Int)+(j:Int))/2=(c:Int)):=by unfold Hid;omega
    have hx:=Ab (Stab.cross_less (Aa HC c m (by omega) (by omega) (Nat.le_refl _) hmb));have P1:PC N bp l d wr:=by rw[Aa HW];exact(Aa HP).drewN q
    have X1:Cx bp bx bl ol ln lc l wr:=by rw[Aa HW];exact(Aa HX).drewN q
    have hCmp:=fun n=>Z62 P1 X1 m c (by omega) (by omega) n
    have cc:=(P1 c (by omega)).1.1;have ca:=(P1 m (by omega)).1.1;generalize (d c).2=y at*;generalize (d m).2=z at*;have CM:=Ab hCmp;clear hcc P1 X1 hCmp;have hcN:(c:Int)<(N:Int):=by omega
    have haN:(m:Int)<(N:Int):=by omega
    go_wp2_with fail
    rw[Aa E];go_wp2_with fail
    go_quiet ((go_at_call 156;refine Calls.quiet_of (Aa CM _)))
    rw[Xd]
    cases hd:decide ((d m).1<(d c).1)with
    |true=>
     have HX2:=Ab ((Aa hx).1 hd);clear hx hd;go_wp2;go_roundw
     case rel=>exact⟨i,c,_,hi,by omega,by omega,rfl,rfl,Aa HLO,fun _=>Aa HX2,by rw[Aa HW,World.drewN_drewN]⟩
     case measure=>simp[intOf];omega
    |false=>
     have HX2:=Ab ((Aa hx).2 hd);clear hx hd;go_wp2;go_roundw
     case rel=>exact⟨c+1,j,_,by omega,by omega,hj,by go_num,rfl,fun _=>Aa HX2,Aa HHI,by rw[Aa HW,World.drewN_drewN]⟩
     case measure=>simp[intOf];omega
  . obtain rfl:i=j:=by omega
    have hno:¬(i:Int)<(i:Int):=by omega
    have HA:Hid (Stab.rot d m m (m+1)=d):=Stab.rot_left d m (m+1);have HW0:Hid (PC N bp l d wr):=by rw[Aa HW];exact(Aa HP).drewN q
    have HWG:Hid (w.grownBy wr (some bp)):=by rw[Aa HW];exact Gd (Ap _ _) q
    go_wp2;go_loopw [17] (fun vk wq=>∃k:Nat,i<=k/\k<=m/\vk=.int .i64 k/\PC N bp l (Stab.rot d k m (m+1)) wq/\w.grownBy wq (some bp)) (fun vk _=>(intOf vk).toNat)
    case atStart=>exact⟨m,hj,Nat.le_refl _,rfl,by rw[Aa HA];exact Aa HW0,Aa HWG⟩
    case round=>
     obtain⟨k,hk1,hk2,rfl,hPk,hg⟩:=hrel;have HPk:=Ab hPk;have HG:=Ab hg;clear hPk hg
     by_cases hlt2:i<k
     . have HU:=Ab (Stab.rot_down d k m (by omega) hk2);generalize Stab.rot d k m (m+1)=dk at*;obtain⟨t,ht⟩:∃t,t=k-1:=⟨_,rfl⟩
       have hkN:k<N:=by omega
       have htN:t<N:=by omega
       have c1:=((Aa HPk) k hkN).1.1;have f1:=((Aa HPk) k hkN).1.2;have c2:=((Aa HPk) t htN).1.1;have f2:=((Aa HPk) t htN).1.2;have HSW:=Ab ((Aa HPk).sw k t hkN htN);have HGS:=Ab (Bp (Aj (Aa HG) (Lp wr bp (dk k).2 (dk t).2 k t)));obtain⟨u,c3⟩:=PC.c2 (Aa HPk) k t hkN htN (.int .i64 (dk t).2);generalize (dk k).2=x at*;generalize (dk t).2=y at*;have ba:(k:Int)<(N:Int):=by omega
       have ec:((k:Int)-1).toNat=t:=by omega
       have pc:(0:Int)<=(k:Int)-1:=by omega
       have bc:(k:Int)-1<(N:Int):=by omega
       have rc:IntKind.i64.wrap ((k:Int)-1)=(k:Int)-1:=by rw[IntKind.wrap_i64];omega
       have HT:=Ab ht;clear ht HPk;go_wp2_with fail
       go_big_region
       clear c1 c2 c3 f1 f2;unfold swC at HSW HGS;go_wp2;go_roundw
       case rel=>exact⟨k-1,by omega,by omega,by go_num,by rw[<-Aa HU,<-Aa HT];exact Aa HSW,Aa HGS⟩
       case measure=>simp[intOf];omega
     . obtain rfl:k=i:=by omega
       have hno2:¬(k:Int)<(k:Int):=by omega
       have hmv0:=(Stab.moved_rot d k m (m+1) hk2 (by omega)).wider hi (by omega) (Nat.le_refl _);have hsr0:=Stab.ins_last hi hk2 (Aa HS) (Aa HLO) (Aa HHI);rw[<-Aa hb1]at hmv0 hsr0;have hmv:=Ab hmv0;have hsr:=Ab hsr0;rw[<-Aa hb1]at HPk;clear hmv0 hsr0;go_wp2;refine bodyPost_ret (results_none rfl _ _ _) rfl ?_;exact⟨rfl,_,Aa HPk,Aa hmv,Aa hsr,Aa HG⟩
def Zi8 (N bp cap bx bl ol ln lc:Nat)(l:List Int)(L:Nat):Prop:=∀(d:Nat->Int×Int) (a m b:Nat) (w:World),b-a<=L->a<m->m<b->b<=N->Cx bp bx bl ol ln lc l w->
 PC N bp l d w->Stab.Srt Stab.lx d a m->Stab.Srt Stab.lx d m b->Stab.Cross d a m b->
 Calls Tryz.prog 173 #[.slice (some ⟨bp,0,none⟩) N cap,.int .i64 a,.int .i64 m,.int .i64 b,CF bx] w fun e w'=>e=.returned (.tuple #[])/\∃d',PC N bp l d' w'/\Stab.Moved a b d d'/\Stab.Srt Stab.lx d' a b/\w.grownBy w' (some bp)
structure CSt (N bp bx bl ol ln lc:Nat)(l:List Int)(w W:World)(D:Nat->Int×Int):Prop where
 ps:PC N bp l D W
 grown:w.grownBy W (some bp)
 cx:Cx bp bx bl ol ln lc l W
theorem CSt.next {N bp bx bl ol ln lc:Nat}{l:List Int}{w W W':World}{D D':Nat->Int×Int}(s:CSt N bp bx bl ol ln lc l w W D)(p:PC N bp l D' W')(g:W.grownBy W' (some bp)):CSt N bp bx bl ol ln lc l w W' D':=
 ⟨p,Aj s.grown g,s.cx.grown g⟩
theorem Hl {D d1:Nat->Int×Int}{a st mid en b:Nat}(mp:(Stab.Srt Stab.lx D a st/\Stab.Srt Stab.lx D st mid/\Stab.Cross D a st mid)/\(Stab.Srt Stab.lx D mid en/\Stab.Srt Stab.lx D en b/\Stab.Cross D mid en b))(hm:Stab.Moved a mid D d1)(hen:mid<=en):
 Stab.Srt Stab.lx d1 mid en/\Stab.Srt Stab.lx d1 en b/\Stab.Cross d1 mid en b:=
 ⟨mp.2.1.congr (fun k hk _=>hm.out k (by omega)),mp.2.2.1.congr (fun k hk _=>hm.out k (by omega)),mp.2.2.2.congr (fun k hk _=>hm.out k (by omega))⟩
set_option maxRecDepth 100000 in
theorem Qm (N bp cap bx bl ol ln lc:Nat)(l:List Int)(L:Nat)(hIH:Hid (Zi8 N bp cap bx bl ol ln lc l L))(d:Nat->Int×Int)(a m b mid lo hi:Nat)(w:World)(hN:N<=288)(hL:b-a<=L+1)(ham:a+1<m)(hmb:m+1<b)(hb:b<=N)
 (hmid:Hid (mid=(a+b)/2)) (hway:Hid ((mid<m/\lo+b=mid+m/\hi=mid)\/ (m<=mid/\lo=a/\hi=m))) (hX:Cx bp bx bl ol ln lc l w)
 (hP:PC N bp l d w) (sL:Stab.Srt Stab.lx d a m) (sR:Stab.Srt Stab.lx d m b) (hc:Stab.Cross d a m b):
 Calls Tryz.prog 173 #[.slice (some ⟨bp,0,none⟩) N cap,.int .i64 a,.int .i64 m,.int .i64 b,CF bx] w fun e w'=>e=.returned (.tuple #[])/\∃d',PC N bp l d' w'/\Stab.Moved a b d d'/\Stab.Srt Stab.lx d' a b/\w.grownBy w' (some bp):=by
 have HP:=Ab hP;have HSL:=Ab sL;have HSR:=Ab sR;have HC:=Ab hc;have HX:=Ab hX;have h1:((m:Int)-(a:Int)==1)=false:=by rw[beq_eq_false_iff_ne];omega
 have h2:((b:Int)-(m:Int)==1)=false:=by rw[beq_eq_false_iff_ne];omega
 have hlo:a<=lo/\lo<=hi/\hi<=m/\hi<=mid/\a<mid/\mid<b/\mid+m<=lo+b:=by have:=Aa hmid;have:=Aa hway;omega
 obtain⟨q1,q2,q3,q4,q5,q6,q7⟩:=hlo;have hmI:((a:Int)+(b:Int))/2=(mid:Int):=by have:=Aa hmid;omega
 have HMI:=Ab hmI;clear hP sL sR hc hX hmI
 rcases Aa hway with ⟨v1,v2,v3⟩|⟨v1,v2,v3⟩
 case' inl=>have hcmp:((a:Int)+(b:Int))/2<(m:Int):=by rw[Aa HMI];omega
 case' inr=>have hcmp:¬((a:Int)+(b:Int))/2<(m:Int):=by rw[Aa HMI];omega
 all_goals
  have V2:=Ab v2;have V3:=Ab v3;clear v2 v3;go_enter Tryz.func173,Tryz.ntmps173
  go_wp2;go_loopw [20,21,23] (fun vi vj vh wr=>∃st r q:Nat,lo<=st/\st<=r/\r<=hi/\vi=.int .i64 st/\vj=.int .i64 r/\(lo<st->Stab.lx (d (st-1)) (d (mid+m-st)))/\(r<hi->Stab.lx (d (mid+m-1-r)) (d r))/\wr=w.drewN q) (fun vi vj _ _=>(intOf vj).toNat-(intOf vi).toNat)
  case atStart=>exact⟨lo,hi,0,Nat.le_refl _,q2,Nat.le_refl _,congrArg (Value.int .i64) (by have:=Aa V2;have:=Aa HMI;omega),congrArg (Value.int .i64) (by have:=Aa V3;have:=Aa HMI;omega),fun h=>by omega,fun h=>by omega,rfl⟩
  case round=>
   obtain⟨st,r,q,hi1,hij,hj,rfl,rfl,hlo,hhi,hw⟩:=hrel;have HW:=Ab hw;have HLO:=Ab hlo;have HHI:=Ab hhi;clear hlo hhi hw
   by_cases hlt:st<r
   . obtain⟨c,hcc⟩:∃c,c=(st+r)/2:=⟨_,rfl⟩
     have hc1:st<=c:=by omega
     have hc2:c<r:=by omega
     have E:Hid (((st:Int)+(r:Int))/2=(c:Int)):=by unfold Hid;omega
     obtain⟨f,hf⟩:∃f,f=mid+m-1-c:=⟨_,rfl⟩
     have E2:(((a:Int)+(b:Int))/2+(m:Int)-1-(c:Int)).toNat=f:=by have:=Aa HMI;omega
     have p2:(0:Int)<=((a:Int)+(b:Int))/2+(m:Int)-1-(c:Int):=by have:=Aa HMI;omega
     have b2:((a:Int)+(b:Int))/2+(m:Int)-1-(c:Int)<(N:Int):=by have:=Aa HMI;omega
     have r2:IntKind.i64.wrap (((a:Int)+(b:Int))/2+(m:Int)-1-(c:Int))=((a:Int)+(b:Int))/2+(m:Int)-1-(c:Int):=by rw[IntKind.wrap_i64];have:=Aa HMI;omega
     have hx:=Ab (Stab.cross_less (Aa HC c f (by omega) (by omega) (by omega) (by omega)));have P1:PC N bp l d wr:=by rw[Aa HW];exact(Aa HP).drewN q
     have X1:Cx bp bx bl ol ln lc l wr:=by rw[Aa HW];exact(Aa HX).drewN q
     have hCmp:=fun n=>Z62 P1 X1 f c (by omega) (by omega) n
     have cc:=(P1 c (by omega)).1.1;have ca:=(P1 f (by omega)).1.1;generalize (d c).2=y at*;generalize (d f).2=z at*;have CM:=Ab hCmp;have HF:=Ab hf;have hcN:(c:Int)<(N:Int):=by omega
     clear hcc P1 X1 hCmp hf;go_wp2_with fail
     rw[Aa E];go_wp2_with fail
     go_quiet ((go_at_call 156;refine Calls.quiet_of (Aa CM _)))
     rw[Xd]
     cases hd:decide ((d f).1<(d c).1)with
     |true=>
      have HX2:=Ab ((Aa hx).1 hd);rw[Aa HF]at HX2;clear hx hd;go_wp2;go_roundw
      case rel=>exact⟨st,c,_,hi1,hc1,by omega,rfl,rfl,Aa HLO,fun _=>Aa HX2,by rw[Aa HW,World.drewN_drewN]⟩
      case measure=>simp[intOf];omega
     |false=>
      have HX2:=Ab ((Aa hx).2 hd);have ee:Hid (mid+m-(c+1)=f):=by have:=Aa HF;unfold Hid;omega
      clear hx hd;go_wp2;go_roundw
      case rel=>exact⟨c+1,r,_,by omega,by omega,hj,by go_num,rfl,fun _=>by rw[Aa ee];exact Aa HX2,Aa HHI,by rw[Aa HW,World.drewN_drewN]⟩
      case measure=>simp[intOf];omega
   . obtain rfl:st=r:=by omega
     have hno:¬(st:Int)<(st:Int):=by omega
     obtain⟨en,hen⟩:∃en,en+st=mid+m:=⟨mid+m-st,by omega⟩
     have hEN:(mid:Int)+(m:Int)-(st:Int)=(en:Int):=by omega
     have hmm:mid+m=st+en:=by omega
     have hen1:m<=en:=by have:=Aa hway;omega
     have hen2:en<=b:=by omega
     have hen3:mid<=en:=by omega
     have MP:=Ab (Stab.merge_parts (show a<=st by omega) (show st<=m by omega) hen1 hen2 hmm (Aa HSL) (Aa HSR) (Aa HC))
     have CL:Hid (a<st->en<b->Stab.lx (d (st-1)) (d en)):=fun c1 c2=>by
      have h:=Aa HLO (by have:=Aa V2;have:=Aa hway;omega);rw[show mid+m-st=en by omega]at h;exact h
     have CR:Hid (st<m->m<en->Stab.lx (d (en-1)) (d st)):=fun c1 c2=>by
      have h:=Aa HHI (by have:=Aa V3;have:=Aa hway;omega);rw[show mid+m-1-st=en-1 by omega]at h;exact h
     have S0:Hid (CSt N bp bx bl ol ln lc l w wr d):=by rw[Aa HW];exact⟨(Aa HP).drewN q,Gd (Ap _ _) q,(Aa HX).drewN q⟩
     rw[Aa HMI];have ww:(st<m/\m<en/\a<st/\en<b/\st<mid/\mid<en)\/ (st<m/\m<en/\a<st/\en=b/\st<mid/\mid<en)\/ (st<m/\m<en/\st=a/\en<b/\st<mid/\mid<en)\/ (st<m/\m<en/\st=a/\en=b/\st<mid/\mid<en)\/ (st=m/\en=mid/\a<st/\st<mid)\/ (st=m/\en=mid/\a<st/\st=mid)\/ (st<m/\en=m/\st=mid/\a<st/\mid<en/\en<b):=by omega
     clear HLO HHI hen
     rcases ww with ww|ww|ww|ww|ww|ww|ww
     . have k1:(st:Int)<(m:Int):=by omega
       have k2:(m:Int)<(en:Int):=by omega
       have l1:(a:Int)<(st:Int):=by omega
       have l2:(st:Int)<(mid:Int):=by omega
       have n1:(mid:Int)<(en:Int):=by omega
       have n2:(en:Int)<(b:Int):=by omega
       have WW:=Ab ww;clear ww;go_wp2_with fail
       refine(Vo (CF bx) N bp cap l d st m en _ hN (by have:=Aa WW;omega) (by have:=Aa WW;omega) (by have:=Aa WW;omega) (Aa S0).ps).mono ?_;rintro e w1 ⟨rfl,p1,g1⟩;have S1:=Ab ((Aa S0).next p1 g1);clear p1 g1;go_wp2_with fail
       refine(Aa hIH (Stab.rot d st m en) a st mid _ (by have:=Aa WW;omega) (by have:=Aa WW;omega) (by have:=Aa WW;omega) (by have:=Aa WW;omega) (Aa S1).cx (Aa S1).ps (Aa MP).1.1 (Aa MP).1.2.1 (Aa MP).1.2.2).mono ?_;rintro e w2 ⟨rfl,d1,p2,m1,s1,g2⟩;have S2:=Ab ((Aa S1).next p2 g2);have MM1:=Ab m1;have SS1:=Ab s1;clear p2 g2 m1 s1;have MP2:=Ab (Hl (Aa MP) (Aa MM1) hen3);go_wp2_with fail
       refine(Aa hIH d1 mid en b _ (by have:=Aa WW;omega) (by have:=Aa WW;omega) (by have:=Aa WW;omega) (by have:=Aa WW;omega) (Aa S2).cx (Aa S2).ps (Aa MP2).1 (Aa MP2).2.1 (Aa MP2).2.2).mono ?_;rintro e w3 ⟨rfl,d2,p3,m2,s2,g3⟩;have S3:=Ab ((Aa S2).next p3 g3);have MM2:=Ab m2;have SS2:=Ab s2;clear p3 g3 m2 s2;have FIN:=Ab (Stab.merge_step Stab.lx_trans (by have:=Aa WW;omega) (by have:=Aa WW;omega) (by have:=Aa WW;omega) (by have:=Aa WW;omega) hmm (Aa HSL) (Aa HSR) (Aa CL) (Aa CR) (Aa MM1) (Aa SS1) (Aa MM2) (Aa SS2));go_wp2
       all_goals (go_end0;exact⟨rfl,d2,(Aa S3).ps,(Aa FIN).2,(Aa FIN).1,(Aa S3).grown⟩)
     . have k1:(st:Int)<(m:Int):=by omega
       have k2:(m:Int)<(en:Int):=by omega
       have l1:(a:Int)<(st:Int):=by omega
       have l2:(st:Int)<(mid:Int):=by omega
       have n1:(mid:Int)<(en:Int):=by omega
       have n2:¬(en:Int)<(b:Int):=by omega
       have WW:=Ab ww;clear ww;go_wp2_with fail
       refine(Vo (CF bx) N bp cap l d st m en _ hN (by have:=Aa WW;omega) (by have:=Aa WW;omega) (by have:=Aa WW;omega) (Aa S0).ps).mono ?_;rintro e w1 ⟨rfl,p1,g1⟩;have S1:=Ab ((Aa S0).next p1 g1);clear p1 g1;go_wp2_with fail
       refine(Aa hIH (Stab.rot d st m en) a st mid _ (by have:=Aa WW;omega) (by have:=Aa WW;omega) (by have:=Aa WW;omega) (by have:=Aa WW;omega) (Aa S1).cx (Aa S1).ps (Aa MP).1.1 (Aa MP).1.2.1 (Aa MP).1.2.2).mono ?_;rintro e w2 ⟨rfl,d1,p2,m1,s1,g2⟩;have S2:=Ab ((Aa S1).next p2 g2);have MM1:=Ab m1;have SS1:=Ab s1;clear p2 g2 m1 s1;have MP2:=Ab (Hl (Aa MP) (Aa MM1) hen3);have S3:=S2;obtain⟨d2,hd2⟩:∃d2,d2=d1:=⟨_,rfl⟩
       rw[<-hd2]at S3;have MM2:Hid (Stab.Moved mid b d1 d2):=by rw[hd2];exact Stab.Moved.refl _ _ _
       have SS2:Hid (Stab.Srt Stab.lx d2 mid b):=by rw[hd2];exact(Aa MP2).1.sub (Nat.le_refl _) (by have:=Aa WW;omega)
       clear hd2;have FIN:=Ab (Stab.merge_step Stab.lx_trans (by have:=Aa WW;omega) (by have:=Aa WW;omega) (by have:=Aa WW;omega) (by have:=Aa WW;omega) hmm (Aa HSL) (Aa HSR) (Aa CL) (Aa CR) (Aa MM1) (Aa SS1) (Aa MM2) (Aa SS2));go_wp2
       all_goals (go_end0;exact⟨rfl,d2,(Aa S3).ps,(Aa FIN).2,(Aa FIN).1,(Aa S3).grown⟩)
     . have k1:(st:Int)<(m:Int):=by omega
       have k2:(m:Int)<(en:Int):=by omega
       have l1:¬(a:Int)<(st:Int):=by omega
       have n1:(mid:Int)<(en:Int):=by omega
       have n2:(en:Int)<(b:Int):=by omega
       have WW:=Ab ww;clear ww;go_wp2_with fail
       refine(Vo (CF bx) N bp cap l d st m en _ hN (by have:=Aa WW;omega) (by have:=Aa WW;omega) (by have:=Aa WW;omega) (Aa S0).ps).mono ?_;rintro e w1 ⟨rfl,p1,g1⟩;have S1:=Ab ((Aa S0).next p1 g1);clear p1 g1;have S2:=S1;obtain⟨d1,hd1⟩:∃d1,d1=Stab.rot d st m en:=⟨_,rfl⟩
       rw[<-hd1]at S2;have MM1:Hid (Stab.Moved a mid (Stab.rot d st m en) d1):=by rw[hd1];exact Stab.Moved.refl _ _ _
       have SS1:Hid (Stab.Srt Stab.lx d1 a mid):=by rw[hd1];exact(Aa MP).1.2.1.sub (by have:=Aa WW;omega) (Nat.le_refl _)
       clear hd1;have MP2:=Ab (Hl (Aa MP) (Aa MM1) hen3);go_wp2_with fail
       refine(Aa hIH d1 mid en b _ (by have:=Aa WW;omega) (by have:=Aa WW;omega) (by have:=Aa WW;omega) (by have:=Aa WW;omega) (Aa S2).cx (Aa S2).ps (Aa MP2).1 (Aa MP2).2.1 (Aa MP2).2.2).mono ?_;rintro e w3 ⟨rfl,d2,p3,m2,s2,g3⟩;have S3:=Ab ((Aa S2).next p3 g3);have MM2:=Ab m2;have SS2:=Ab s2;clear p3 g3 m2 s2;have FIN:=Ab (Stab.merge_step Stab.lx_trans (by have:=Aa WW;omega) (by have:=Aa WW;omega) (by have:=Aa WW;omega) (by have:=Aa WW;omega) hmm (Aa HSL) (Aa HSR) (Aa CL) (Aa CR) (Aa MM1) (Aa SS1) (Aa MM2) (Aa SS2));go_wp2
       all_goals (go_end0;exact⟨rfl,d2,(Aa S3).ps,(Aa FIN).2,(Aa FIN).1,(Aa S3).grown⟩)
     . have k1:(st:Int)<(m:Int):=by omega
       have k2:(m:Int)<(en:Int):=by omega
       have l1:¬(a:Int)<(st:Int):=by omega
       have n1:(mid:Int)<(en:Int):=by omega
       have n2:¬(en:Int)<(b:Int):=by omega
       have WW:=Ab ww;clear ww;go_wp2_with fail
       refine(Vo (CF bx) N bp cap l d st m en _ hN (by have:=Aa WW;omega) (by have:=Aa WW;omega) (by have:=Aa WW;omega) (Aa S0).ps).mono ?_;rintro e w1 ⟨rfl,p1,g1⟩;have S1:=Ab ((Aa S0).next p1 g1);clear p1 g1;have S2:=S1;obtain⟨d1,hd1⟩:∃d1,d1=Stab.rot d st m en:=⟨_,rfl⟩
       rw[<-hd1]at S2;have MM1:Hid (Stab.Moved a mid (Stab.rot d st m en) d1):=by rw[hd1];exact Stab.Moved.refl _ _ _
       have SS1:Hid (Stab.Srt Stab.lx d1 a mid):=by rw[hd1];exact(Aa MP).1.2.1.sub (by have:=Aa WW;omega) (Nat.le_refl _)
       clear hd1;have MP2:=Ab (Hl (Aa MP) (Aa MM1) hen3);have S3:=S2;obtain⟨d2,hd2⟩:∃d2,d2=d1:=⟨_,rfl⟩
       rw[<-hd2]at S3;have MM2:Hid (Stab.Moved mid b d1 d2):=by rw[hd2];exact Stab.Moved.refl _ _ _
       have SS2:Hid (Stab.Srt Stab.lx d2 mid b):=by rw[hd2];exact(Aa MP2).1.sub (Nat.le_refl _) (by have:=Aa WW;omega)
       clear hd2;have FIN:=Ab (Stab.merge_step Stab.lx_trans (by have:=Aa WW;omega) (by have:=Aa WW;omega) (by have:=Aa WW;omega) (by have:=Aa WW;omega) hmm (Aa HSL) (Aa HSR) (Aa CL) (Aa CR) (Aa MM1) (Aa SS1) (Aa MM2) (Aa SS2));go_wp2
       all_goals (go_end0;exact⟨rfl,d2,(Aa S3).ps,(Aa FIN).2,(Aa FIN).1,(Aa S3).grown⟩)
     . have k1:¬(st:Int)<(m:Int):=by omega
       have l1:(a:Int)<(st:Int):=by omega
       have l2:(st:Int)<(mid:Int):=by omega
       have n1:¬(mid:Int)<(en:Int):=by omega
       have WW:=Ab ww;clear ww;have S1:Hid (CSt N bp bx bl ol ln lc l w wr (Stab.rot d st m en)):=by rw[show Stab.rot d st m en=d from by rw[show st=m by have:=Aa WW;omega];exact Stab.rot_left d m en];exact Aa S0
       go_wp2_with fail
       refine(Aa hIH (Stab.rot d st m en) a st mid _ (by have:=Aa WW;omega) (by have:=Aa WW;omega) (by have:=Aa WW;omega) (by have:=Aa WW;omega) (Aa S1).cx (Aa S1).ps (Aa MP).1.1 (Aa MP).1.2.1 (Aa MP).1.2.2).mono ?_;rintro e w2 ⟨rfl,d1,p2,m1,s1,g2⟩;have S2:=Ab ((Aa S1).next p2 g2);have MM1:=Ab m1;have SS1:=Ab s1;clear p2 g2 m1 s1;have MP2:=Ab (Hl (Aa MP) (Aa MM1) hen3);have S3:=S2;obtain⟨d2,hd2⟩:∃d2,d2=d1:=⟨_,rfl⟩
       rw[<-hd2]at S3;have MM2:Hid (Stab.Moved mid b d1 d2):=by rw[hd2];exact Stab.Moved.refl _ _ _
       have SS2:Hid (Stab.Srt Stab.lx d2 mid b):=by rw[hd2];exact(Aa MP2).2.1.sub (by have:=Aa WW;omega) (Nat.le_refl _)
       clear hd2;have FIN:=Ab (Stab.merge_step Stab.lx_trans (by have:=Aa WW;omega) (by have:=Aa WW;omega) (by have:=Aa WW;omega) (by have:=Aa WW;omega) hmm (Aa HSL) (Aa HSR) (Aa CL) (Aa CR) (Aa MM1) (Aa SS1) (Aa MM2) (Aa SS2));go_wp2
       all_goals (go_end0;exact⟨rfl,d2,(Aa S3).ps,(Aa FIN).2,(Aa FIN).1,(Aa S3).grown⟩)
     . have k1:¬(st:Int)<(m:Int):=by omega
       have l1:(a:Int)<(st:Int):=by omega
       have l2:¬(st:Int)<(mid:Int):=by omega
       have n1:¬(mid:Int)<(en:Int):=by omega
       have WW:=Ab ww;clear ww;have S1:Hid (CSt N bp bx bl ol ln lc l w wr (Stab.rot d st m en)):=by rw[show Stab.rot d st m en=d from by rw[show st=m by have:=Aa WW;omega];exact Stab.rot_left d m en];exact Aa S0
       have S2:=S1;obtain⟨d1,hd1⟩:∃d1,d1=Stab.rot d st m en:=⟨_,rfl⟩
       rw[<-hd1]at S2;have MM1:Hid (Stab.Moved a mid (Stab.rot d st m en) d1):=by rw[hd1];exact Stab.Moved.refl _ _ _
       have SS1:Hid (Stab.Srt Stab.lx d1 a mid):=by rw[hd1];exact(Aa MP).1.1.sub (Nat.le_refl _) (by have:=Aa WW;omega)
       clear hd1;have MP2:=Ab (Hl (Aa MP) (Aa MM1) hen3);have S3:=S2;obtain⟨d2,hd2⟩:∃d2,d2=d1:=⟨_,rfl⟩
       rw[<-hd2]at S3;have MM2:Hid (Stab.Moved mid b d1 d2):=by rw[hd2];exact Stab.Moved.refl _ _ _
       have SS2:Hid (Stab.Srt Stab.lx d2 mid b):=by rw[hd2];exact(Aa MP2).2.1.sub (by have:=Aa WW;omega) (Nat.le_refl _)
       clear hd2;have FIN:=Ab (Stab.merge_step Stab.lx_trans (by have:=Aa WW;omega) (by have:=Aa WW;omega) (by have:=Aa WW;omega) (by have:=Aa WW;omega) hmm (Aa HSL) (Aa HSR) (Aa CL) (Aa CR) (Aa MM1) (Aa SS1) (Aa MM2) (Aa SS2));go_wp2
       all_goals (go_end0;exact⟨rfl,d2,(Aa S3).ps,(Aa FIN).2,(Aa FIN).1,(Aa S3).grown⟩)
     . have k1:(st:Int)<(m:Int):=by omega
       have k2:¬(m:Int)<(en:Int):=by omega
       have l1:(a:Int)<(st:Int):=by omega
       have l2:¬(st:Int)<(mid:Int):=by omega
       have n1:(mid:Int)<(en:Int):=by omega
       have n2:(en:Int)<(b:Int):=by omega
       have WW:=Ab ww;clear ww;have S1:Hid (CSt N bp bx bl ol ln lc l w wr (Stab.rot d st m en)):=by rw[show Stab.rot d st m en=d from by rw[show en=m by have:=Aa WW;omega];exact Stab.rot_right d st m];exact Aa S0
       have S2:=S1;obtain⟨d1,hd1⟩:∃d1,d1=Stab.rot d st m en:=⟨_,rfl⟩
       rw[<-hd1]at S2;have MM1:Hid (Stab.Moved a mid (Stab.rot d st m en) d1):=by rw[hd1];exact Stab.Moved.refl _ _ _
       have SS1:Hid (Stab.Srt Stab.lx d1 a mid):=by rw[hd1];exact(Aa MP).1.1.sub (Nat.le_refl _) (by have:=Aa WW;omega)
       clear hd1;have MP2:=Ab (Hl (Aa MP) (Aa MM1) hen3);go_wp2_with fail
       refine(Aa hIH d1 mid en b _ (by have:=Aa WW;omega) (by have:=Aa WW;omega) (by have:=Aa WW;omega) (by have:=Aa WW;omega) (Aa S2).cx (Aa S2).ps (Aa MP2).1 (Aa MP2).2.1 (Aa MP2).2.2).mono ?_;rintro e w3 ⟨rfl,d2,p3,m2,s2,g3⟩;have S3:=Ab ((Aa S2).next p3 g3);have MM2:=Ab m2;have SS2:=Ab s2;clear p3 g3 m2 s2;have FIN:=Ab (Stab.merge_step Stab.lx_trans (by have:=Aa WW;omega) (by have:=Aa WW;omega) (by have:=Aa WW;omega) (by have:=Aa WW;omega) hmm (Aa HSL) (Aa HSR) (Aa CL) (Aa CR) (Aa MM1) (Aa SS1) (Aa MM2) (Aa SS2));go_wp2
       all_goals (go_end0;exact⟨rfl,d2,(Aa S3).ps,(Aa FIN).2,(Aa FIN).1,(Aa S3).grown⟩)
def CutAt (d:Nat->Int×Int)(n c:Nat):Prop:=∀i j,i<c->c<=j->j<n->(d i).2<(d j).2
theorem CutAt.moved {d d':Nat->Int×Int}{n c p q:Nat}(h:CutAt d n c)(hm:Stab.Moved p q d d')(hq:q<=n)(hc:c<=p\/q<=c):CutAt d' n c:=by
 intro i j hi hj hn
 have hi':∃i',i'<c/\d i'=d' i:=by
  by_cases e:p<=i/\i<q
  . obtain⟨k,k1,k2,k3⟩:=hm.mem e.1 e.2;exact⟨k,by omega,k3⟩
  . exact⟨i,hi,(hm.out i (by omega)).symm⟩
 have hj':∃j',c<=j'/\j'<n/\d j'=d' j:=by
  by_cases e:p<=j/\j<q
  . obtain⟨k,k1,k2,k3⟩:=hm.mem e.1 e.2;exact⟨k,by omega,by omega,k3⟩
  . exact⟨j,hj,hn,(hm.out j (by omega)).symm⟩
 obtain⟨i',h1,h2⟩:=hi';obtain⟨j',h3,h4,h5⟩:=hj';rw[<-h2,<-h5];exact h i' j' h1 h3 h4
def Zmq (d:Nat->Int×Int)(a b:Nat):Prop:=∀i j,a<=i->i<j->j<b->(d i).2<(d j).2
def Rz (d:Nat->Int×Int)(n B:Nat):Prop:=∀s,Stab.Srt Stab.lx d (s*B) (min (s*B+B) n)
def Cuts (d:Nat->Int×Int)(n B:Nat):Prop:=∀s,CutAt d n (s*B)
structure Part (d dk:Nat->Int×Int)(n X t:Nat):Prop where
 srt:∀s,s<t->Stab.Srt Stab.lx d (s*X) (s*X+X)
 rest:∀k,t*X<=k->d k=dk k
 cuts:Cuts d n X
theorem Z67 {s t:Nat}(X:Nat)(h:s<t):s*X+X<=t*X:=by
 have:=Nat.mul_le_mul_right X (show s+1<=t from h)
 rwa [Nat.succ_mul]at this
theorem Zmn {s t:Nat}(X:Nat)(h:s<=t):s*X<=t*X:=Nat.mul_le_mul_right X h
theorem Z60 (s t X n:Nat):s*X<=t*X\/t*X+X<=s*X:=by
 by_cases h:s<=t
 . exact .inl (Zmn X h)
 . exact .inr (Z67 X (by omega))
theorem Part.step {d dk d':Nat->Int×Int}{n X t:Nat}(h:Part d dk n X t)(hn:t*X+X<=n)(hm:Stab.Moved (t*X) (t*X+X) d d')(hs:Stab.Srt Stab.lx d' (t*X) (t*X+X)):Part d' dk n X (t+1):=by
 refine⟨fun s hst=> ?_,fun k hk=> ?_,fun s=>(h.cuts s).moved hm hn (Z60 s t X n)⟩
 . by_cases e:s=t
   . subst e;exact hs
   . have:=Z67 X (show s<t by omega)
     exact(h.srt s (by omega)).congr (fun k h1 h2=>hm.out k (by omega))
 . rw[Nat.succ_mul]at hk;rw[hm.out k (by omega)];exact h.rest k (by omega)
theorem Part.last {d dk d':Nat->Int×Int}{n X t:Nat}(h:Part d dk n X t)(h1:t*X<=n)(h2:n<=t*X+X)(hm:Stab.Moved (t*X) n d d')(hs:Stab.Srt Stab.lx d' (t*X) n):Rz d' n X/\Cuts d' n X:=by
 refine⟨fun s=> ?_,fun s=> ?_⟩
 . rcases Nat.lt_trichotomy s t with e|e|e
   . have:=Z67 X e
     rw[Nat.min_eq_left (by omega)];exact(h.srt s e).congr (fun k h1 h2=>hm.out k (by omega))
   . subst e;rw[Nat.min_eq_right h2];exact hs
   . have:=Z67 X e
     intro i j hi hij hj;have:j<n:=Nat.lt_of_lt_of_le hj (Nat.min_le_right _ _)
     omega
 . rcases Z60 s t X n with e|e
   . exact(h.cuts s).moved hm (Nat.le_refl _) (.inl e)
   . exact(h.cuts s).moved hm (Nat.le_refl _) (.inr (by omega))
theorem Z4e {d dk:Nat->Int×Int}{n B t e:Nat}(hb:Rz dk n B)(hc:Cuts dk n B)(hr:∀k,t*(2*B)<=k->d k=dk k)(h1:t*(2*B)+B<e)(h2:e<=t*(2*B)+2*B)(h3:e<=n)(h4:e=n\/e=t*(2*B)+2*B):
 Stab.Srt Stab.lx d (t*(2*B)) (t*(2*B)+B)/\Stab.Srt Stab.lx d (t*(2*B)+B) e/\Stab.Cross d (t*(2*B)) (t*(2*B)+B) e:=by
 have e1:(2*t)*B=t*(2*B):=by rw[Nat.mul_comm 2 t,Nat.mul_assoc]
 have e2:(2*t+1)*B=t*(2*B)+B:=by rw[Nat.succ_mul,e1]
 have b1:=hb (2*t);have b2:=hb (2*t+1);have c:=hc (2*t+1);rw[e1,Nat.min_eq_left (by omega)]at b1;rw[e2]at b2 c;generalize t*(2*B)=a at*;refine⟨b1.congr (fun k h _=>hr k h), ?_,fun i j hi hi2 hj hj2=> ?_⟩
 . refine Stab.Srt.congr (d:=dk) (b2.sub (Nat.le_refl _) ?_) (fun k h _=>hr k (by omega))
   rcases h4 with rfl|rfl
   . exact Nat.le_min.2 ⟨by omega,Nat.le_refl _⟩
   . exact Nat.le_min.2 ⟨by omega,h3⟩
 . rw[hr i hi,hr j (by omega)];exact c i j hi2 hj (by omega)
theorem Zjk {d dk:Nat->Int×Int}{n B t:Nat}(hb:Rz dk n B)(hr:∀k,t*(2*B)<=k->d k=dk k)(h:n<=t*(2*B)+B):Stab.Srt Stab.lx d (t*(2*B)) n:=by
 have e1:(2*t)*B=t*(2*B):=by rw[Nat.mul_comm 2 t,Nat.mul_assoc]
 have b1:=hb (2*t);rw[e1,Nat.min_eq_right h]at b1;exact b1.congr (fun k h _=>hr k h)
theorem Cuts.double {d:Nat->Int×Int}{n B:Nat}(h:Cuts d n B):Cuts d n (2*B):=fun s=>by
 have e:s*(2*B)=(2*s)*B:=by rw[Nat.mul_comm 2 s,Nat.mul_assoc]
 rw[e];exact h (2*s)
end Go.Proofs.YtcjbgpacnkilnagGreatDoor
