import Derived.Test.YtleocpdblhbimaaGreatDoorQ13
set_option linter.unusedSimpArgs false
set_option maxHeartbeats 4000000
namespace Go.Proofs.YtleocpdblhbimaaGreatDoor
open Go.RowKit
set_option linter.unusedVariables false
set_option maxRecDepth 100000 in
theorem Yl (h:Value)(hh:Hid (h=typeHandle Tryz.prog 230))(N bp bx cap:Nat)(d:Nat->Int×Int)(a m b:Nat)(w:World)(hm:Hid (m=a+1))(hN:N<=288)(hab:m<b)(hb:b<=N)(hbp:bp<w.heap.size)(hbx:bx<w.heap.size)(hne:bx≠bp)
 (hbox:w.cell? ⟨bx,0,none⟩=some (.slice (some ⟨bp,0,none⟩) N cap)) (hP:PS N bp d w) (sR:Stab.Srt Stab.lx d m b) (hc:Stab.Cross d a m b):
 Calls Tryz.prog 226 #[.agg #[LF bx,SF h N bp cap],.int .i64 a,.int .i64 m,.int .i64 b] w fun e w'=>e=.returned (.tuple #[])/\∃d',PS N bp d' w'/\Stab.Moved a b d d'/\Stab.Srt Stab.lx d' a b/\w.grownBy w' (some bp):=by
 have HP:=Ab hP;have HS:=Ab sR;have HC:=Ab hc;have HBX:=Ab hbox;have hone:((m:Int)-(a:Int)==1)=true:=by rw[beq_iff_eq];have:=Aa hm;omega
 have ham:a<m:=by have:=Aa hm;omega
 clear hP sR hc hbox;go_enter Tryz.func226,Tryz.ntmps226
 go_wp2;go_loopw [8,9,10] (fun vi vj vh wr=>∃i j q:Nat,m<=i/\i<=j/\j<=b/\vi=.int .i64 i/\vj=.int .i64 j/\(m<i->Stab.lx (d (i-1)) (d a))/\(j<b->Stab.lx (d a) (d j))/\wr=(w.alloc (.cells #[LF bx,SF h N bp cap] 277)).drewN q) (fun vi vj _ _=>(intOf vj).toNat-(intOf vi).toNat)
 case atStart=>exact⟨m,b,0,VC _,by omega,VC _,rfl,rfl,fun h=>by omega,fun h=>by omega,rfl⟩
 case round=>
  obtain⟨i,j,q,hi,hij,hj,rfl,rfl,hlo,hhi,rfl⟩:=hrel;have HLO:=Ab hlo;have HHI:=Ab hhi;clear hlo hhi
  by_cases hlt:i<j
  . obtain⟨c,hcc⟩:∃c,c=(i+j)/2:=⟨_,rfl⟩
    have hc1:i<=c:=by omega
    have hc2:c<j:=by omega
    have E:Hid (((i:Int)+(j:Int))/2=(c:Int)):=by unfold Hid;omega
    have hx:=Stab.cross_less (Aa HC a c (VC _) ham (by omega) (by omega));clear hcc;go_wp2_with fail
    rw[Aa E];refine(Pc N bp bx cap d _ c a (by omega) (by omega) hN (((Aa HP).alloc hbp _).drewN q) (by rw[World.cell?_drewN,World.cell?_alloc_past _ _ _ hbx];exact Aa HBX)).mono ?_;rintro e w2 ⟨rfl,q2,rfl⟩;rw[World.drewN_drewN]
    cases hd:decide ((d c).1<(d a).1)with
    |true=>
     have HX:=Ab (hx.1 hd);clear hx hd;go_wp2;go_roundw
     case rel=>exact⟨c+1,j,_,by omega,by omega,hj,by go_num,rfl,fun _=>Aa HX,Aa HHI,rfl⟩
     case measure=>simp[intOf];omega
    |false=>
     have HX:=Ab (hx.2 hd);clear hx hd;go_wp2;go_roundw
     case rel=>exact⟨i,c,_,hi,by omega,by omega,rfl,rfl,Aa HLO,fun _=>Aa HX,rfl⟩
     case measure=>simp[intOf];omega
  . obtain rfl:i=j:=by omega
    have hno:¬(i:Int)<(i:Int):=by omega
    have HA:Hid (Stab.rot d a (a+1) (a+1)=d):=Stab.rot_right d a (a+1);have HW:Hid (PS N bp d ((w.alloc (.cells #[LF bx,SF h N bp cap] 277)).drewN q)):=((Aa HP).alloc hbp _).drewN q;have HWG:Hid (w.grownBy ((w.alloc (.cells #[LF bx,SF h N bp cap] 277)).drewN q) (some bp)):=Ep (Bk (Bi _ _) _) q;have hcl:((w.alloc (.cells #[LF bx,SF h N bp cap] 277)).drewN q).cell? ⟨w.heap.size,1,none⟩=some (SF h N bp cap):=by simp
    have hzz:w.heap.size<((w.alloc (.cells #[LF bx,SF h N bp cap] 277)).drewN q).heap.size:=by simp
    generalize (w.alloc (.cells #[LF bx,SF h N bp cap] 277)).drewN q=w1 at*;go_wp2;go_loopw [11] (fun vk wq=>∃k:Nat,a<=k/\k<i/\vk=.int .i64 k/\PS N bp (Stab.rot d a (a+1) (k+1)) wq/\w.grownBy wq (some bp)/\wq.cell? ⟨w.heap.size,1,none⟩=some (SF h N bp cap)/\w.heap.size<wq.heap.size) (fun vk _=>i-(intOf vk).toNat)
    case atStart=>exact⟨a,VC _,by omega,rfl,by rw[Aa HA];exact Aa HW,Aa HWG,hcl,hzz⟩
    case round=>
     obtain⟨k,hk1,hk2,rfl,hPk,hg,hc1,hz⟩:=hrel;have HPk:=Ab hPk;have HG:=Ab hg;clear hPk hg
     by_cases hlt2:k<i-1
     . have hltI:(k:Int)<(i:Int)-1:=by omega
       have HU:=Ab (Stab.rot_up d a k hk1);generalize Stab.rot d a (a+1) (k+1)=dk at*;have hrun:=Oo N bp cap dk wr k (k+1) (by omega) (by omega) (Aa HPk);rw[<-Aa hh]at hrun;push_cast at hrun
       have HSW:=Ab ((Aa HPk).sw k (k+1) (by omega) (by omega));have hgs:=Pg wr bp dk k (k+1);have HGS:=Ab (Bc (Aa HG) hgs);have hc2:=hgs.cell hc1 (by simp;omega);have hz2:=VG hz hgs.size;clear hgs;generalize swW wr bp dk k (k+1)=w2 at*;go_wp2;go_roundw
       case rel=>exact⟨k+1,by omega,by omega,by go_num,by rw[<-Aa HU];exact Aa HSW,Aa HGS,hc2,hz2⟩
       case measure=>simp[intOf];omega
     . obtain rfl:k=i-1:=by omega
       have hno2:¬((i-1:Nat):Int)<(i:Int)-1:=by omega
       have ei:i-1+1=i:=by omega
       have HF:Hid (PS N bp (Stab.rot d a (a+1) i) wr):=by rw[ei]at HPk;exact HPk
       have hmv:=Ab ((Stab.moved_rot d a (a+1) i (by omega) (by omega)).wider (VC _) (by omega) hj);have sR':=Aa HS;rw[Aa hm]at sR' HLO;have hsr:=Ab (Stab.ins_first (by omega) hj sR' (Aa HLO) (Aa HHI));clear ei sR' HPk;go_wp2;refine bodyPost_ret (results_none rfl _ _ _) rfl ?_;exact⟨rfl,_,Aa HF,Aa hmv,Aa hsr,Aa HG⟩
set_option maxRecDepth 100000 in
theorem Vq (h:Value)(hh:Hid (h=typeHandle Tryz.prog 230))(N bp bx cap:Nat)(d:Nat->Int×Int)(a m b:Nat)(w:World)(hb1:Hid (b=m+1))(hN:N<=288)(ham:a+1<m)(hmb:m<b)(hb:b<=N)(hbp:bp<w.heap.size)(hbx:bx<w.heap.size)(hne:bx≠bp)
 (hbox:w.cell? ⟨bx,0,none⟩=some (.slice (some ⟨bp,0,none⟩) N cap)) (hP:PS N bp d w) (sL:Stab.Srt Stab.lx d a m) (hc:Stab.Cross d a m b):
 Calls Tryz.prog 226 #[.agg #[LF bx,SF h N bp cap],.int .i64 a,.int .i64 m,.int .i64 b] w fun e w'=>e=.returned (.tuple #[])/\∃d',PS N bp d' w'/\Stab.Moved a b d d'/\Stab.Srt Stab.lx d' a b/\w.grownBy w' (some bp):=by
 have HP:=Ab hP;have HS:=Ab sL;have HC:=Ab hc;have HBX:=Ab hbox;have hnot:((m:Int)-(a:Int)==1)=false:=by rw[beq_eq_false_iff_ne];omega
 have hone:((b:Int)-(m:Int)==1)=true:=by rw[beq_iff_eq];have:=Aa hb1;omega
 clear hP sL hc hbox;go_enter Tryz.func226,Tryz.ntmps226
 go_wp2;go_loopw [12,13,14] (fun vi vj vh wr=>∃i j q:Nat,a<=i/\i<=j/\j<=m/\vi=.int .i64 i/\vj=.int .i64 j/\(a<i->Stab.lx (d (i-1)) (d m))/\(j<m->Stab.lx (d m) (d j))/\wr=(w.alloc (.cells #[LF bx,SF h N bp cap] 277)).drewN q) (fun vi vj _ _=>(intOf vj).toNat-(intOf vi).toNat)
 case atStart=>exact⟨a,m,0,VC _,by omega,VC _,rfl,rfl,fun h=>by omega,fun h=>by omega,rfl⟩
 case round=>
  obtain⟨i,j,q,hi,hij,hj,rfl,rfl,hlo,hhi,rfl⟩:=hrel;have HLO:=Ab hlo;have HHI:=Ab hhi;clear hlo hhi
  by_cases hlt:i<j
  . obtain⟨c,hcc⟩:∃c,c=(i+j)/2:=⟨_,rfl⟩
    have hc1:i<=c:=by omega
    have hc2:c<j:=by omega
    have E:Hid (((i:Int)+(j:Int))/2=(c:Int)):=by unfold Hid;omega
    have hx:=Stab.cross_less (Aa HC c m (by omega) (by omega) (VC _) hmb);clear hcc;go_wp2_with fail
    rw[Aa E];refine(Pc N bp bx cap d _ m c (by omega) (by omega) hN (((Aa HP).alloc hbp _).drewN q) (by rw[World.cell?_drewN,World.cell?_alloc_past _ _ _ hbx];exact Aa HBX)).mono ?_;rintro e w2 ⟨rfl,q2,rfl⟩;rw[World.drewN_drewN]
    cases hd:decide ((d m).1<(d c).1)with
    |true=>
     have HX:=Ab (hx.1 hd);clear hx hd;go_wp2;go_roundw
     case rel=>exact⟨i,c,_,hi,by omega,by omega,rfl,rfl,Aa HLO,fun _=>Aa HX,rfl⟩
     case measure=>simp[intOf];omega
    |false=>
     have HX:=Ab (hx.2 hd);clear hx hd;go_wp2;go_roundw
     case rel=>exact⟨c+1,j,_,by omega,by omega,hj,by go_num,rfl,fun _=>Aa HX,Aa HHI,rfl⟩
     case measure=>simp[intOf];omega
  . obtain rfl:i=j:=by omega
    have hno:¬(i:Int)<(i:Int):=by omega
    have HA:Hid (Stab.rot d m m (m+1)=d):=Stab.rot_left d m (m+1);have HW:Hid (PS N bp d ((w.alloc (.cells #[LF bx,SF h N bp cap] 277)).drewN q)):=((Aa HP).alloc hbp _).drewN q;have HWG:Hid (w.grownBy ((w.alloc (.cells #[LF bx,SF h N bp cap] 277)).drewN q) (some bp)):=Ep (Bk (Bi _ _) _) q;have hcl:((w.alloc (.cells #[LF bx,SF h N bp cap] 277)).drewN q).cell? ⟨w.heap.size,1,none⟩=some (SF h N bp cap):=by simp
    have hzz:w.heap.size<((w.alloc (.cells #[LF bx,SF h N bp cap] 277)).drewN q).heap.size:=by simp
    generalize (w.alloc (.cells #[LF bx,SF h N bp cap] 277)).drewN q=w1 at*;go_wp2;go_loopw [15] (fun vk wq=>∃k:Nat,i<=k/\k<=m/\vk=.int .i64 k/\PS N bp (Stab.rot d k m (m+1)) wq/\w.grownBy wq (some bp)/\wq.cell? ⟨w.heap.size,1,none⟩=some (SF h N bp cap)/\w.heap.size<wq.heap.size) (fun vk _=>(intOf vk).toNat)
    case atStart=>exact⟨m,hj,VC _,rfl,by rw[Aa HA];exact Aa HW,Aa HWG,hcl,hzz⟩
    case round=>
     obtain⟨k,hk1,hk2,rfl,hPk,hg,hc1,hz⟩:=hrel;have HPk:=Ab hPk;have HG:=Ab hg;clear hPk hg
     by_cases hlt2:i<k
     . have HU:=Ab (Stab.rot_down d k m (by omega) hk2);generalize Stab.rot d k m (m+1)=dk at*;have hrun:=Oo N bp cap dk wr k (k-1) (by omega) (by omega) (Aa HPk);rw[<-Aa hh,show ((k-1:Nat):Int)=(k:Int)-1 by omega]at hrun;have HSW:=Ab ((Aa HPk).sw k (k-1) (by omega) (by omega));have hgs:=Pg wr bp dk k (k-1);have HGS:=Ab (Bc (Aa HG) hgs);have hc2:=hgs.cell hc1 (by simp;omega);have hz2:=VG hz hgs.size;clear hgs;generalize swW wr bp dk k (k-1)=w2 at*;go_wp2;go_roundw
       case rel=>exact⟨k-1,by omega,by omega,by go_num,by rw[<-Aa HU];exact Aa HSW,Aa HGS,hc2,hz2⟩
       case measure=>simp[intOf];omega
     . obtain rfl:k=i:=by omega
       have hno2:¬(k:Int)<(k:Int):=by omega
       have hmv0:=(Stab.moved_rot d k m (m+1) hk2 (by omega)).wider hi (by omega) (VC _);have hsr0:=Stab.ins_last hi hk2 (Aa HS) (Aa HLO) (Aa HHI);rw[<-Aa hb1]at hmv0 hsr0;have hmv:=Ab hmv0;have hsr:=Ab hsr0;rw[<-Aa hb1]at HPk;clear hmv0 hsr0;go_wp2;refine bodyPost_ret (results_none rfl _ _ _) rfl ?_;exact⟨rfl,_,Aa HPk,Aa hmv,Aa hsr,Aa HG⟩
def I4 (h:Value)(N bp bx cap L:Nat):Prop:=∀(d:Nat->Int×Int) (a m b:Nat) (w:World),b-a<=L->a<m->m<b->b<=N->bp<w.heap.size->bx<w.heap.size->
 w.cell? ⟨bx,0,none⟩=some (.slice (some ⟨bp,0,none⟩) N cap)->PS N bp d w->Stab.Srt Stab.lx d a m->Stab.Srt Stab.lx d m b->Stab.Cross d a m b->
 Calls Tryz.prog 226 #[.agg #[LF bx,SF h N bp cap],.int .i64 a,.int .i64 m,.int .i64 b] w fun e w'=>e=.returned (.tuple #[])/\∃d',PS N bp d' w'/\Stab.Moved a b d d'/\Stab.Srt Stab.lx d' a b/\w.grownBy w' (some bp)
structure MSt (h:Value)(N bp bx cap:Nat)(w W:World)(D:Nat->Int×Int):Prop where
 ps:PS N bp D W
 grown:w.grownBy W (some bp)
 c0:W.cell? ⟨w.heap.size,0,none⟩=some (LF bx)
 c1:W.cell? ⟨w.heap.size,1,none⟩=some (SF h N bp cap)
 box:W.cell? ⟨bx,0,none⟩=some (.slice (some ⟨bp,0,none⟩) N cap)
 new:bp<w.heap.size
theorem MSt.next {h:Value}{N bp bx cap:Nat}{w W W':World}{D D':Nat->Int×Int}(s:MSt h N bp bx cap w W D)(hbx:bx<w.heap.size)(hne:bx≠bp)(p:PS N bp D' W')(g:W.grownBy W' (some bp)):MSt h N bp bx cap w W' D':=
 ⟨p,Bc s.grown g,g.cell s.c0 (by have:=s.new;simp;omega),g.cell s.c1 (by have:=s.new;simp;omega),g.cell s.box (by simpa using hne),s.new⟩
theorem Kj {D d1:Nat->Int×Int}{a st mid en b:Nat}(mp:(Stab.Srt Stab.lx D a st/\Stab.Srt Stab.lx D st mid/\Stab.Cross D a st mid)/\(Stab.Srt Stab.lx D mid en/\Stab.Srt Stab.lx D en b/\Stab.Cross D mid en b))(hm:Stab.Moved a mid D d1)(hen:mid<=en):
 Stab.Srt Stab.lx d1 mid en/\Stab.Srt Stab.lx d1 en b/\Stab.Cross d1 mid en b:=
 ⟨mp.2.1.congr (fun k hk _=>hm.out k (by omega)),mp.2.2.1.congr (fun k hk _=>hm.out k (by omega)),mp.2.2.2.congr (fun k hk _=>hm.out k (by omega))⟩
set_option maxRecDepth 100000 in
theorem Kz (h:Value)(hh:Hid (h=typeHandle Tryz.prog 230))(N bp bx cap L:Nat)(hIH:Hid (I4 h N bp bx cap L))(d:Nat->Int×Int)(a m b mid lo hi:Nat)(w:World)(hN:N<=288)(hL:b-a<=L+1)(ham:a+1<m)(hmb:m+1<b)(hb:b<=N)(hbp:bp<w.heap.size)(hbx:bx<w.heap.size)(hne:bx≠bp)
 (hmid:Hid (mid=(a+b)/2)) (hway:Hid ((mid<m/\lo+b=mid+m/\hi=mid)\/ (m<=mid/\lo=a/\hi=m)))
 (hbox:w.cell? ⟨bx,0,none⟩=some (.slice (some ⟨bp,0,none⟩) N cap)) (hP:PS N bp d w) (sL:Stab.Srt Stab.lx d a m) (sR:Stab.Srt Stab.lx d m b) (hc:Stab.Cross d a m b):
 Calls Tryz.prog 226 #[.agg #[LF bx,SF h N bp cap],.int .i64 a,.int .i64 m,.int .i64 b] w fun e w'=>e=.returned (.tuple #[])/\∃d',PS N bp d' w'/\Stab.Moved a b d d'/\Stab.Srt Stab.lx d' a b/\w.grownBy w' (some bp):=by
 have HP:=Ab hP;have HSL:=Ab sL;have HSR:=Ab sR;have HC:=Ab hc;have HBX:=Ab hbox;have h1:((m:Int)-(a:Int)==1)=false:=by rw[beq_eq_false_iff_ne];omega
 have h2:((b:Int)-(m:Int)==1)=false:=by rw[beq_eq_false_iff_ne];omega
 have hlo:a<=lo/\lo<=hi/\hi<=m/\hi<=mid/\a<mid/\mid<b/\mid+m<=lo+b:=by have:=Aa hmid;have:=Aa hway;omega
 obtain⟨q1,q2,q3,q4,q5,q6,q7⟩:=hlo;have hmI:((a:Int)+(b:Int))/2=(mid:Int):=by have:=Aa hmid;omega
 have HMI:=Ab hmI;clear hP sL sR hc hbox hmI
 rcases Aa hway with ⟨v1,v2,v3⟩|⟨v1,v2,v3⟩
 case' inl=>have hcmp:((a:Int)+(b:Int))/2<(m:Int):=by rw[Aa HMI];omega
 case' inr=>have hcmp:¬((a:Int)+(b:Int))/2<(m:Int):=by rw[Aa HMI];omega
 all_goals
  have V2:=Ab v2;have V3:=Ab v3;clear v2 v3;go_enter Tryz.func226,Tryz.ntmps226
  go_wp2;go_loopw [18,19,21] (fun vi vj vh wr=>∃st r q:Nat,lo<=st/\st<=r/\r<=hi/\vi=.int .i64 st/\vj=.int .i64 r/\(lo<st->Stab.lx (d (st-1)) (d (mid+m-st)))/\(r<hi->Stab.lx (d (mid+m-1-r)) (d r))/\wr=(w.alloc (.cells #[LF bx,SF h N bp cap] 277)).drewN q) (fun vi vj _ _=>(intOf vj).toNat-(intOf vi).toNat)
  case atStart=>exact⟨lo,hi,0,VC _,q2,VC _,congrArg (Value.int .i64) (by have:=Aa V2;have:=Aa HMI;omega),congrArg (Value.int .i64) (by have:=Aa V3;have:=Aa HMI;omega),fun h=>by omega,fun h=>by omega,rfl⟩
  case round=>
   obtain⟨st,r,q,hi1,hij,hj,rfl,rfl,hlo,hhi,rfl⟩:=hrel;have HLO:=Ab hlo;have HHI:=Ab hhi;clear hlo hhi
   by_cases hlt:st<r
   . obtain⟨c,hcc⟩:∃c,c=(st+r)/2:=⟨_,rfl⟩
     have hc1:st<=c:=by omega
     have hc2:c<r:=by omega
     have E:Hid (((st:Int)+(r:Int))/2=(c:Int)):=by unfold Hid;omega
     have E2:Hid (((a:Int)+(b:Int))/2+(m:Int)-1-(c:Int)=((mid+m-1-c:Nat):Int)):=by unfold Hid;have:=Aa HMI;omega
     have hx:=Stab.cross_less (Aa HC c (mid+m-1-c) (by omega) (by omega) (by omega) (by omega));clear hcc;go_wp2_with fail
     rw[Aa E,Aa E2];refine(Pc N bp bx cap d _ (mid+m-1-c) c (by omega) (by omega) hN (((Aa HP).alloc hbp _).drewN q) (by rw[World.cell?_drewN,World.cell?_alloc_past _ _ _ hbx];exact Aa HBX)).mono ?_;rintro e w2 ⟨rfl,q2,rfl⟩;rw[World.drewN_drewN]
     cases hd:decide ((d (mid+m-1-c)).1<(d c).1)with
     |true=>
      have HX:=Ab (hx.1 hd);clear hx hd;go_wp2;go_roundw
      case rel=>exact⟨st,c,_,hi1,hc1,by omega,rfl,rfl,Aa HLO,fun _=>Aa HX,rfl⟩
      case measure=>simp[intOf];omega
     |false=>
      have HX:=Ab (hx.2 hd);have ee:Hid (mid+m-(c+1)=mid+m-1-c):=by unfold Hid;omega
      clear hx hd;go_wp2;go_roundw
      case rel=>exact⟨c+1,r,_,by omega,by omega,hj,by go_num,rfl,fun _=>by rw[Aa ee];exact Aa HX,Aa HHI,rfl⟩
      case measure=>simp[intOf];omega
   . obtain rfl:st=r:=by omega
     have hno:¬(st:Int)<(st:Int):=by omega
     obtain⟨en,hen⟩:∃en,en+st=mid+m:=⟨mid+m-st,by omega⟩
     have hEN:(mid:Int)+(m:Int)-(st:Int)=(en:Int):=by omega
     have hmm:mid+m=st+en:=by omega
     have hen1:m<=en:=by have:=Aa hway;omega
     have hen2:en<=b:=by omega
     have hen3:mid<=en:=by omega
     have MP:=Ab (Stab.merge_parts (show a<=st by omega) (show st<=m by omega) hen1 hen2 hmm (Aa HSL) (Aa HSR) (Aa HC))
     have CL:Hid (a<st->en<b->Stab.lx (d (st-1)) (d en)):=fun c1 c2=>by
      have h:=Aa HLO (by have:=Aa V2;have:=Aa hway;omega);rw[show mid+m-st=en by omega]at h;exact h
     have CR:Hid (st<m->m<en->Stab.lx (d (en-1)) (d st)):=fun c1 c2=>by
      have h:=Aa HHI (by have:=Aa V3;have:=Aa hway;omega);rw[show mid+m-1-st=en-1 by omega]at h;exact h
     have S0:Hid (MSt h N bp bx cap w ((w.alloc (.cells #[LF bx,SF h N bp cap] 277)).drewN q) d):=⟨((Aa HP).alloc hbp _).drewN q,Ep (Bk (Bi _ _) _) q,by rw[World.cell?_drewN];simp,by rw[World.cell?_drewN];simp,by rw[World.cell?_drewN,World.cell?_alloc_past _ _ _ hbx];exact Aa HBX,hbp⟩
     have ca0:=(Aa S0).c0;have cb0:=(Aa S0).c1;rw[Aa HMI];generalize (w.alloc (.cells #[LF bx,SF h N bp cap] 277)).drewN q=w0 at*;have ww:(st<m/\m<en/\a<st/\en<b/\st<mid/\mid<en)\/ (st<m/\m<en/\a<st/\en=b/\st<mid/\mid<en)\/ (st<m/\m<en/\st=a/\en<b/\st<mid/\mid<en)\/ (st<m/\m<en/\st=a/\en=b/\st<mid/\mid<en)\/ (st=m/\en=mid/\a<st/\st<mid)\/ (st=m/\en=mid/\a<st/\st=mid)\/ (st<m/\en=m/\st=mid/\a<st/\mid<en/\en<b):=by omega
     clear HLO HHI hen
     rcases ww with ww|ww|ww|ww|ww|ww|ww
     . have k1:(st:Int)<(m:Int):=by omega
       have k2:(m:Int)<(en:Int):=by omega
       have l1:(a:Int)<(st:Int):=by omega
       have l2:(st:Int)<(mid:Int):=by omega
       have n1:(mid:Int)<(en:Int):=by omega
       have n2:(en:Int)<(b:Int):=by omega
       have WW:=Ab ww;clear ww;go_wp2_with fail
       refine(Jl h hh N bp bx cap d st m en _ hN (by have:=Aa WW;omega) (by have:=Aa WW;omega) (by have:=Aa WW;omega) (VG hbp (Aa S0).grown.size) (Aa S0).ps).mono ?_;rintro e w1 ⟨rfl,p1,g1⟩;have S1:=Ab ((Aa S0).next hbx hne p1 g1);have ca1:=(Aa S1).c0;have cb1:=(Aa S1).c1;clear p1 g1;go_wp2_with fail
       refine(Aa hIH (Stab.rot d st m en) a st mid _ (by have:=Aa WW;omega) (by have:=Aa WW;omega) (by have:=Aa WW;omega) (by have:=Aa WW;omega) (VG hbp (Aa S1).grown.size) (VG hbx (Aa S1).grown.size) (Aa S1).box (Aa S1).ps (Aa MP).1.1 (Aa MP).1.2.1 (Aa MP).1.2.2).mono ?_;rintro e w2 ⟨rfl,d1,p2,m1,s1,g2⟩;have S2:=Ab ((Aa S1).next hbx hne p2 g2);have MM1:=Ab m1;have SS1:=Ab s1;have ca2:=(Aa S2).c0;have cb2:=(Aa S2).c1;clear p2 g2 m1 s1;have MP2:=Ab (Kj (Aa MP) (Aa MM1) hen3);go_wp2_with fail
       refine(Aa hIH d1 mid en b _ (by have:=Aa WW;omega) (by have:=Aa WW;omega) (by have:=Aa WW;omega) (by have:=Aa WW;omega) (VG hbp (Aa S2).grown.size) (VG hbx (Aa S2).grown.size) (Aa S2).box (Aa S2).ps (Aa MP2).1 (Aa MP2).2.1 (Aa MP2).2.2).mono ?_;rintro e w3 ⟨rfl,d2,p3,m2,s2,g3⟩;have S3:=Ab ((Aa S2).next hbx hne p3 g3);have MM2:=Ab m2;have SS2:=Ab s2;clear p3 g3 m2 s2;have FIN:=Ab (Stab.merge_step Stab.lx_trans (by have:=Aa WW;omega) (by have:=Aa WW;omega) (by have:=Aa WW;omega) (by have:=Aa WW;omega) hmm (Aa HSL) (Aa HSR) (Aa CL) (Aa CR) (Aa MM1) (Aa SS1) (Aa MM2) (Aa SS2));go_wp2
       all_goals (go_end0;exact⟨rfl,d2,(Aa S3).ps,(Aa FIN).2,(Aa FIN).1,(Aa S3).grown⟩)
     . have k1:(st:Int)<(m:Int):=by omega
       have k2:(m:Int)<(en:Int):=by omega
       have l1:(a:Int)<(st:Int):=by omega
       have l2:(st:Int)<(mid:Int):=by omega
       have n1:(mid:Int)<(en:Int):=by omega
       have n2:¬(en:Int)<(b:Int):=by omega
       have WW:=Ab ww;clear ww;go_wp2_with fail
       refine(Jl h hh N bp bx cap d st m en _ hN (by have:=Aa WW;omega) (by have:=Aa WW;omega) (by have:=Aa WW;omega) (VG hbp (Aa S0).grown.size) (Aa S0).ps).mono ?_;rintro e w1 ⟨rfl,p1,g1⟩;have S1:=Ab ((Aa S0).next hbx hne p1 g1);have ca1:=(Aa S1).c0;have cb1:=(Aa S1).c1;clear p1 g1;go_wp2_with fail
       refine(Aa hIH (Stab.rot d st m en) a st mid _ (by have:=Aa WW;omega) (by have:=Aa WW;omega) (by have:=Aa WW;omega) (by have:=Aa WW;omega) (VG hbp (Aa S1).grown.size) (VG hbx (Aa S1).grown.size) (Aa S1).box (Aa S1).ps (Aa MP).1.1 (Aa MP).1.2.1 (Aa MP).1.2.2).mono ?_;rintro e w2 ⟨rfl,d1,p2,m1,s1,g2⟩;have S2:=Ab ((Aa S1).next hbx hne p2 g2);have MM1:=Ab m1;have SS1:=Ab s1;have ca2:=(Aa S2).c0;have cb2:=(Aa S2).c1;clear p2 g2 m1 s1;have MP2:=Ab (Kj (Aa MP) (Aa MM1) hen3);have S3:=S2;obtain⟨d2,hd2⟩:∃d2,d2=d1:=⟨_,rfl⟩
       rw[<-hd2]at S3;have MM2:Hid (Stab.Moved mid b d1 d2):=by rw[hd2];exact Stab.Moved.refl _ _ _
       have SS2:Hid (Stab.Srt Stab.lx d2 mid b):=by rw[hd2];exact(Aa MP2).1.sub (VC _) (by have:=Aa WW;omega)
       clear hd2;have FIN:=Ab (Stab.merge_step Stab.lx_trans (by have:=Aa WW;omega) (by have:=Aa WW;omega) (by have:=Aa WW;omega) (by have:=Aa WW;omega) hmm (Aa HSL) (Aa HSR) (Aa CL) (Aa CR) (Aa MM1) (Aa SS1) (Aa MM2) (Aa SS2));go_wp2
       all_goals (go_end0;exact⟨rfl,d2,(Aa S3).ps,(Aa FIN).2,(Aa FIN).1,(Aa S3).grown⟩)
     . have k1:(st:Int)<(m:Int):=by omega
       have k2:(m:Int)<(en:Int):=by omega
       have l1:¬(a:Int)<(st:Int):=by omega
       have n1:(mid:Int)<(en:Int):=by omega
       have n2:(en:Int)<(b:Int):=by omega
       have WW:=Ab ww;clear ww;go_wp2_with fail
       refine(Jl h hh N bp bx cap d st m en _ hN (by have:=Aa WW;omega) (by have:=Aa WW;omega) (by have:=Aa WW;omega) (VG hbp (Aa S0).grown.size) (Aa S0).ps).mono ?_;rintro e w1 ⟨rfl,p1,g1⟩;have S1:=Ab ((Aa S0).next hbx hne p1 g1);have ca1:=(Aa S1).c0;have cb1:=(Aa S1).c1;clear p1 g1;have S2:=S1;obtain⟨d1,hd1⟩:∃d1,d1=Stab.rot d st m en:=⟨_,rfl⟩
       rw[<-hd1]at S2;have MM1:Hid (Stab.Moved a mid (Stab.rot d st m en) d1):=by rw[hd1];exact Stab.Moved.refl _ _ _
       have SS1:Hid (Stab.Srt Stab.lx d1 a mid):=by rw[hd1];exact(Aa MP).1.2.1.sub (by have:=Aa WW;omega) (VC _)
       clear hd1;have MP2:=Ab (Kj (Aa MP) (Aa MM1) hen3);go_wp2_with fail
       refine(Aa hIH d1 mid en b _ (by have:=Aa WW;omega) (by have:=Aa WW;omega) (by have:=Aa WW;omega) (by have:=Aa WW;omega) (VG hbp (Aa S2).grown.size) (VG hbx (Aa S2).grown.size) (Aa S2).box (Aa S2).ps (Aa MP2).1 (Aa MP2).2.1 (Aa MP2).2.2).mono ?_;rintro e w3 ⟨rfl,d2,p3,m2,s2,g3⟩;have S3:=Ab ((Aa S2).next hbx hne p3 g3);have MM2:=Ab m2;have SS2:=Ab s2;clear p3 g3 m2 s2;have FIN:=Ab (Stab.merge_step Stab.lx_trans (by have:=Aa WW;omega) (by have:=Aa WW;omega) (by have:=Aa WW;omega) (by have:=Aa WW;omega) hmm (Aa HSL) (Aa HSR) (Aa CL) (Aa CR) (Aa MM1) (Aa SS1) (Aa MM2) (Aa SS2));go_wp2
       all_goals (go_end0;exact⟨rfl,d2,(Aa S3).ps,(Aa FIN).2,(Aa FIN).1,(Aa S3).grown⟩)
     . have k1:(st:Int)<(m:Int):=by omega
       have k2:(m:Int)<(en:Int):=by omega
       have l1:¬(a:Int)<(st:Int):=by omega
       have n1:(mid:Int)<(en:Int):=by omega
       have n2:¬(en:Int)<(b:Int):=by omega
       have WW:=Ab ww;clear ww;go_wp2_with fail
       refine(Jl h hh N bp bx cap d st m en _ hN (by have:=Aa WW;omega) (by have:=Aa WW;omega) (by have:=Aa WW;omega) (VG hbp (Aa S0).grown.size) (Aa S0).ps).mono ?_;rintro e w1 ⟨rfl,p1,g1⟩;have S1:=Ab ((Aa S0).next hbx hne p1 g1);have ca1:=(Aa S1).c0;have cb1:=(Aa S1).c1;clear p1 g1;have S2:=S1;obtain⟨d1,hd1⟩:∃d1,d1=Stab.rot d st m en:=⟨_,rfl⟩
       rw[<-hd1]at S2;have MM1:Hid (Stab.Moved a mid (Stab.rot d st m en) d1):=by rw[hd1];exact Stab.Moved.refl _ _ _
       have SS1:Hid (Stab.Srt Stab.lx d1 a mid):=by rw[hd1];exact(Aa MP).1.2.1.sub (by have:=Aa WW;omega) (VC _)
       clear hd1;have MP2:=Ab (Kj (Aa MP) (Aa MM1) hen3);have S3:=S2;obtain⟨d2,hd2⟩:∃d2,d2=d1:=⟨_,rfl⟩
       rw[<-hd2]at S3;have MM2:Hid (Stab.Moved mid b d1 d2):=by rw[hd2];exact Stab.Moved.refl _ _ _
       have SS2:Hid (Stab.Srt Stab.lx d2 mid b):=by rw[hd2];exact(Aa MP2).1.sub (VC _) (by have:=Aa WW;omega)
       clear hd2;have FIN:=Ab (Stab.merge_step Stab.lx_trans (by have:=Aa WW;omega) (by have:=Aa WW;omega) (by have:=Aa WW;omega) (by have:=Aa WW;omega) hmm (Aa HSL) (Aa HSR) (Aa CL) (Aa CR) (Aa MM1) (Aa SS1) (Aa MM2) (Aa SS2));go_wp2
       all_goals (go_end0;exact⟨rfl,d2,(Aa S3).ps,(Aa FIN).2,(Aa FIN).1,(Aa S3).grown⟩)
     . have k1:¬(st:Int)<(m:Int):=by omega
       have l1:(a:Int)<(st:Int):=by omega
       have l2:(st:Int)<(mid:Int):=by omega
       have n1:¬(mid:Int)<(en:Int):=by omega
       have WW:=Ab ww;clear ww;have S1:Hid (MSt h N bp bx cap w w0 (Stab.rot d st m en)):=by rw[show Stab.rot d st m en=d from by rw[show st=m by have:=Aa WW;omega];exact Stab.rot_left d m en];exact Aa S0
       have ca1:=(Aa S1).c0;have cb1:=(Aa S1).c1;go_wp2_with fail
       refine(Aa hIH (Stab.rot d st m en) a st mid _ (by have:=Aa WW;omega) (by have:=Aa WW;omega) (by have:=Aa WW;omega) (by have:=Aa WW;omega) (VG hbp (Aa S1).grown.size) (VG hbx (Aa S1).grown.size) (Aa S1).box (Aa S1).ps (Aa MP).1.1 (Aa MP).1.2.1 (Aa MP).1.2.2).mono ?_;rintro e w2 ⟨rfl,d1,p2,m1,s1,g2⟩;have S2:=Ab ((Aa S1).next hbx hne p2 g2);have MM1:=Ab m1;have SS1:=Ab s1;have ca2:=(Aa S2).c0;have cb2:=(Aa S2).c1;clear p2 g2 m1 s1;have MP2:=Ab (Kj (Aa MP) (Aa MM1) hen3);have S3:=S2;obtain⟨d2,hd2⟩:∃d2,d2=d1:=⟨_,rfl⟩
       rw[<-hd2]at S3;have MM2:Hid (Stab.Moved mid b d1 d2):=by rw[hd2];exact Stab.Moved.refl _ _ _
       have SS2:Hid (Stab.Srt Stab.lx d2 mid b):=by rw[hd2];exact(Aa MP2).2.1.sub (by have:=Aa WW;omega) (VC _)
       clear hd2;have FIN:=Ab (Stab.merge_step Stab.lx_trans (by have:=Aa WW;omega) (by have:=Aa WW;omega) (by have:=Aa WW;omega) (by have:=Aa WW;omega) hmm (Aa HSL) (Aa HSR) (Aa CL) (Aa CR) (Aa MM1) (Aa SS1) (Aa MM2) (Aa SS2));go_wp2
       all_goals (go_end0;exact⟨rfl,d2,(Aa S3).ps,(Aa FIN).2,(Aa FIN).1,(Aa S3).grown⟩)
     . have k1:¬(st:Int)<(m:Int):=by omega
       have l1:(a:Int)<(st:Int):=by omega
       have l2:¬(st:Int)<(mid:Int):=by omega
       have n1:¬(mid:Int)<(en:Int):=by omega
       have WW:=Ab ww;clear ww;have S1:Hid (MSt h N bp bx cap w w0 (Stab.rot d st m en)):=by rw[show Stab.rot d st m en=d from by rw[show st=m by have:=Aa WW;omega];exact Stab.rot_left d m en];exact Aa S0
       have ca1:=(Aa S1).c0;have cb1:=(Aa S1).c1;have S2:=S1;obtain⟨d1,hd1⟩:∃d1,d1=Stab.rot d st m en:=⟨_,rfl⟩
       rw[<-hd1]at S2;have MM1:Hid (Stab.Moved a mid (Stab.rot d st m en) d1):=by rw[hd1];exact Stab.Moved.refl _ _ _
       have SS1:Hid (Stab.Srt Stab.lx d1 a mid):=by rw[hd1];exact(Aa MP).1.1.sub (VC _) (by have:=Aa WW;omega)
       clear hd1;have MP2:=Ab (Kj (Aa MP) (Aa MM1) hen3);have S3:=S2;obtain⟨d2,hd2⟩:∃d2,d2=d1:=⟨_,rfl⟩
       rw[<-hd2]at S3;have MM2:Hid (Stab.Moved mid b d1 d2):=by rw[hd2];exact Stab.Moved.refl _ _ _
       have SS2:Hid (Stab.Srt Stab.lx d2 mid b):=by rw[hd2];exact(Aa MP2).2.1.sub (by have:=Aa WW;omega) (VC _)
       clear hd2;have FIN:=Ab (Stab.merge_step Stab.lx_trans (by have:=Aa WW;omega) (by have:=Aa WW;omega) (by have:=Aa WW;omega) (by have:=Aa WW;omega) hmm (Aa HSL) (Aa HSR) (Aa CL) (Aa CR) (Aa MM1) (Aa SS1) (Aa MM2) (Aa SS2));go_wp2
       all_goals (go_end0;exact⟨rfl,d2,(Aa S3).ps,(Aa FIN).2,(Aa FIN).1,(Aa S3).grown⟩)
     . have k1:(st:Int)<(m:Int):=by omega
       have k2:¬(m:Int)<(en:Int):=by omega
       have l1:(a:Int)<(st:Int):=by omega
       have l2:¬(st:Int)<(mid:Int):=by omega
       have n1:(mid:Int)<(en:Int):=by omega
       have n2:(en:Int)<(b:Int):=by omega
       have WW:=Ab ww;clear ww;have S1:Hid (MSt h N bp bx cap w w0 (Stab.rot d st m en)):=by rw[show Stab.rot d st m en=d from by rw[show en=m by have:=Aa WW;omega];exact Stab.rot_right d st m];exact Aa S0
       have ca1:=(Aa S1).c0;have cb1:=(Aa S1).c1;have S2:=S1;obtain⟨d1,hd1⟩:∃d1,d1=Stab.rot d st m en:=⟨_,rfl⟩
       rw[<-hd1]at S2;have MM1:Hid (Stab.Moved a mid (Stab.rot d st m en) d1):=by rw[hd1];exact Stab.Moved.refl _ _ _
       have SS1:Hid (Stab.Srt Stab.lx d1 a mid):=by rw[hd1];exact(Aa MP).1.1.sub (VC _) (by have:=Aa WW;omega)
       clear hd1;have MP2:=Ab (Kj (Aa MP) (Aa MM1) hen3);go_wp2_with fail
       refine(Aa hIH d1 mid en b _ (by have:=Aa WW;omega) (by have:=Aa WW;omega) (by have:=Aa WW;omega) (by have:=Aa WW;omega) (VG hbp (Aa S2).grown.size) (VG hbx (Aa S2).grown.size) (Aa S2).box (Aa S2).ps (Aa MP2).1 (Aa MP2).2.1 (Aa MP2).2.2).mono ?_;rintro e w3 ⟨rfl,d2,p3,m2,s2,g3⟩;have S3:=Ab ((Aa S2).next hbx hne p3 g3);have MM2:=Ab m2;have SS2:=Ab s2;clear p3 g3 m2 s2;have FIN:=Ab (Stab.merge_step Stab.lx_trans (by have:=Aa WW;omega) (by have:=Aa WW;omega) (by have:=Aa WW;omega) (by have:=Aa WW;omega) hmm (Aa HSL) (Aa HSR) (Aa CL) (Aa CR) (Aa MM1) (Aa SS1) (Aa MM2) (Aa SS2));go_wp2
       all_goals (go_end0;exact⟨rfl,d2,(Aa S3).ps,(Aa FIN).2,(Aa FIN).1,(Aa S3).grown⟩)
def CutAt (d:Nat->Int×Int)(n c:Nat):Prop:=∀i j,i<c->c<=j->j<n->(d i).2<(d j).2
theorem CutAt.moved {d d':Nat->Int×Int}{n c p q:Nat}(h:CutAt d n c)(hm:Stab.Moved p q d d')(hq:q<=n)(hc:c<=p\/q<=c):CutAt d' n c:=by
 intro i j hi hj hn
 have hi':∃i',i'<c/\d i'=d' i:=by
  by_cases e:p<=i/\i<q
  . obtain⟨k,k1,k2,k3⟩:=hm.mem e.1 e.2;exact⟨k,by omega,k3⟩
  . exact⟨i,hi,(hm.out i (by omega)).symm⟩
 have hj':∃j',c<=j'/\j'<n/\d j'=d' j:=by
  by_cases e:p<=j/\j<q
  . obtain⟨k,k1,k2,k3⟩:=hm.mem e.1 e.2;exact⟨k,by omega,by omega,k3⟩
  . exact⟨j,hj,hn,(hm.out j (by omega)).symm⟩
 obtain⟨i',h1,h2⟩:=hi';obtain⟨j',h3,h4,h5⟩:=hj';rw[<-h2,<-h5];exact h i' j' h1 h3 h4
def NR (d:Nat->Int×Int)(a b:Nat):Prop:=∀i j,a<=i->i<j->j<b->(d i).2<(d j).2
def Jh (d:Nat->Int×Int)(n B:Nat):Prop:=∀s,Stab.Srt Stab.lx d (s*B) (min (s*B+B) n)
def Cuts (d:Nat->Int×Int)(n B:Nat):Prop:=∀s,CutAt d n (s*B)
structure Part (d dk:Nat->Int×Int)(n X t:Nat):Prop where
 srt:∀s,s<t->Stab.Srt Stab.lx d (s*X) (s*X+X)
 rest:∀k,t*X<=k->d k=dk k
 cuts:Cuts d n X
theorem BE {s t:Nat}(X:Nat)(h:s<t):s*X+X<=t*X:=by
 have:=Nat.mul_le_mul_right X (show s+1<=t from h)
 rwa [ZE]at this
theorem Z48 {s t:Nat}(X:Nat)(h:s<=t):s*X<=t*X:=Nat.mul_le_mul_right X h
theorem AW (s t X n:Nat):s*X<=t*X\/t*X+X<=s*X:=by
 by_cases h:s<=t
 . exact .inl (Z48 X h)
 . exact .inr (BE X (by omega))
theorem Part.step {d dk d':Nat->Int×Int}{n X t:Nat}(h:Part d dk n X t)(hn:t*X+X<=n)(hm:Stab.Moved (t*X) (t*X+X) d d')(hs:Stab.Srt Stab.lx d' (t*X) (t*X+X)):Part d' dk n X (t+1):=by
 refine⟨fun s hst=> ?_,fun k hk=> ?_,fun s=>(h.cuts s).moved hm hn (AW s t X n)⟩
 . by_cases e:s=t
   . subst e;exact hs
   . have:=BE X (show s<t by omega)
     exact(h.srt s (by omega)).congr (fun k h1 h2=>hm.out k (by omega))
 . rw[ZE]at hk;rw[hm.out k (by omega)];exact h.rest k (by omega)
theorem Part.last {d dk d':Nat->Int×Int}{n X t:Nat}(h:Part d dk n X t)(h1:t*X<=n)(h2:n<=t*X+X)(hm:Stab.Moved (t*X) n d d')(hs:Stab.Srt Stab.lx d' (t*X) n):Jh d' n X/\Cuts d' n X:=by
 refine⟨fun s=> ?_,fun s=> ?_⟩
 . rcases ZK s t with e|e|e
   . have:=BE X e
     rw[YM (by omega)];exact(h.srt s e).congr (fun k h1 h2=>hm.out k (by omega))
   . subst e;rw[YG h2];exact hs
   . have:=BE X e
     intro i j hi hij hj;have:j<n:=VG hj (Nat.min_le_right _ _)
     omega
 . rcases AW s t X n with e|e
   . exact(h.cuts s).moved hm (VC _) (.inl e)
   . exact(h.cuts s).moved hm (VC _) (.inr (by omega))
theorem Ok {d dk:Nat->Int×Int}{n B t e:Nat}(hb:Jh dk n B)(hc:Cuts dk n B)(hr:∀k,t*(2*B)<=k->d k=dk k)(h1:t*(2*B)+B<e)(h2:e<=t*(2*B)+2*B)(h3:e<=n)(h4:e=n\/e=t*(2*B)+2*B):
 Stab.Srt Stab.lx d (t*(2*B)) (t*(2*B)+B)/\Stab.Srt Stab.lx d (t*(2*B)+B) e/\Stab.Cross d (t*(2*B)) (t*(2*B)+B) e:=by
 have e1:(2*t)*B=t*(2*B):=by rw[YC 2 t,XS]
 have e2:(2*t+1)*B=t*(2*B)+B:=by rw[ZE,e1]
 have b1:=hb (2*t);have b2:=hb (2*t+1);have c:=hc (2*t+1);rw[e1,YM (by omega)]at b1;rw[e2]at b2 c;generalize t*(2*B)=a at*;refine⟨b1.congr (fun k h _=>hr k h), ?_,fun i j hi hi2 hj hj2=> ?_⟩
 . refine Stab.Srt.congr (d:=dk) (b2.sub (VC _) ?_) (fun k h _=>hr k (by omega))
   rcases h4 with rfl|rfl
   . exact Nat.le_min.2 ⟨by omega,VC _⟩
   . exact Nat.le_min.2 ⟨by omega,h3⟩
 . rw[hr i hi,hr j (by omega)];exact c i j hi2 hj (by omega)
theorem JF {d dk:Nat->Int×Int}{n B t:Nat}(hb:Jh dk n B)(hr:∀k,t*(2*B)<=k->d k=dk k)(h:n<=t*(2*B)+B):Stab.Srt Stab.lx d (t*(2*B)) n:=by
 have e1:(2*t)*B=t*(2*B):=by rw[YC 2 t,XS]
 have b1:=hb (2*t);rw[e1,YG h]at b1;exact b1.congr (fun k h _=>hr k h)
theorem Cuts.double {d:Nat->Int×Int}{n B:Nat}(h:Cuts d n B):Cuts d n (2*B):=fun s=>by
 have e:s*(2*B)=(2*s)*B:=by rw[YC 2 s,XS]
 rw[e];exact h (2*s)
end Go.Proofs.YtleocpdblhbimaaGreatDoor
