import Derived.Test.YtleocpdblhbimaaGreatDoorQ42
import Derived.Test.YtleocpdblhbimaaGreatDoorQ13
set_option linter.unusedSimpArgs false
set_option maxHeartbeats 4000000
namespace Go.Proofs.YtleocpdblhbimaaGreatDoor
open Go.RowKit
set_option linter.unusedVariables false
def I4 (h:Value)(N bp bx cap L:Nat):Prop:=∀(d:Nat->Int×Int) (a m b:Nat) (w:World),b-a<=L->a<m->m<b->b<=N->bp<w.heap.size->bx<w.heap.size->
 w.cell? ⟨bx,0,none⟩=some (.slice (some ⟨bp,0,none⟩) N cap)->PS N bp d w->Stab.Srt Stab.lx d a m->Stab.Srt Stab.lx d m b->Stab.Cross d a m b->
 Calls Tryz.prog 226 #[.agg #[LF bx,SF h N bp cap],.int .i64 a,.int .i64 m,.int .i64 b] w fun e w'=>e=.returned (.tuple #[])/\∃d',PS N bp d' w'/\Stab.Moved a b d d'/\Stab.Srt Stab.lx d' a b/\w.grownBy w' (some bp)
structure MSt (h:Value)(N bp bx cap:Nat)(w W:World)(D:Nat->Int×Int):Prop where
 ps:PS N bp D W
 grown:w.grownBy W (some bp)
 c0:W.cell? ⟨w.heap.size,0,none⟩=some (LF bx)
 c1:W.cell? ⟨w.heap.size,1,none⟩=some (SF h N bp cap)
 box:W.cell? ⟨bx,0,none⟩=some (.slice (some ⟨bp,0,none⟩) N cap)
 new:bp<w.heap.size
theorem MSt.next {h:Value}{N bp bx cap:Nat}{w W W':World}{D D':Nat->Int×Int}(s:MSt h N bp bx cap w W D)(hbx:bx<w.heap.size)(hne:bx≠bp)(p:PS N bp D' W')(g:W.grownBy W' (some bp)):MSt h N bp bx cap w W' D':=
 ⟨p,Bc s.grown g,g.cell s.c0 (by have:=s.new;simp;omega),g.cell s.c1 (by have:=s.new;simp;omega),g.cell s.box (by simpa using hne),s.new⟩
theorem Kj {D d1:Nat->Int×Int}{a st mid en b:Nat}(mp:(Stab.Srt Stab.lx D a st/\Stab.Srt Stab.lx D st mid/\Stab.Cross D a st mid)/\(Stab.Srt Stab.lx D mid en/\Stab.Srt Stab.lx D en b/\Stab.Cross D mid en b))(hm:Stab.Moved a mid D d1)(hen:mid<=en):
 Stab.Srt Stab.lx d1 mid en/\Stab.Srt Stab.lx d1 en b/\Stab.Cross d1 mid en b:=
 ⟨mp.2.1.congr (fun k hk _=>hm.out k (by omega)),mp.2.2.1.congr (fun k hk _=>hm.out k (by omega)),mp.2.2.2.congr (fun k hk _=>hm.out k (by omega))⟩
set_option maxRecDepth 100000 in
theorem Kz (h:Value)(hh:Hid (h=typeHandle Tryz.prog 230))(N bp bx cap L:Nat)(hIH:Hid (I4 h N bp bx cap L))(d:Nat->Int×Int)(a m b mid lo hi:Nat)(w:World)(hN:N<=288)(hL:b-a<=L+1)(ham:a+1<m)(hmb:m+1<b)(hb:b<=N)(hbp:bp<w.heap.size)(hbx:bx<w.heap.size)(hne:bx≠bp)
 (hmid:Hid (mid=(a+b)/2)) (hway:Hid ((mid<m/\lo+b=mid+m/\hi=mid)\/ (m<=mid/\lo=a/\hi=m)))
 (hbox:w.cell? ⟨bx,0,none⟩=some (.slice (some ⟨bp,0,none⟩) N cap)) (hP:PS N bp d w) (sL:Stab.Srt Stab.lx d a m) (sR:Stab.Srt Stab.lx d m b) (hc:Stab.Cross d a m b):
 Calls Tryz.prog 226 #[.agg #[LF bx,SF h N bp cap],.int .i64 a,.int .i64 m,.int .i64 b] w fun e w'=>e=.returned (.tuple #[])/\∃d',PS N bp d' w'/\Stab.Moved a b d d'/\Stab.Srt Stab.lx d' a b/\w.grownBy w' (some bp):=by
 have HP:=Ab hP;have HSL:=Ab sL;have HSR:=Ab sR;have HC:=Ab hc;have HBX:=Ab hbox;have h1:((m:Int)-(a:Int)==1)=false:=by rw[beq_eq_false_iff_ne];omega
 have h2:((b:Int)-(m:Int)==1)=false:=by rw[beq_eq_false_iff_ne];omega
 have hlo:a<=lo/\lo<=hi/\hi<=m/\hi<=mid/\a<mid/\mid<b/\mid+m<=lo+b:=by have:=Aa hmid;have:=Aa hway;omega
 obtain⟨q1,q2,q3,q4,q5,q6,q7⟩:=hlo;have hmI:((a:Int)+(b:Int))/2=(mid:Int):=by have:=Aa hmid;omega
 have HMI:=Ab hmI;clear hP sL sR hc hbox hmI
 rcases Aa hway with ⟨v1,v2,v3⟩|⟨v1,v2,v3⟩
 case' inl=>have hcmp:((a:Int)+(b:Int))/2<(m:Int):=by rw[Aa HMI];omega
 case' inr=>have hcmp:¬((a:Int)+(b:Int))/2<(m:Int):=by rw[Aa HMI];omega
 all_goals
  have V2:=Ab v2;have V3:=Ab v3;clear v2 v3;go_enter Tryz.func226,Tryz.ntmps226
  go_wp2;go_loopw [18,19,21] (fun vi vj vh wr=>∃st r q:Nat,lo<=st/\st<=r/\r<=hi/\vi=.int .i64 st/\vj=.int .i64 r/\(lo<st->Stab.lx (d (st-1)) (d (mid+m-st)))/\(r<hi->Stab.lx (d (mid+m-1-r)) (d r))/\wr=(w.alloc (.cells #[LF bx,SF h N bp cap] 277)).drewN q) (fun vi vj _ _=>(intOf vj).toNat-(intOf vi).toNat)
  case atStart=>exact⟨lo,hi,0,VC _,q2,VC _,congrArg (Value.int .i64) (by have:=Aa V2;have:=Aa HMI;omega),congrArg (Value.int .i64) (by have:=Aa V3;have:=Aa HMI;omega),fun h=>by omega,fun h=>by omega,rfl⟩
  case round=>
   obtain⟨st,r,q,hi1,hij,hj,rfl,rfl,hlo,hhi,rfl⟩:=hrel;have HLO:=Ab hlo;have HHI:=Ab hhi;clear hlo hhi
   by_cases hlt:st<r
   . obtain⟨c,hcc⟩:∃c,c=(st+r)/2:=⟨_,rfl⟩
     have hc1:st<=c:=by omega
     have hc2:c<r:=by omega
     have E:Hid (((st:Int)+(r:Int))/2=(c:Int)):=by unfold Hid;omega
     have E2:Hid (((a:Int)+(b:Int))/2+(m:Int)-1-(c:Int)=((mid+m-1-c:Nat):Int)):=by unfold Hid;have:=Aa HMI;omega
     have hx:=Stab.cross_less (Aa HC c (mid+m-1-c) (by omega) (by omega) (by omega) (by omega));clear hcc;go_wp2_with fail
     rw[Aa E,Aa E2];refine(Pc N bp bx cap d _ (mid+m-1-c) c (by omega) (by omega) hN (((Aa HP).alloc hbp _).drewN q) (by rw[World.cell?_drewN,World.cell?_alloc_past _ _ _ hbx];exact Aa HBX)).mono ?_;rintro e w2 ⟨rfl,q2,rfl⟩;rw[World.drewN_drewN]
     cases hd:decide ((d (mid+m-1-c)).1<(d c).1)with
     |true=>
      have HX:=Ab (hx.1 hd);clear hx hd;go_wp2;go_roundw
      case rel=>exact⟨st,c,_,hi1,hc1,by omega,rfl,rfl,Aa HLO,fun _=>Aa HX,rfl⟩
      case measure=>simp[intOf];omega
     |false=>
      have HX:=Ab (hx.2 hd);have ee:Hid (mid+m-(c+1)=mid+m-1-c):=by unfold Hid;omega
      clear hx hd;go_wp2;go_roundw
      case rel=>exact⟨c+1,r,_,by omega,by omega,hj,by go_num,rfl,fun _=>by rw[Aa ee];exact Aa HX,Aa HHI,rfl⟩
      case measure=>simp[intOf];omega
   . obtain rfl:st=r:=by omega
     have hno:¬(st:Int)<(st:Int):=by omega
     obtain⟨en,hen⟩:∃en,en+st=mid+m:=⟨mid+m-st,by omega⟩
     have hEN:(mid:Int)+(m:Int)-(st:Int)=(en:Int):=by omega
     have hmm:mid+m=st+en:=by omega
     have hen1:m<=en:=by have:=Aa hway;omega
     have hen2:en<=b:=by omega
     have hen3:mid<=en:=by omega
     have MP:=Ab (Stab.merge_parts (show a<=st by omega) (show st<=m by omega) hen1 hen2 hmm (Aa HSL) (Aa HSR) (Aa HC))
     have CL:Hid (a<st->en<b->Stab.lx (d (st-1)) (d en)):=fun c1 c2=>by
      have h:=Aa HLO (by have:=Aa V2;have:=Aa hway;omega);rw[show mid+m-st=en by omega]at h;exact h
     have CR:Hid (st<m->m<en->Stab.lx (d (en-1)) (d st)):=fun c1 c2=>by
      have h:=Aa HHI (by have:=Aa V3;have:=Aa hway;omega);rw[show mid+m-1-st=en-1 by omega]at h;exact h
     have S0:Hid (MSt h N bp bx cap w ((w.alloc (.cells #[LF bx,SF h N bp cap] 277)).drewN q) d):=⟨((Aa HP).alloc hbp _).drewN q,Ep (Bk (Bi _ _) _) q,by rw[World.cell?_drewN];simp,by rw[World.cell?_drewN];simp,by rw[World.cell?_drewN,World.cell?_alloc_past _ _ _ hbx];exact Aa HBX,hbp⟩
     have ca0:=(Aa S0).c0;have cb0:=(Aa S0).c1;rw[Aa HMI];generalize (w.alloc (.cells #[LF bx,SF h N bp cap] 277)).drewN q=w0 at*;have ww:(st<m/\m<en/\a<st/\en<b/\st<mid/\mid<en)\/ (st<m/\m<en/\a<st/\en=b/\st<mid/\mid<en)\/ (st<m/\m<en/\st=a/\en<b/\st<mid/\mid<en)\/ (st<m/\m<en/\st=a/\en=b/\st<mid/\mid<en)\/ (st=m/\en=mid/\a<st/\st<mid)\/ (st=m/\en=mid/\a<st/\st=mid)\/ (st<m/\en=m/\st=mid/\a<st/\mid<en/\en<b):=by omega
     clear HLO HHI hen
     rcases ww with ww|ww|ww|ww|ww|ww|ww
     . have k1:(st:Int)<(m:Int):=by omega
       have k2:(m:Int)<(en:Int):=by omega
       have l1:(a:Int)<(st:Int):=by omega
       have l2:(st:Int)<(mid:Int):=by omega
       have n1:(mid:Int)<(en:Int):=by omega
       have n2:(en:Int)<(b:Int):=by omega
       have WW:=Ab ww;clear ww;go_wp2_with fail
       refine(Jl h hh N bp bx cap d st m en _ hN (by have:=Aa WW;omega) (by have:=Aa WW;omega) (by have:=Aa WW;omega) (VG hbp (Aa S0).grown.size) (Aa S0).ps).mono ?_;rintro e w1 ⟨rfl,p1,g1⟩;have S1:=Ab ((Aa S0).next hbx hne p1 g1);have ca1:=(Aa S1).c0;have cb1:=(Aa S1).c1;clear p1 g1;go_wp2_with fail
       refine(Aa hIH (Stab.rot d st m en) a st mid _ (by have:=Aa WW;omega) (by have:=Aa WW;omega) (by have:=Aa WW;omega) (by have:=Aa WW;omega) (VG hbp (Aa S1).grown.size) (VG hbx (Aa S1).grown.size) (Aa S1).box (Aa S1).ps (Aa MP).1.1 (Aa MP).1.2.1 (Aa MP).1.2.2).mono ?_;rintro e w2 ⟨rfl,d1,p2,m1,s1,g2⟩;have S2:=Ab ((Aa S1).next hbx hne p2 g2);have MM1:=Ab m1;have SS1:=Ab s1;have ca2:=(Aa S2).c0;have cb2:=(Aa S2).c1;clear p2 g2 m1 s1;have MP2:=Ab (Kj (Aa MP) (Aa MM1) hen3);go_wp2_with fail
       refine(Aa hIH d1 mid en b _ (by have:=Aa WW;omega) (by have:=Aa WW;omega) (by have:=Aa WW;omega) (by have:=Aa WW;omega) (VG hbp (Aa S2).grown.size) (VG hbx (Aa S2).grown.size) (Aa S2).box (Aa S2).ps (Aa MP2).1 (Aa MP2).2.1 (Aa MP2).2.2).mono ?_;rintro e w3 ⟨rfl,d2,p3,m2,s2,g3⟩;have S3:=Ab ((Aa S2).next hbx hne p3 g3);have MM2:=Ab m2;have SS2:=Ab s2;clear p3 g3 m2 s2;have FIN:=Ab (Stab.merge_step Stab.lx_trans (by have:=Aa WW;omega) (by have:=Aa WW;omega) (by have:=Aa WW;omega) (by have:=Aa WW;omega) hmm (Aa HSL) (Aa HSR) (Aa CL) (Aa CR) (Aa MM1) (Aa SS1) (Aa MM2) (Aa SS2));go_wp2
       all_goals (go_end0;exact⟨rfl,d2,(Aa S3).ps,(Aa FIN).2,(Aa FIN).1,(Aa S3).grown⟩)
     . have k1:(st:Int)<(m:Int):=by omega
       have k2:(m:Int)<(en:Int):=by omega
       have l1:(a:Int)<(st:Int):=by omega
       have l2:(st:Int)<(mid:Int):=by omega
       have n1:(mid:Int)<(en:Int):=by omega
       have n2:¬(en:Int)<(b:Int):=by omega
       have WW:=Ab ww;clear ww;go_wp2_with fail
       refine(Jl h hh N bp bx cap d st m en _ hN (by have:=Aa WW;omega) (by have:=Aa WW;omega) (by have:=Aa WW;omega) (VG hbp (Aa S0).grown.size) (Aa S0).ps).mono ?_;rintro e w1 ⟨rfl,p1,g1⟩;have S1:=Ab ((Aa S0).next hbx hne p1 g1);have ca1:=(Aa S1).c0;have cb1:=(Aa S1).c1;clear p1 g1;go_wp2_with fail
       refine(Aa hIH (Stab.rot d st m en) a st mid _ (by have:=Aa WW;omega) (by have:=Aa WW;omega) (by have:=Aa WW;omega) (by have:=Aa WW;omega) (VG hbp (Aa S1).grown.size) (VG hbx (Aa S1).grown.size) (Aa S1).box (Aa S1).ps (Aa MP).1.1 (Aa MP).1.2.1 (Aa MP).1.2.2).mono ?_;rintro e w2 ⟨rfl,d1,p2,m1,s1,g2⟩;have S2:=Ab ((Aa S1).next hbx hne p2 g2);have MM1:=Ab m1;have SS1:=Ab s1;have ca2:=(Aa S2).c0;have cb2:=(Aa S2).c1;clear p2 g2 m1 s1;have MP2:=Ab (Kj (Aa MP) (Aa MM1) hen3);have S3:=S2;obtain⟨d2,hd2⟩:∃d2,d2=d1:=⟨_,rfl⟩
       rw[<-hd2]at S3;have MM2:Hid (Stab.Moved mid b d1 d2):=by rw[hd2];exact Stab.Moved.refl _ _ _
       have SS2:Hid (Stab.Srt Stab.lx d2 mid b):=by rw[hd2];exact(Aa MP2).1.sub (VC _) (by have:=Aa WW;omega)
       clear hd2;have FIN:=Ab (Stab.merge_step Stab.lx_trans (by have:=Aa WW;omega) (by have:=Aa WW;omega) (by have:=Aa WW;omega) (by have:=Aa WW;omega) hmm (Aa HSL) (Aa HSR) (Aa CL) (Aa CR) (Aa MM1) (Aa SS1) (Aa MM2) (Aa SS2));go_wp2
       all_goals (go_end0;exact⟨rfl,d2,(Aa S3).ps,(Aa FIN).2,(Aa FIN).1,(Aa S3).grown⟩)
     . have k1:(st:Int)<(m:Int):=by omega
       have k2:(m:Int)<(en:Int):=by omega
       have l1:¬(a:Int)<(st:Int):=by omega
       have n1:(mid:Int)<(en:Int):=by omega
       have n2:(en:Int)<(b:Int):=by omega
       have WW:=Ab ww;clear ww;go_wp2_with fail
       refine(Jl h hh N bp bx cap d st m en _ hN (by have:=Aa WW;omega) (by have:=Aa WW;omega) (by have:=Aa WW;omega) (VG hbp (Aa S0).grown.size) (Aa S0).ps).mono ?_;rintro e w1 ⟨rfl,p1,g1⟩;have S1:=Ab ((Aa S0).next hbx hne p1 g1);have ca1:=(Aa S1).c0;have cb1:=(Aa S1).c1;clear p1 g1;have S2:=S1;obtain⟨d1,hd1⟩:∃d1,d1=Stab.rot d st m en:=⟨_,rfl⟩
       rw[<-hd1]at S2;have MM1:Hid (Stab.Moved a mid (Stab.rot d st m en) d1):=by rw[hd1];exact Stab.Moved.refl _ _ _
       have SS1:Hid (Stab.Srt Stab.lx d1 a mid):=by rw[hd1];exact(Aa MP).1.2.1.sub (by have:=Aa WW;omega) (VC _)
       clear hd1;have MP2:=Ab (Kj (Aa MP) (Aa MM1) hen3);go_wp2_with fail
       refine(Aa hIH d1 mid en b _ (by have:=Aa WW;omega) (by have:=Aa WW;omega) (by have:=Aa WW;omega) (by have:=Aa WW;omega) (VG hbp (Aa S2).grown.size) (VG hbx (Aa S2).grown.size) (Aa S2).box (Aa S2).ps (Aa MP2).1 (Aa MP2).2.1 (Aa MP2).2.2).mono ?_;rintro e w3 ⟨rfl,d2,p3,m2,s2,g3⟩;have S3:=Ab ((Aa S2).next hbx hne p3 g3);have MM2:=Ab m2;have SS2:=Ab s2;clear p3 g3 m2 s2;have FIN:=Ab (Stab.merge_step Stab.lx_trans (by have:=Aa WW;omega) (by have:=Aa WW;omega) (by have:=Aa WW;omega) (by have:=Aa WW;omega) hmm (Aa HSL) (Aa HSR) (Aa CL) (Aa CR) (Aa MM1) (Aa SS1) (Aa MM2) (Aa SS2));go_wp2
       all_goals (go_end0;exact⟨rfl,d2,(Aa S3).ps,(Aa FIN).2,(Aa FIN).1,(Aa S3).grown⟩)
     . have k1:(st:Int)<(m:Int):=by omega
       have k2:(m:Int)<(en:Int):=by omega
       have l1:¬(a:Int)<(st:Int):=by omega
       have n1:(mid:Int)<(en:Int):=by omega
       have n2:¬(en:Int)<(b:Int):=by omega
       have WW:=Ab ww;clear ww;go_wp2_with fail
       refine(Jl h hh N bp bx cap d st m en _ hN (by have:=Aa WW;omega) (by have:=Aa WW;omega) (by have:=Aa WW;omega) (VG hbp (Aa S0).grown.size) (Aa S0).ps).mono ?_;rintro e w1 ⟨rfl,p1,g1⟩;have S1:=Ab ((Aa S0).next hbx hne p1 g1);have ca1:=(Aa S1).c0;have cb1:=(Aa S1).c1;clear p1 g1;have S2:=S1;obtain⟨d1,hd1⟩:∃d1,d1=Stab.rot d st m en:=⟨_,rfl⟩
       rw[<-hd1]at S2;have MM1:Hid (Stab.Moved a mid (Stab.rot d st m en) d1):=by rw[hd1];exact Stab.Moved.refl _ _ _
       have SS1:Hid (Stab.Srt Stab.lx d1 a mid):=by rw[hd1];exact(Aa MP).1.2.1.sub (by have:=Aa WW;omega) (VC _)
       clear hd1;have MP2:=Ab (Kj (Aa MP) (Aa MM1) hen3);have S3:=S2;obtain⟨d2,hd2⟩:∃d2,d2=d1:=⟨_,rfl⟩
       rw[<-hd2]at S3;have MM2:Hid (Stab.Moved mid b d1 d2):=by rw[hd2];exact Stab.Moved.refl _ _ _
       have SS2:Hid (Stab.Srt Stab.lx d2 mid b):=by rw[hd2];exact(Aa MP2).1.sub (VC _) (by have:=Aa WW;omega)
       clear hd2;have FIN:=Ab (Stab.merge_step Stab.lx_trans (by have:=Aa WW;omega) (by have:=Aa WW;omega) (by have:=Aa WW;omega) (by have:=Aa WW;omega) hmm (Aa HSL) (Aa HSR) (Aa CL) (Aa CR) (Aa MM1) (Aa SS1) (Aa MM2) (Aa SS2));go_wp2
       all_goals (go_end0;exact⟨rfl,d2,(Aa S3).ps,(Aa FIN).2,(Aa FIN).1,(Aa S3).grown⟩)
     . have k1:¬(st:Int)<(m:Int):=by omega
       have l1:(a:Int)<(st:Int):=by omega
       have l2:(st:Int)<(mid:Int):=by omega
       have n1:¬(mid:Int)<(en:Int):=by omega
       have WW:=Ab ww;clear ww;have S1:Hid (MSt h N bp bx cap w w0 (Stab.rot d st m en)):=by rw[show Stab.rot d st m en=d from by rw[show st=m by have:=Aa WW;omega];exact Stab.rot_left d m en];exact Aa S0
       have ca1:=(Aa S1).c0;have cb1:=(Aa S1).c1;go_wp2_with fail
       refine(Aa hIH (Stab.rot d st m en) a st mid _ (by have:=Aa WW;omega) (by have:=Aa WW;omega) (by have:=Aa WW;omega) (by have:=Aa WW;omega) (VG hbp (Aa S1).grown.size) (VG hbx (Aa S1).grown.size) (Aa S1).box (Aa S1).ps (Aa MP).1.1 (Aa MP).1.2.1 (Aa MP).1.2.2).mono ?_;rintro e w2 ⟨rfl,d1,p2,m1,s1,g2⟩;have S2:=Ab ((Aa S1).next hbx hne p2 g2);have MM1:=Ab m1;have SS1:=Ab s1;have ca2:=(Aa S2).c0;have cb2:=(Aa S2).c1;clear p2 g2 m1 s1;have MP2:=Ab (Kj (Aa MP) (Aa MM1) hen3);have S3:=S2;obtain⟨d2,hd2⟩:∃d2,d2=d1:=⟨_,rfl⟩
       rw[<-hd2]at S3;have MM2:Hid (Stab.Moved mid b d1 d2):=by rw[hd2];exact Stab.Moved.refl _ _ _
       have SS2:Hid (Stab.Srt Stab.lx d2 mid b):=by rw[hd2];exact(Aa MP2).2.1.sub (by have:=Aa WW;omega) (VC _)
       clear hd2;have FIN:=Ab (Stab.merge_step Stab.lx_trans (by have:=Aa WW;omega) (by have:=Aa WW;omega) (by have:=Aa WW;omega) (by have:=Aa WW;omega) hmm (Aa HSL) (Aa HSR) (Aa CL) (Aa CR) (Aa MM1) (Aa SS1) (Aa MM2) (Aa SS2));go_wp2
       all_goals (go_end0;exact⟨rfl,d2,(Aa S3).ps,(Aa FIN).2,(Aa FIN).1,(Aa S3).grown⟩)
     . have k1:¬(st:Int)<(m:Int):=by omega
       have l1:(a:Int)<(st:Int):=by omega
       have l2:¬(st:Int)<(mid:Int):=by omega
       have n1:¬(mid:Int)<(en:Int):=by omega
       have WW:=Ab ww;clear ww;have S1:Hid (MSt h N bp bx cap w w0 (Stab.rot d st m en)):=by rw[show Stab.rot d st m en=d from by rw[show st=m by have:=Aa WW;omega];exact Stab.rot_left d m en];exact Aa S0
       have ca1:=(Aa S1).c0;have cb1:=(Aa S1).c1;have S2:=S1;obtain⟨d1,hd1⟩:∃d1,d1=Stab.rot d st m en:=⟨_,rfl⟩
       rw[<-hd1]at S2;have MM1:Hid (Stab.Moved a mid (Stab.rot d st m en) d1):=by rw[hd1];exact Stab.Moved.refl _ _ _
       have SS1:Hid (Stab.Srt Stab.lx d1 a mid):=by rw[hd1];exact(Aa MP).1.1.sub (VC _) (by have:=Aa WW;omega)
       clear hd1;have MP2:=Ab (Kj (Aa MP) (Aa MM1) hen3);have S3:=S2;obtain⟨d2,hd2⟩:∃d2,d2=d1:=⟨_,rfl⟩
       rw[<-hd2]at S3;have MM2:Hid (Stab.Moved mid b d1 d2):=by rw[hd2];exact Stab.Moved.refl _ _ _
       have SS2:Hid (Stab.Srt Stab.lx d2 mid b):=by rw[hd2];exact(Aa MP2).2.1.sub (by have:=Aa WW;omega) (VC _)
       clear hd2;have FIN:=Ab (Stab.merge_step Stab.lx_trans (by have:=Aa WW;omega) (by have:=Aa WW;omega) (by have:=Aa WW;omega) (by have:=Aa WW;omega) hmm (Aa HSL) (Aa HSR) (Aa CL) (Aa CR) (Aa MM1) (Aa SS1) (Aa MM2) (Aa SS2));go_wp2
       all_goals (go_end0;exact⟨rfl,d2,(Aa S3).ps,(Aa FIN).2,(Aa FIN).1,(Aa S3).grown⟩)
     . have k1:(st:Int)<(m:Int):=by omega
       have k2:¬(m:Int)<(en:Int):=by omega
       have l1:(a:Int)<(st:Int):=by omega
       have l2:¬(st:Int)<(mid:Int):=by omega
       have n1:(mid:Int)<(en:Int):=by omega
       have n2:(en:Int)<(b:Int):=by omega
       have WW:=Ab ww;clear ww;have S1:Hid (MSt h N bp bx cap w w0 (Stab.rot d st m en)):=by rw[show Stab.rot d st m en=d from by rw[show en=m by have:=Aa WW;omega];exact Stab.rot_right d st m];exact Aa S0
       have ca1:=(Aa S1).c0;have cb1:=(Aa S1).c1;have S2:=S1;obtain⟨d1,hd1⟩:∃d1,d1=Stab.rot d st m en:=⟨_,rfl⟩
       rw[<-hd1]at S2;have MM1:Hid (Stab.Moved a mid (Stab.rot d st m en) d1):=by rw[hd1];exact Stab.Moved.refl _ _ _
       have SS1:Hid (Stab.Srt Stab.lx d1 a mid):=by rw[hd1];exact(Aa MP).1.1.sub (VC _) (by have:=Aa WW;omega)
       clear hd1;have MP2:=Ab (Kj (Aa MP) (Aa MM1) hen3);go_wp2_with fail
       refine(Aa hIH d1 mid en b _ (by have:=Aa WW;omega) (by have:=Aa WW;omega) (by have:=Aa WW;omega) (by have:=Aa WW;omega) (VG hbp (Aa S2).grown.size) (VG hbx (Aa S2).grown.size) (Aa S2).box (Aa S2).ps (Aa MP2).1 (Aa MP2).2.1 (Aa MP2).2.2).mono ?_;rintro e w3 ⟨rfl,d2,p3,m2,s2,g3⟩;have S3:=Ab ((Aa S2).next hbx hne p3 g3);have MM2:=Ab m2;have SS2:=Ab s2;clear p3 g3 m2 s2;have FIN:=Ab (Stab.merge_step Stab.lx_trans (by have:=Aa WW;omega) (by have:=Aa WW;omega) (by have:=Aa WW;omega) (by have:=Aa WW;omega) hmm (Aa HSL) (Aa HSR) (Aa CL) (Aa CR) (Aa MM1) (Aa SS1) (Aa MM2) (Aa SS2));go_wp2
       all_goals (go_end0;exact⟨rfl,d2,(Aa S3).ps,(Aa FIN).2,(Aa FIN).1,(Aa S3).grown⟩)
theorem Ik (h:Value)(hh:Hid (h=typeHandle Tryz.prog 230))(N bp bx cap:Nat)(hN:N<=288)(hne:bx≠bp):∀L,I4 h N bp bx cap L
 |0=>fun d a m b w hL ham hmb _ _ _ _ _ _ _ _=>by omega
 |L+1=>fun d a m b w hL ham hmb hb hbp hbx hbox hP sL sR hc=>by
  by_cases h1:m=a+1
  . exact Yl h hh N bp bx cap d a m b w (Ab h1) hN hmb hb hbp hbx hne hbox hP sR hc
  . by_cases h2:b=m+1
    . exact Vq h hh N bp bx cap d a m b w (Ab h2) hN (by omega) hmb hb hbp hbx hne hbox hP sL hc
    . by_cases h3:(a+b)/2<m
      . exact Kz h hh N bp bx cap L (Ab (Ik h hh N bp bx cap hN hne L)) d a m b ((a+b)/2) ((a+b)/2+m-b) ((a+b)/2) w hN (by omega) (by omega) (by omega) hb hbp hbx hne (Ab rfl) (Ab (.inl ⟨h3,by omega,rfl⟩)) hbox hP sL sR hc
      . exact Kz h hh N bp bx cap L (Ab (Ik h hh N bp bx cap hN hne L)) d a m b ((a+b)/2) a m w hN (by omega) (by omega) (by omega) hb hbp hbx hne (Ab rfl) (Ab (.inr ⟨by omega,rfl,rfl⟩)) hbox hP sL sR hc
set_option maxRecDepth 100000 in
theorem Lt (h:Value)(hh:Hid (h=typeHandle Tryz.prog 230))(N bp bx cap:Nat)(d:Nat->Int×Int)(a b:Nat)(w:World)(hN:N<=288)(hab:a<=b)(hb:b<=N)(hbp:bp<w.heap.size)(hbx:bx<w.heap.size)(hne:bx≠bp)
 (hbox:w.cell? ⟨bx,0,none⟩=some (.slice (some ⟨bp,0,none⟩) N cap)) (hP:PS N bp d w) (hr:NR d a b):
 Calls Tryz.prog 225 #[.agg #[LF bx,SF h N bp cap],.int .i64 a,.int .i64 b] w fun e w'=>e=.returned (.tuple #[])/\∃d',PS N bp d' w'/\Stab.Moved a b d d'/\Stab.Srt Stab.lx d' a b/\w.grownBy w' (some bp):=by
 have S0:Hid (MSt h N bp bx cap w (w.alloc (.cells #[LF bx,SF h N bp cap] 277)) d):=⟨hP.alloc hbp _,Bk (Bi _ _) _,by simp,by simp,by rw[World.cell?_alloc_past _ _ _ hbx];exact hbox,hbp⟩
 have HR:=Ab hr;clear hP hbox hr;go_enter Tryz.func225,Tryz.ntmps225
 go_wp2;go_loopw [6] (fun vi wr=>∃(i:Nat) (di:Nat->Int×Int),a<i/\(i<=b\/ (i=a+1/\di=d))/\vi=.int .i64 i/\MSt h N bp bx cap w wr di/\Stab.Moved a i d di/\Stab.Srt Stab.lx di a i) (fun vi _=>b+2-(intOf vi).toNat)
 case atStart=>exact⟨a+1,d,by omega,.inr ⟨rfl,rfl⟩,by go_num,Aa S0,Stab.Moved.refl _ _ _,fun i j h1 h2 h3=>by omega⟩
 case round=>
  obtain⟨i,di,hai,hib,rfl,hS,hM,hs⟩:=hrel;have HS:=Ab hS;have HM:=Ab hM;have HSr:=Ab hs;have ca:=hS.c0;have cb:=hS.c1
  by_cases hlt:i<b
  . have HCr:Hid (∀k,a<=k->k<i->(di k).2<(di i).2):=fun k h1 h2=>by
     obtain⟨k',e1,e2,e3⟩:=hM.mem h1 h2;rw[hM.out i (by omega),<-e3];exact Aa HR k' i e1 e2 hlt
    clear hib hS hM hs S0;go_wp2;go_loopw [7] (fun vj wr=>∃j:Nat,a<=j/\j<=i/\vj=.int .i64 j/\MSt h N bp bx cap w wr (Stab.rot di j i (i+1))/\(j<i->Stab.lx (di i) (di j))) (fun vj _=>(intOf vj).toNat)
    case atStart=>exact⟨i,by omega,VC _,rfl,by rw[Stab.rot_left];exact Aa HS,fun h=>by omega⟩
    case round=>
     obtain⟨j,haj,hji,rfl,hS,hlo⟩:=hrel;have HS2:=Ab hS;have HLO:=Ab hlo;have ca2:=hS.c0;have cb2:=hS.c1
     have hE:((a<j->Stab.lx (di (j-1)) (di i))->Hid (Stab.Moved a (i+1) d (Stab.rot di j i (i+1))/\Stab.Srt Stab.lx (Stab.rot di j i (i+1)) a (i+1))):=fun hl=>
      Ab ⟨((Aa HM).wider (VC _) (by omega) (by omega)).trans ((Stab.moved_rot di j i (i+1) hji (by omega)).wider haj (by omega) (VC _)),Stab.ins_last haj hji (Aa HSr) hl (Aa HLO)⟩
     clear hS hlo
     by_cases hja:a<j
     . have hjaI:(a:Int)<(j:Int):=by omega
       have E:Hid ((j:Int)-1=((j-1:Nat):Int)):=by unfold Hid;omega
       have eD1:Stab.rot di j i (i+1) j=di i:=by
        unfold Stab.rot;rw[if_pos (by omega)]
        congr 1;omega
       have eD2:Stab.rot di j i (i+1) (j-1)=di (j-1):=by
        unfold Stab.rot;rw[if_neg (by omega),if_neg (by omega)]
       have hx:=Stab.cross_less (Aa HCr (j-1) (by omega) (by omega));have ED1:=Ab eD1;have ED2:=Ab eD2;have HX:=Ab hx;have HRD:=Ab (Stab.rot_down di j i (by omega) hji);have HE:=Ab hE;clear eD1 eD2 hx hE;generalize Stab.rot di j i (i+1)=D at*;go_wp2_with fail
       rw[Aa E];refine(Pc N bp bx cap D _ j (j-1) (by omega) (by omega) hN (Aa HS2).ps (Aa HS2).box).mono ?_;rintro e w2 ⟨rfl,q,rfl⟩;rw[Aa ED1,Aa ED2]
       cases hd:decide ((di i).1<(di (j-1)).1)with
       |true=>
        have HX2:=Ab ((Aa HX).1 hd);have hrun:=Oo N bp cap D (wr.drewN q) j (j-1) (by omega) (by omega) ((Aa HS2).ps.drewN q);rw[<-Aa hh,<-Aa E]at hrun;have HSW:=Ab (PS.sw ((Aa HS2).ps.drewN q) j (j-1) (by omega) (by omega));have HGS:=Ab (Bc (Ep (Bi wr (some bp)) q) (Pg (wr.drewN q) bp D j (j-1)));rw[Aa HRD]at HSW;have HS3:=Ab ((Aa HS2).next hbx hne (Aa HSW) (Aa HGS));clear hd HSW HGS HX HE HRD;generalize swW (wr.drewN q) bp D j (j-1)=w3 at*;go_wp2;go_roundw
        case rel=>exact⟨j-1,by omega,by omega,congrArg (Value.int .i64) (by omega),Aa HS3,fun _=>Aa HX2⟩
        case measure=>simp[intOf];omega
       |false=>
        have HF:=Aa HE (fun _=>(Aa HX).2 hd);have HS3:Hid (MSt h N bp bx cap w (wr.drewN q) D):=(Aa HS2).next hbx hne ((Aa HS2).ps.drewN q) (Ep (Bi _ _) q);clear hd HX HE HRD;go_wp2;go_roundw
        case rel=>exact⟨i+1,D,by omega,.inl (by omega),by go_num,Aa HS3,(Aa HF).1,(Aa HF).2⟩
        case measure=>simp[intOf];omega
     . have hjaI:¬(a:Int)<(j:Int):=by omega
       have HF:=hE (fun h=>by omega);clear hE;generalize Stab.rot di j i (i+1)=D at*;go_wp2;go_roundw
       case rel=>exact⟨i+1,D,by omega,.inl (by omega),by go_num,Aa HS2,(Aa HF).1,(Aa HF).2⟩
       case measure=>simp[intOf];omega
  . have HF:Hid (Stab.Moved a b d di/\Stab.Srt Stab.lx di a b):=by
     rcases hib with h1|⟨h1,h2⟩
     . have e:i=b:=by omega
       rw[<-e];exact⟨hM,hs⟩
     . rw[h2];exact⟨Stab.Moved.refl _ _ _,fun i j h1 h2 h3=>by omega⟩
    clear hib hS hM hs S0;go_wp2;go_end0
    exact⟨rfl,di,(Aa HS).ps,(Aa HF).1,(Aa HF).2,(Aa HS).grown⟩
set_option maxRecDepth 100000 in
theorem BZ (h:Value)(hh:Hid (h=typeHandle Tryz.prog 230))(N bp bx cap:Nat)(d:Nat->Int×Int)(w:World)(hN:N<=288)(hbp:bp<w.heap.size)(hbx:bx<w.heap.size)(hne:bx≠bp)
 (hbox:w.cell? ⟨bx,0,none⟩=some (.slice (some ⟨bp,0,none⟩) N cap)) (hP:PS N bp d w) (hr:NR d 0 N):
 Calls Tryz.prog 197 #[.agg #[LF bx,SF h N bp cap],.int .i64 N] w fun e w'=>e=.returned (.tuple #[])/\∃d',PS N bp d' w'/\Stab.Moved 0 N d d'/\Stab.Srt Stab.lx d' 0 N/\w.grownBy w' (some bp):=by
 have S0:Hid (MSt h N bp bx cap w (w.alloc (.cells #[LF bx,SF h N bp cap] 277)) d):=⟨hP.alloc hbp _,Bk (Bi _ _) _,by simp,by simp,by rw[World.cell?_alloc_past _ _ _ hbx];exact hbox,hbp⟩
 have HR:=Ab hr;have HC0:Hid (Part d d N 20 0):=⟨fun s h=>by omega,fun _ _=>rfl,fun s i j hi hj hn=>hr i j (VK _) (by omega) hn⟩
 have HMG:=Ab (Ik h hh N bp bx cap hN hne N);clear hP hbox hr;go_enter Tryz.func197,Tryz.ntmps197
 go_wp2;go_loopw [5,6] (fun va vb wr=>∃(t α:Nat) (dk:Nat->Int×Int),Hid (α=t*20)/\α<=N/\va=.int .i64 α/\vb=.int .i64 ((α:Int)+20)/\MSt h N bp bx cap w wr dk/\Stab.Moved 0 N d dk/\Part dk d N 20 t) (fun va _ _=>N+1-(intOf va).toNat)
 case atStart=>exact⟨0,0,d,Ab rfl,VK _,rfl,rfl,Aa S0,Stab.Moved.refl _ _ _,Aa HC0⟩
 case round=>
  obtain⟨t,α,dk,hα,hαN,rfl,rfl,hS,hM,hPt⟩:=hrel;have HS:=Ab hS;have HM:=Ab hM;have HPt:=Ab hPt;have ca:=hS.c0;have cb:=hS.c1
  have HRi:Hid (∀e,e<=N->NR dk α e):=fun e he i j h1 h2 h3=>by
   rw[Aa hα]at h1;rw[hPt.rest i h1,hPt.rest j (by omega)];exact Aa HR i j (VK _) h2 (by omega)
  clear hS hM hPt S0 HC0
  by_cases hlt:α+20<=N
  . have hltI:(α:Int)+20<=(N:Int):=by omega
    have E:Hid ((α:Int)+20=((α+20:Nat):Int)):=by unfold Hid;omega
    go_wp2_with fail
    rw[Aa E];refine(Lt h hh N bp bx cap dk α (α+20) _ hN (by omega) hlt (VG hbp (Aa HS).grown.size) (VG hbx (Aa HS).grown.size) hne (Aa HS).box (Aa HS).ps (Aa HRi (α+20) hlt)).mono ?_;rintro e w2 ⟨rfl,d',p2,m2,s2,g2⟩;have HS2:=Ab ((Aa HS).next hbx hne p2 g2);have HM2:=Ab ((Aa HM).trans (m2.wider (VK _) (by omega) hlt))
    have HP2:Hid (Part d' d N 20 (t+1)):=by
     have ha:=Aa hα;rw[ha]at m2 s2 hlt;exact(Aa HPt).step hlt m2 s2
    have hα2:Hid (α+20=(t+1)*20):=by have:=Aa hα;unfold Hid;omega
    clear p2 m2 s2 g2;go_wp2;go_roundw
    case rel=>exact⟨t+1,α+20,d',hα2,hlt,rfl,by go_num,Aa HS2,Aa HM2,Aa HP2⟩
    case measure=>simp[intOf];omega
  . have hltI:¬(α:Int)+20<=(N:Int):=by omega
    go_wp2_with fail
    refine(Lt h hh N bp bx cap dk α N _ hN hαN (VC _) (VG hbp (Aa HS).grown.size) (VG hbx (Aa HS).grown.size) hne (Aa HS).box (Aa HS).ps (Aa HRi N (VC _))).mono ?_;rintro e w2 ⟨rfl,d',p2,m2,s2,g2⟩;have HS2:=Ab ((Aa HS).next hbx hne p2 g2);have HM2:=Ab ((Aa HM).trans (m2.wider (VK _) hαN (VC _)))
    have HB2:Hid (Jh d' N 20/\Cuts d' N 20):=by
     have ha:=Aa hα;rw[ha]at m2 s2;exact(Aa HPt).last (by omega) (by omega) m2 s2
    clear p2 m2 s2 g2 HS HM HPt HRi ca cb hα hαN hlt hltI;go_wp2;go_loopw [4,5,6,7] (fun vB _ _ _ wr=>∃(B:Nat) (dB:Nat->Int×Int),0<B/\B<=1000/\vB=.int .i64 B/\MSt h N bp bx cap w wr dB/\Stab.Moved 0 N d dB/\Jh dB N B/\Cuts dB N B) (fun vB _ _ _ _=>N-(intOf vB).toNat)
    case atStart=>exact⟨20,d',by omega,by omega,rfl,Aa HS2,Aa HM2,(Aa HB2).1,(Aa HB2).2⟩
    case round=>
     obtain⟨B,dB,hB0,hB1,rfl,hS,hM,hbl,hcu⟩:=hrel;have HS:=Ab hS;have HM:=Ab hM;have HBl:=Ab hbl;have HCu:=Ab hcu;have ca:=hS.c0;have cb:=hS.c1;have HP0:Hid (Part dB dB N (2*B) 0):=⟨fun s h=>by omega,fun _ _=>rfl,hcu.double⟩
     clear hS hM hbl hcu HS2 HM2 HB2
     by_cases hBN:B<N
     . go_wp2;go_loopw [5,6] (fun va vb wr=>∃(t α:Nat) (dk:Nat->Int×Int),Hid (α=t*(2*B))/\α<=N/\va=.int .i64 α/\vb=.int .i64 ((α:Int)+2*(B:Int))/\MSt h N bp bx cap w wr dk/\Stab.Moved 0 N d dk/\Part dk dB N (2*B) t) (fun va _ _=>N+1-(intOf va).toNat)
       case atStart=>exact⟨0,0,dB,Ab (YI _).symm,VK _,rfl,by go_num,Aa HS,Aa HM,Aa HP0⟩
       case round=>
        obtain⟨t,α,dk,hα,hαN,rfl,rfl,hS,hM,hPt⟩:=hrel;have HS1:=Ab hS;have HM1:=Ab hM;have HPt:=Ab hPt;have ca1:=hS.c0;have cb1:=hS.c1;clear hS hM hPt HP0
        by_cases hlt:α+2*B<=N
        . have hltI:(α:Int)+2*(B:Int)<=(N:Int):=by omega
          have E:Hid ((α:Int)+2*(B:Int)=((α+2*B:Nat):Int)):=by unfold Hid;omega
          have E2:Hid ((α:Int)+(B:Int)=((α+B:Nat):Int)):=by unfold Hid;omega
          have HRu:Hid (Stab.Srt Stab.lx dk α (α+B)/\Stab.Srt Stab.lx dk (α+B) (α+2*B)/\Stab.Cross dk α (α+B) (α+2*B)):=by
           have ha:=Aa hα;rw[ha];rw[ha]at hlt;exact Ok (Aa HBl) (Aa HCu) (Aa HPt).rest (by omega) (VC _) hlt (.inr rfl)
          go_wp2_with fail
          rw[Aa E,Aa E2];refine(Aa HMG dk α (α+B) (α+2*B) _ (by omega) (by omega) (by omega) hlt (VG hbp (Aa HS1).grown.size) (VG hbx (Aa HS1).grown.size) (Aa HS1).box (Aa HS1).ps (Aa HRu).1 (Aa HRu).2.1 (Aa HRu).2.2).mono ?_;rintro e w3 ⟨rfl,d3,p3,m3,s3,g3⟩;have HS3:=Ab ((Aa HS1).next hbx hne p3 g3);have HM3:=Ab ((Aa HM1).trans (m3.wider (VK _) (by omega) hlt))
          have HP3:Hid (Part d3 dB N (2*B) (t+1)):=by
           have ha:=Aa hα;rw[ha]at m3 s3 hlt;exact(Aa HPt).step hlt m3 s3
          have hα3:Hid (α+2*B=(t+1)*(2*B)):=by have:=Aa hα;unfold Hid;rw[ZE t (2*B),<-this]
          clear p3 m3 s3 g3 HRu;go_wp2;go_roundw
          case rel=>exact⟨t+1,α+2*B,d3,hα3,hlt,rfl,by go_num,Aa HS3,Aa HM3,Aa HP3⟩
          case measure=>simp[intOf];omega
        . have hltI:¬(α:Int)+2*(B:Int)<=(N:Int):=by omega
          by_cases hm:α+B<N
          . have hmI:(α:Int)+(B:Int)<(N:Int):=by omega
            have E2:Hid ((α:Int)+(B:Int)=((α+B:Nat):Int)):=by unfold Hid;omega
            have HRu:Hid (Stab.Srt Stab.lx dk α (α+B)/\Stab.Srt Stab.lx dk (α+B) N/\Stab.Cross dk α (α+B) N):=by
             have ha:=Aa hα;rw[ha];rw[ha]at hlt hm;exact Ok (Aa HBl) (Aa HCu) (Aa HPt).rest hm (by omega) (VC _) (.inl rfl)
            go_wp2_with fail
            rw[Aa E2];refine(Aa HMG dk α (α+B) N _ (by omega) (by omega) hm (VC _) (VG hbp (Aa HS1).grown.size) (VG hbx (Aa HS1).grown.size) (Aa HS1).box (Aa HS1).ps (Aa HRu).1 (Aa HRu).2.1 (Aa HRu).2.2).mono ?_;rintro e w3 ⟨rfl,d3,p3,m3,s3,g3⟩;have HS3:=Ab ((Aa HS1).next hbx hne p3 g3);have HM3:=Ab ((Aa HM1).trans (m3.wider (VK _) hαN (VC _)))
            have HB3:Hid (Jh d3 N (2*B)/\Cuts d3 N (2*B)):=by
             have ha:=Aa hα;rw[ha]at m3 s3;exact(Aa HPt).last (by omega) (by omega) m3 s3
            clear p3 m3 s3 g3 HRu HPt hα;go_wp2;go_roundw
            case rel=>exact⟨2*B,d3,by omega,by omega,congrArg (Value.int .i64) (by omega),Aa HS3,Aa HM3,(Aa HB3).1,(Aa HB3).2⟩
            case measure=>simp[intOf];omega
          . have hmI:¬(α:Int)+(B:Int)<(N:Int):=by omega
            have HB3:Hid (Jh dk N (2*B)/\Cuts dk N (2*B)):=by
             have ha:=Aa hα;rw[ha]at hlt hm hαN;exact(Aa HPt).last hαN (by omega) (Stab.Moved.refl _ _ _) (JF (Aa HBl) (Aa HPt).rest (by omega))
            clear HPt hα;go_wp2;go_roundw
            case rel=>exact⟨2*B,dk,by omega,by omega,congrArg (Value.int .i64) (by omega),Aa HS1,Aa HM1,(Aa HB3).1,(Aa HB3).2⟩
            case measure=>simp[intOf];omega
     . have HF:Hid (Stab.Srt Stab.lx dB 0 N):=by
        have:=Aa HBl 0
        rw[YI,YG (by omega)]at this;exact this
       clear HP0;go_wp2;go_end0
       exact⟨rfl,dB,(Aa HS).ps,Aa HM,Aa HF,(Aa HS).grown⟩
end Go.Proofs.YtleocpdblhbimaaGreatDoor
