import Derived.Test.YtieianhejdcgdaaGreatDoorQ21
set_option maxHeartbeats 8000000
namespace Go.Proofs.YtieianhejdcgdaaGreatDoor
open Go.RowKit
set_option linter.unusedVariables false
def Z1g (N bp cap bx bl ol ln lc:Nat)(l:List Int)(L:Nat):Prop:=∀(d:Nat->Int×Int) (a m b:Nat) (w:World),b-a<=L->a<m->m<b->b<=N->Cx bp bx bl ol ln lc l w->
 PC N bp l d w->Stab.Srt Stab.lx d a m->Stab.Srt Stab.lx d m b->Stab.Cross d a m b->
 Calls Tryz.prog 293 #[.slice (some ⟨bp,0,none⟩) N cap,.int .i64 a,.int .i64 m,.int .i64 b,CF bx] w fun e w'=>e=.returned (.tuple #[])/\∃d',PC N bp l d' w'/\Stab.Moved a b d d'/\Stab.Srt Stab.lx d' a b/\w.grownBy w' (some bp)
structure CSt (N bp bx bl ol ln lc:Nat)(l:List Int)(w W:World)(D:Nat->Int×Int):Prop where
 ps:PC N bp l D W
 grown:w.grownBy W (some bp)
 cx:Cx bp bx bl ol ln lc l W
theorem CSt.next {N bp bx bl ol ln lc:Nat}{l:List Int}{w W W':World}{D D':Nat->Int×Int}(s:CSt N bp bx bl ol ln lc l w W D)(p:PC N bp l D' W')(g:W.grownBy W' (some bp)):CSt N bp bx bl ol ln lc l w W' D':=
 ⟨p,Aj s.grown g,s.cx.grown g⟩
theorem Hn {D d1:Nat->Int×Int}{a st mid en b:Nat}(mp:(Stab.Srt Stab.lx D a st/\Stab.Srt Stab.lx D st mid/\Stab.Cross D a st mid)/\(Stab.Srt Stab.lx D mid en/\Stab.Srt Stab.lx D en b/\Stab.Cross D mid en b))(hm:Stab.Moved a mid D d1)(hen:mid<=en):
 Stab.Srt Stab.lx d1 mid en/\Stab.Srt Stab.lx d1 en b/\Stab.Cross d1 mid en b:=
 ⟨mp.2.1.congr (fun k hk _=>hm.out k (by omega)),mp.2.2.1.congr (fun k hk _=>hm.out k (by omega)),mp.2.2.2.congr (fun k hk _=>hm.out k (by omega))⟩
set_option maxRecDepth 100000 in
theorem Qy (N bp cap bx bl ol ln lc:Nat)(l:List Int)(L:Nat)(hIH:Hid (Z1g N bp cap bx bl ol ln lc l L))(d:Nat->Int×Int)(a m b mid lo hi:Nat)(w:World)(hN:N<=288)(hL:b-a<=L+1)(ham:a+1<m)(hmb:m+1<b)(hb:b<=N)
 (hmid:Hid (mid=(a+b)/2)) (hway:Hid ((mid<m/\lo+b=mid+m/\hi=mid)\/ (m<=mid/\lo=a/\hi=m))) (hX:Cx bp bx bl ol ln lc l w)
 (hP:PC N bp l d w) (sL:Stab.Srt Stab.lx d a m) (sR:Stab.Srt Stab.lx d m b) (hc:Stab.Cross d a m b):
 Calls Tryz.prog 293 #[.slice (some ⟨bp,0,none⟩) N cap,.int .i64 a,.int .i64 m,.int .i64 b,CF bx] w fun e w'=>e=.returned (.tuple #[])/\∃d',PC N bp l d' w'/\Stab.Moved a b d d'/\Stab.Srt Stab.lx d' a b/\w.grownBy w' (some bp):=by
 have HP:=Ab hP;have HSL:=Ab sL;have HSR:=Ab sR;have HC:=Ab hc;have HX:=Ab hX;have h1:((m:Int)-(a:Int)==1)=false:=by rw[beq_eq_false_iff_ne];omega
 have h2:((b:Int)-(m:Int)==1)=false:=by rw[beq_eq_false_iff_ne];omega
 have hlo:a<=lo/\lo<=hi/\hi<=m/\hi<=mid/\a<mid/\mid<b/\mid+m<=lo+b:=by have:=Aa hmid;have:=Aa hway;omega
 obtain⟨q1,q2,q3,q4,q5,q6,q7⟩:=hlo;have hmI:((a:Int)+(b:Int))/2=(mid:Int):=by have:=Aa hmid;omega
 have HMI:=Ab hmI;clear hP sL sR hc hX hmI
 rcases Aa hway with ⟨v1,v2,v3⟩|⟨v1,v2,v3⟩
 case' inl=>have hcmp:((a:Int)+(b:Int))/2<(m:Int):=by rw[Aa HMI];omega
 case' inr=>have hcmp:¬((a:Int)+(b:Int))/2<(m:Int):=by rw[Aa HMI];omega
 all_goals
  have V2:=Ab v2;have V3:=Ab v3;clear v2 v3;go_enter Tryz.func293,Tryz.ntmps293
  go_wp2;go_loopw [20,21,23] (fun vi vj vh wr=>∃st r q:Nat,lo<=st/\st<=r/\r<=hi/\vi=.int .i64 st/\vj=.int .i64 r/\(lo<st->Stab.lx (d (st-1)) (d (mid+m-st)))/\(r<hi->Stab.lx (d (mid+m-1-r)) (d r))/\wr=w.drewN q) (fun vi vj _ _=>(intOf vj).toNat-(intOf vi).toNat)
  case atStart=>exact⟨lo,hi,0,VC _,q2,VC _,congrArg (Value.int .i64) (by have:=Aa V2;have:=Aa HMI;omega),congrArg (Value.int .i64) (by have:=Aa V3;have:=Aa HMI;omega),fun h=>by omega,fun h=>by omega,rfl⟩
  case round=>
   obtain⟨st,r,q,hi1,hij,hj,rfl,rfl,hlo,hhi,hw⟩:=hrel;have HW:=Ab hw;have HLO:=Ab hlo;have HHI:=Ab hhi;clear hlo hhi hw
   by_cases hlt:st<r
   . obtain⟨c,hcc⟩:∃c,c=(st+r)/2:=⟨_,rfl⟩
     have hc1:st<=c:=by omega
     have hc2:c<r:=by omega
     have E:Hid (((st:Int)+(r:Int))/2=(c:Int)):=by unfold Hid;omega
     obtain⟨f,hf⟩:∃f,f=mid+m-1-c:=⟨_,rfl⟩
     have E2:(((a:Int)+(b:Int))/2+(m:Int)-1-(c:Int)).toNat=f:=by have:=Aa HMI;omega
     have p2:(0:Int)<=((a:Int)+(b:Int))/2+(m:Int)-1-(c:Int):=by have:=Aa HMI;omega
     have b2:((a:Int)+(b:Int))/2+(m:Int)-1-(c:Int)<(N:Int):=by have:=Aa HMI;omega
     have r2:IntKind.i64.wrap (((a:Int)+(b:Int))/2+(m:Int)-1-(c:Int))=((a:Int)+(b:Int))/2+(m:Int)-1-(c:Int):=by rw[IntKind.wrap_i64];have:=Aa HMI;omega
     have hx:=Ab (Stab.cross_less (Aa HC c f (by omega) (by omega) (by omega) (by omega)));have P1:PC N bp l d wr:=by rw[Aa HW];exact(Aa HP).drewN q
     have X1:Cx bp bx bl ol ln lc l wr:=by rw[Aa HW];exact(Aa HX).drewN q
     have hCmp:=fun n=>CE P1 X1 f c (by omega) (by omega) n
     have cc:=(P1 c (by omega)).1.1;have ca:=(P1 f (by omega)).1.1;generalize (d c).2=y at*;generalize (d f).2=z at*;have CM:=Ab hCmp;have HF:=Ab hf;have hcN:(c:Int)<(N:Int):=by omega
     clear hcc P1 X1 hCmp hf;go_wp2_with fail
     rw[Aa E];go_wp2_with fail
     go_quiet ((go_at_call 284;refine Calls.quiet_of (Aa CM _)))
     rw[Xv]
     cases hd:decide ((d f).1<(d c).1)with
     |true=>
      have HX2:=Ab ((Aa hx).1 hd);rw[Aa HF]at HX2;clear hx hd;go_wp2;go_roundw
      case rel=>exact⟨st,c,_,hi1,hc1,by omega,rfl,rfl,Aa HLO,fun _=>Aa HX2,by rw[Aa HW,World.drewN_drewN]⟩
      case measure=>simp[intOf];omega
     |false=>
      have HX2:=Ab ((Aa hx).2 hd);have ee:Hid (mid+m-(c+1)=f):=by have:=Aa HF;unfold Hid;omega
      clear hx hd;go_wp2;go_roundw
      case rel=>exact⟨c+1,r,_,by omega,by omega,hj,by go_num,rfl,fun _=>by rw[Aa ee];exact Aa HX2,Aa HHI,by rw[Aa HW,World.drewN_drewN]⟩
      case measure=>simp[intOf];omega
   . obtain rfl:st=r:=by omega
     have hno:¬(st:Int)<(st:Int):=by omega
     obtain⟨en,hen⟩:∃en,en+st=mid+m:=⟨mid+m-st,by omega⟩
     have hEN:(mid:Int)+(m:Int)-(st:Int)=(en:Int):=by omega
     have hmm:mid+m=st+en:=by omega
     have hen1:m<=en:=by have:=Aa hway;omega
     have hen2:en<=b:=by omega
     have hen3:mid<=en:=by omega
     have MP:=Ab (Stab.merge_parts (show a<=st by omega) (show st<=m by omega) hen1 hen2 hmm (Aa HSL) (Aa HSR) (Aa HC))
     have CL:Hid (a<st->en<b->Stab.lx (d (st-1)) (d en)):=fun c1 c2=>by
      have h:=Aa HLO (by have:=Aa V2;have:=Aa hway;omega);rw[show mid+m-st=en by omega]at h;exact h
     have CR:Hid (st<m->m<en->Stab.lx (d (en-1)) (d st)):=fun c1 c2=>by
      have h:=Aa HHI (by have:=Aa V3;have:=Aa hway;omega);rw[show mid+m-1-st=en-1 by omega]at h;exact h
     have S0:Hid (CSt N bp bx bl ol ln lc l w wr d):=by rw[Aa HW];exact⟨(Aa HP).drewN q,Ge (Ap _ _) q,(Aa HX).drewN q⟩
     rw[Aa HMI];have ww:(st<m/\m<en/\a<st/\en<b/\st<mid/\mid<en)\/ (st<m/\m<en/\a<st/\en=b/\st<mid/\mid<en)\/ (st<m/\m<en/\st=a/\en<b/\st<mid/\mid<en)\/ (st<m/\m<en/\st=a/\en=b/\st<mid/\mid<en)\/ (st=m/\en=mid/\a<st/\st<mid)\/ (st=m/\en=mid/\a<st/\st=mid)\/ (st<m/\en=m/\st=mid/\a<st/\mid<en/\en<b):=by omega
     clear HLO HHI hen
     rcases ww with ww|ww|ww|ww|ww|ww|ww
     . have k1:(st:Int)<(m:Int):=by omega
       have k2:(m:Int)<(en:Int):=by omega
       have l1:(a:Int)<(st:Int):=by omega
       have l2:(st:Int)<(mid:Int):=by omega
       have n1:(mid:Int)<(en:Int):=by omega
       have n2:(en:Int)<(b:Int):=by omega
       have WW:=Ab ww;clear ww;go_wp2_with fail
       refine(Wg (CF bx) N bp cap l d st m en _ hN (by have:=Aa WW;omega) (by have:=Aa WW;omega) (by have:=Aa WW;omega) (Aa S0).ps).mono ?_;rintro e w1 ⟨rfl,p1,g1⟩;have S1:=Ab ((Aa S0).next p1 g1);clear p1 g1;go_wp2_with fail
       refine(Aa hIH (Stab.rot d st m en) a st mid _ (by have:=Aa WW;omega) (by have:=Aa WW;omega) (by have:=Aa WW;omega) (by have:=Aa WW;omega) (Aa S1).cx (Aa S1).ps (Aa MP).1.1 (Aa MP).1.2.1 (Aa MP).1.2.2).mono ?_;rintro e w2 ⟨rfl,d1,p2,m1,s1,g2⟩;have S2:=Ab ((Aa S1).next p2 g2);have MM1:=Ab m1;have SS1:=Ab s1;clear p2 g2 m1 s1;have MP2:=Ab (Hn (Aa MP) (Aa MM1) hen3);go_wp2_with fail
       refine(Aa hIH d1 mid en b _ (by have:=Aa WW;omega) (by have:=Aa WW;omega) (by have:=Aa WW;omega) (by have:=Aa WW;omega) (Aa S2).cx (Aa S2).ps (Aa MP2).1 (Aa MP2).2.1 (Aa MP2).2.2).mono ?_;rintro e w3 ⟨rfl,d2,p3,m2,s2,g3⟩;have S3:=Ab ((Aa S2).next p3 g3);have MM2:=Ab m2;have SS2:=Ab s2;clear p3 g3 m2 s2;have FIN:=Ab (Stab.merge_step Stab.lx_trans (by have:=Aa WW;omega) (by have:=Aa WW;omega) (by have:=Aa WW;omega) (by have:=Aa WW;omega) hmm (Aa HSL) (Aa HSR) (Aa CL) (Aa CR) (Aa MM1) (Aa SS1) (Aa MM2) (Aa SS2));go_wp2
       all_goals (go_end0;exact⟨rfl,d2,(Aa S3).ps,(Aa FIN).2,(Aa FIN).1,(Aa S3).grown⟩)
     . have k1:(st:Int)<(m:Int):=by omega
       have k2:(m:Int)<(en:Int):=by omega
       have l1:(a:Int)<(st:Int):=by omega
       have l2:(st:Int)<(mid:Int):=by omega
       have n1:(mid:Int)<(en:Int):=by omega
       have n2:¬(en:Int)<(b:Int):=by omega
       have WW:=Ab ww;clear ww;go_wp2_with fail
       refine(Wg (CF bx) N bp cap l d st m en _ hN (by have:=Aa WW;omega) (by have:=Aa WW;omega) (by have:=Aa WW;omega) (Aa S0).ps).mono ?_;rintro e w1 ⟨rfl,p1,g1⟩;have S1:=Ab ((Aa S0).next p1 g1);clear p1 g1;go_wp2_with fail
       refine(Aa hIH (Stab.rot d st m en) a st mid _ (by have:=Aa WW;omega) (by have:=Aa WW;omega) (by have:=Aa WW;omega) (by have:=Aa WW;omega) (Aa S1).cx (Aa S1).ps (Aa MP).1.1 (Aa MP).1.2.1 (Aa MP).1.2.2).mono ?_;rintro e w2 ⟨rfl,d1,p2,m1,s1,g2⟩;have S2:=Ab ((Aa S1).next p2 g2);have MM1:=Ab m1;have SS1:=Ab s1;clear p2 g2 m1 s1;have MP2:=Ab (Hn (Aa MP) (Aa MM1) hen3);have S3:=S2;obtain⟨d2,hd2⟩:∃d2,d2=d1:=⟨_,rfl⟩
       rw[<-hd2]at S3;have MM2:Hid (Stab.Moved mid b d1 d2):=by rw[hd2];exact Stab.Moved.refl _ _ _
       have SS2:Hid (Stab.Srt Stab.lx d2 mid b):=by rw[hd2];exact(Aa MP2).1.sub (VC _) (by have:=Aa WW;omega)
       clear hd2;have FIN:=Ab (Stab.merge_step Stab.lx_trans (by have:=Aa WW;omega) (by have:=Aa WW;omega) (by have:=Aa WW;omega) (by have:=Aa WW;omega) hmm (Aa HSL) (Aa HSR) (Aa CL) (Aa CR) (Aa MM1) (Aa SS1) (Aa MM2) (Aa SS2));go_wp2
       all_goals (go_end0;exact⟨rfl,d2,(Aa S3).ps,(Aa FIN).2,(Aa FIN).1,(Aa S3).grown⟩)
     . have k1:(st:Int)<(m:Int):=by omega
       have k2:(m:Int)<(en:Int):=by omega
       have l1:¬(a:Int)<(st:Int):=by omega
       have n1:(mid:Int)<(en:Int):=by omega
       have n2:(en:Int)<(b:Int):=by omega
       have WW:=Ab ww;clear ww;go_wp2_with fail
       refine(Wg (CF bx) N bp cap l d st m en _ hN (by have:=Aa WW;omega) (by have:=Aa WW;omega) (by have:=Aa WW;omega) (Aa S0).ps).mono ?_;rintro e w1 ⟨rfl,p1,g1⟩;have S1:=Ab ((Aa S0).next p1 g1);clear p1 g1;have S2:=S1;obtain⟨d1,hd1⟩:∃d1,d1=Stab.rot d st m en:=⟨_,rfl⟩
       rw[<-hd1]at S2;have MM1:Hid (Stab.Moved a mid (Stab.rot d st m en) d1):=by rw[hd1];exact Stab.Moved.refl _ _ _
       have SS1:Hid (Stab.Srt Stab.lx d1 a mid):=by rw[hd1];exact(Aa MP).1.2.1.sub (by have:=Aa WW;omega) (VC _)
       clear hd1;have MP2:=Ab (Hn (Aa MP) (Aa MM1) hen3);go_wp2_with fail
       refine(Aa hIH d1 mid en b _ (by have:=Aa WW;omega) (by have:=Aa WW;omega) (by have:=Aa WW;omega) (by have:=Aa WW;omega) (Aa S2).cx (Aa S2).ps (Aa MP2).1 (Aa MP2).2.1 (Aa MP2).2.2).mono ?_;rintro e w3 ⟨rfl,d2,p3,m2,s2,g3⟩;have S3:=Ab ((Aa S2).next p3 g3);have MM2:=Ab m2;have SS2:=Ab s2;clear p3 g3 m2 s2;have FIN:=Ab (Stab.merge_step Stab.lx_trans (by have:=Aa WW;omega) (by have:=Aa WW;omega) (by have:=Aa WW;omega) (by have:=Aa WW;omega) hmm (Aa HSL) (Aa HSR) (Aa CL) (Aa CR) (Aa MM1) (Aa SS1) (Aa MM2) (Aa SS2));go_wp2
       all_goals (go_end0;exact⟨rfl,d2,(Aa S3).ps,(Aa FIN).2,(Aa FIN).1,(Aa S3).grown⟩)
     . have k1:(st:Int)<(m:Int):=by omega
       have k2:(m:Int)<(en:Int):=by omega
       have l1:¬(a:Int)<(st:Int):=by omega
       have n1:(mid:Int)<(en:Int):=by omega
       have n2:¬(en:Int)<(b:Int):=by omega
       have WW:=Ab ww;clear ww;go_wp2_with fail
       refine(Wg (CF bx) N bp cap l d st m en _ hN (by have:=Aa WW;omega) (by have:=Aa WW;omega) (by have:=Aa WW;omega) (Aa S0).ps).mono ?_;rintro e w1 ⟨rfl,p1,g1⟩;have S1:=Ab ((Aa S0).next p1 g1);clear p1 g1;have S2:=S1;obtain⟨d1,hd1⟩:∃d1,d1=Stab.rot d st m en:=⟨_,rfl⟩
       rw[<-hd1]at S2;have MM1:Hid (Stab.Moved a mid (Stab.rot d st m en) d1):=by rw[hd1];exact Stab.Moved.refl _ _ _
       have SS1:Hid (Stab.Srt Stab.lx d1 a mid):=by rw[hd1];exact(Aa MP).1.2.1.sub (by have:=Aa WW;omega) (VC _)
       clear hd1;have MP2:=Ab (Hn (Aa MP) (Aa MM1) hen3);have S3:=S2;obtain⟨d2,hd2⟩:∃d2,d2=d1:=⟨_,rfl⟩
       rw[<-hd2]at S3;have MM2:Hid (Stab.Moved mid b d1 d2):=by rw[hd2];exact Stab.Moved.refl _ _ _
       have SS2:Hid (Stab.Srt Stab.lx d2 mid b):=by rw[hd2];exact(Aa MP2).1.sub (VC _) (by have:=Aa WW;omega)
       clear hd2;have FIN:=Ab (Stab.merge_step Stab.lx_trans (by have:=Aa WW;omega) (by have:=Aa WW;omega) (by have:=Aa WW;omega) (by have:=Aa WW;omega) hmm (Aa HSL) (Aa HSR) (Aa CL) (Aa CR) (Aa MM1) (Aa SS1) (Aa MM2) (Aa SS2));go_wp2
       all_goals (go_end0;exact⟨rfl,d2,(Aa S3).ps,(Aa FIN).2,(Aa FIN).1,(Aa S3).grown⟩)
     . have k1:¬(st:Int)<(m:Int):=by omega
       have l1:(a:Int)<(st:Int):=by omega
       have l2:(st:Int)<(mid:Int):=by omega
       have n1:¬(mid:Int)<(en:Int):=by omega
       have WW:=Ab ww;clear ww;have S1:Hid (CSt N bp bx bl ol ln lc l w wr (Stab.rot d st m en)):=by rw[show Stab.rot d st m en=d from by rw[show st=m by have:=Aa WW;omega];exact Stab.rot_left d m en];exact Aa S0
       go_wp2_with fail
       refine(Aa hIH (Stab.rot d st m en) a st mid _ (by have:=Aa WW;omega) (by have:=Aa WW;omega) (by have:=Aa WW;omega) (by have:=Aa WW;omega) (Aa S1).cx (Aa S1).ps (Aa MP).1.1 (Aa MP).1.2.1 (Aa MP).1.2.2).mono ?_;rintro e w2 ⟨rfl,d1,p2,m1,s1,g2⟩;have S2:=Ab ((Aa S1).next p2 g2);have MM1:=Ab m1;have SS1:=Ab s1;clear p2 g2 m1 s1;have MP2:=Ab (Hn (Aa MP) (Aa MM1) hen3);have S3:=S2;obtain⟨d2,hd2⟩:∃d2,d2=d1:=⟨_,rfl⟩
       rw[<-hd2]at S3;have MM2:Hid (Stab.Moved mid b d1 d2):=by rw[hd2];exact Stab.Moved.refl _ _ _
       have SS2:Hid (Stab.Srt Stab.lx d2 mid b):=by rw[hd2];exact(Aa MP2).2.1.sub (by have:=Aa WW;omega) (VC _)
       clear hd2;have FIN:=Ab (Stab.merge_step Stab.lx_trans (by have:=Aa WW;omega) (by have:=Aa WW;omega) (by have:=Aa WW;omega) (by have:=Aa WW;omega) hmm (Aa HSL) (Aa HSR) (Aa CL) (Aa CR) (Aa MM1) (Aa SS1) (Aa MM2) (Aa SS2));go_wp2
       all_goals (go_end0;exact⟨rfl,d2,(Aa S3).ps,(Aa FIN).2,(Aa FIN).1,(Aa S3).grown⟩)
     . have k1:¬(st:Int)<(m:Int):=by omega
       have l1:(a:Int)<(st:Int):=by omega
       have l2:¬(st:Int)<(mid:Int):=by omega
       have n1:¬(mid:Int)<(en:Int):=by omega
       have WW:=Ab ww;clear ww;have S1:Hid (CSt N bp bx bl ol ln lc l w wr (Stab.rot d st m en)):=by rw[show Stab.rot d st m en=d from by rw[show st=m by have:=Aa WW;omega];exact Stab.rot_left d m en];exact Aa S0
       have S2:=S1;obtain⟨d1,hd1⟩:∃d1,d1=Stab.rot d st m en:=⟨_,rfl⟩
       rw[<-hd1]at S2;have MM1:Hid (Stab.Moved a mid (Stab.rot d st m en) d1):=by rw[hd1];exact Stab.Moved.refl _ _ _
       have SS1:Hid (Stab.Srt Stab.lx d1 a mid):=by rw[hd1];exact(Aa MP).1.1.sub (VC _) (by have:=Aa WW;omega)
       clear hd1;have MP2:=Ab (Hn (Aa MP) (Aa MM1) hen3);have S3:=S2;obtain⟨d2,hd2⟩:∃d2,d2=d1:=⟨_,rfl⟩
       rw[<-hd2]at S3;have MM2:Hid (Stab.Moved mid b d1 d2):=by rw[hd2];exact Stab.Moved.refl _ _ _
       have SS2:Hid (Stab.Srt Stab.lx d2 mid b):=by rw[hd2];exact(Aa MP2).2.1.sub (by have:=Aa WW;omega) (VC _)
       clear hd2;have FIN:=Ab (Stab.merge_step Stab.lx_trans (by have:=Aa WW;omega) (by have:=Aa WW;omega) (by have:=Aa WW;omega) (by have:=Aa WW;omega) hmm (Aa HSL) (Aa HSR) (Aa CL) (Aa CR) (Aa MM1) (Aa SS1) (Aa MM2) (Aa SS2));go_wp2
       all_goals (go_end0;exact⟨rfl,d2,(Aa S3).ps,(Aa FIN).2,(Aa FIN).1,(Aa S3).grown⟩)
     . have k1:(st:Int)<(m:Int):=by omega
       have k2:¬(m:Int)<(en:Int):=by omega
       have l1:(a:Int)<(st:Int):=by omega
       have l2:¬(st:Int)<(mid:Int):=by omega
       have n1:(mid:Int)<(en:Int):=by omega
       have n2:(en:Int)<(b:Int):=by omega
       have WW:=Ab ww;clear ww;have S1:Hid (CSt N bp bx bl ol ln lc l w wr (Stab.rot d st m en)):=by rw[show Stab.rot d st m en=d from by rw[show en=m by have:=Aa WW;omega];exact Stab.rot_right d st m];exact Aa S0
       have S2:=S1;obtain⟨d1,hd1⟩:∃d1,d1=Stab.rot d st m en:=⟨_,rfl⟩
       rw[<-hd1]at S2;have MM1:Hid (Stab.Moved a mid (Stab.rot d st m en) d1):=by rw[hd1];exact Stab.Moved.refl _ _ _
       have SS1:Hid (Stab.Srt Stab.lx d1 a mid):=by rw[hd1];exact(Aa MP).1.1.sub (VC _) (by have:=Aa WW;omega)
       clear hd1;have MP2:=Ab (Hn (Aa MP) (Aa MM1) hen3);go_wp2_with fail
       refine(Aa hIH d1 mid en b _ (by have:=Aa WW;omega) (by have:=Aa WW;omega) (by have:=Aa WW;omega) (by have:=Aa WW;omega) (Aa S2).cx (Aa S2).ps (Aa MP2).1 (Aa MP2).2.1 (Aa MP2).2.2).mono ?_;rintro e w3 ⟨rfl,d2,p3,m2,s2,g3⟩;have S3:=Ab ((Aa S2).next p3 g3);have MM2:=Ab m2;have SS2:=Ab s2;clear p3 g3 m2 s2;have FIN:=Ab (Stab.merge_step Stab.lx_trans (by have:=Aa WW;omega) (by have:=Aa WW;omega) (by have:=Aa WW;omega) (by have:=Aa WW;omega) hmm (Aa HSL) (Aa HSR) (Aa CL) (Aa CR) (Aa MM1) (Aa SS1) (Aa MM2) (Aa SS2));go_wp2
       all_goals (go_end0;exact⟨rfl,d2,(Aa S3).ps,(Aa FIN).2,(Aa FIN).1,(Aa S3).grown⟩)
def CutAt (d:Nat->Int×Int)(n c:Nat):Prop:=∀i j,i<c->c<=j->j<n->(d i).2<(d j).2
theorem CutAt.moved {d d':Nat->Int×Int}{n c p q:Nat}(h:CutAt d n c)(hm:Stab.Moved p q d d')(hq:q<=n)(hc:c<=p\/q<=c):CutAt d' n c:=by
 intro i j hi hj hn
 have hi':∃i',i'<c/\d i'=d' i:=by
  by_cases e:p<=i/\i<q
  . obtain⟨k,k1,k2,k3⟩:=hm.mem e.1 e.2;exact⟨k,by omega,k3⟩
  . exact⟨i,hi,(hm.out i (by omega)).symm⟩
 have hj':∃j',c<=j'/\j'<n/\d j'=d' j:=by
  by_cases e:p<=j/\j<q
  . obtain⟨k,k1,k2,k3⟩:=hm.mem e.1 e.2;exact⟨k,by omega,by omega,k3⟩
  . exact⟨j,hj,hn,(hm.out j (by omega)).symm⟩
 obtain⟨i',h1,h2⟩:=hi';obtain⟨j',h3,h4,h5⟩:=hj';rw[<-h2,<-h5];exact h i' j' h1 h3 h4
def Z63 (d:Nat->Int×Int)(a b:Nat):Prop:=∀i j,a<=i->i<j->j<b->(d i).2<(d j).2
def Sn (d:Nat->Int×Int)(n B:Nat):Prop:=∀s,Stab.Srt Stab.lx d (s*B) (min (s*B+B) n)
def Cuts (d:Nat->Int×Int)(n B:Nat):Prop:=∀s,CutAt d n (s*B)
structure Part (d dk:Nat->Int×Int)(n X t:Nat):Prop where
 srt:∀s,s<t->Stab.Srt Stab.lx d (s*X) (s*X+X)
 rest:∀k,t*X<=k->d k=dk k
 cuts:Cuts d n X
theorem CK {s t:Nat}(X:Nat)(h:s<t):s*X+X<=t*X:=by
 have:=YQ X (show s+1<=t from h)
 rwa [ZB]at this
theorem Z60 {s t:Nat}(X:Nat)(h:s<=t):s*X<=t*X:=YQ X h
theorem CC (s t X n:Nat):s*X<=t*X\/t*X+X<=s*X:=by
 by_cases h:s<=t
 . exact .inl (Z60 X h)
 . exact .inr (CK X (by omega))
theorem Part.step {d dk d':Nat->Int×Int}{n X t:Nat}(h:Part d dk n X t)(hn:t*X+X<=n)(hm:Stab.Moved (t*X) (t*X+X) d d')(hs:Stab.Srt Stab.lx d' (t*X) (t*X+X)):Part d' dk n X (t+1):=by
 refine⟨fun s hst=> ?_,fun k hk=> ?_,fun s=>(h.cuts s).moved hm hn (CC s t X n)⟩
 . by_cases e:s=t
   . subst e;exact hs
   . have:=CK X (show s<t by omega)
     exact(h.srt s (by omega)).congr (fun k h1 h2=>hm.out k (by omega))
 . rw[ZB]at hk;rw[hm.out k (by omega)];exact h.rest k (by omega)
theorem Part.last {d dk d':Nat->Int×Int}{n X t:Nat}(h:Part d dk n X t)(h1:t*X<=n)(h2:n<=t*X+X)(hm:Stab.Moved (t*X) n d d')(hs:Stab.Srt Stab.lx d' (t*X) n):Sn d' n X/\Cuts d' n X:=by
 refine⟨fun s=> ?_,fun s=> ?_⟩
 . rcases Nat.lt_trichotomy s t with e|e|e
   . have:=CK X e
     rw[YC (by omega)];exact(h.srt s e).congr (fun k h1 h2=>hm.out k (by omega))
   . subst e;rw[Nat.min_eq_right h2];exact hs
   . have:=CK X e
     intro i j hi hij hj;have:j<n:=VK hj (Nat.min_le_right _ _)
     omega
 . rcases CC s t X n with e|e
   . exact(h.cuts s).moved hm (VC _) (.inl e)
   . exact(h.cuts s).moved hm (VC _) (.inr (by omega))
theorem Z1 {d dk:Nat->Int×Int}{n B t e:Nat}(hb:Sn dk n B)(hc:Cuts dk n B)(hr:∀k,t*(2*B)<=k->d k=dk k)(h1:t*(2*B)+B<e)(h2:e<=t*(2*B)+2*B)(h3:e<=n)(h4:e=n\/e=t*(2*B)+2*B):
 Stab.Srt Stab.lx d (t*(2*B)) (t*(2*B)+B)/\Stab.Srt Stab.lx d (t*(2*B)+B) e/\Stab.Cross d (t*(2*B)) (t*(2*B)+B) e:=by
 have e1:(2*t)*B=t*(2*B):=by rw[YH 2 t,YG]
 have e2:(2*t+1)*B=t*(2*B)+B:=by rw[ZB,e1]
 have b1:=hb (2*t);have b2:=hb (2*t+1);have c:=hc (2*t+1);rw[e1,YC (by omega)]at b1;rw[e2]at b2 c;generalize t*(2*B)=a at*;refine⟨b1.congr (fun k h _=>hr k h), ?_,fun i j hi hi2 hj hj2=> ?_⟩
 . refine Stab.Srt.congr (d:=dk) (b2.sub (VC _) ?_) (fun k h _=>hr k (by omega))
   rcases h4 with rfl|rfl
   . exact Nat.le_min.2 ⟨by omega,VC _⟩
   . exact Nat.le_min.2 ⟨by omega,h3⟩
 . rw[hr i hi,hr j (by omega)];exact c i j hi2 hj (by omega)
theorem Z2s {d dk:Nat->Int×Int}{n B t:Nat}(hb:Sn dk n B)(hr:∀k,t*(2*B)<=k->d k=dk k)(h:n<=t*(2*B)+B):Stab.Srt Stab.lx d (t*(2*B)) n:=by
 have e1:(2*t)*B=t*(2*B):=by rw[YH 2 t,YG]
 have b1:=hb (2*t);rw[e1,Nat.min_eq_right h]at b1;exact b1.congr (fun k h _=>hr k h)
theorem Cuts.double {d:Nat->Int×Int}{n B:Nat}(h:Cuts d n B):Cuts d n (2*B):=fun s=>by
 have e:s*(2*B)=(2*s)*B:=by rw[YH 2 s,YG]
 rw[e];exact h (2*s)
theorem Mw (N bp cap bx bl ol ln lc:Nat)(l:List Int)(hN:N<=288):∀L,Z1g N bp cap bx bl ol ln lc l L
 |0=>fun d a m b w hL ham hmb _ _ _ _ _ _=>by omega
 |L+1=>fun d a m b w hL ham hmb hb hX hP sL sR hc=>by
  by_cases h1:m=a+1
  . exact EE N bp cap bx bl ol ln lc l d a m b w (Ab h1) hN hmb hb hX hP sR hc
  . by_cases h2:b=m+1
    . exact S7 N bp cap bx bl ol ln lc l d a m b w (Ab h2) hN (by omega) hmb hb hX hP sL hc
    . by_cases h3:(a+b)/2<m
      . exact Qy N bp cap bx bl ol ln lc l L (Ab (Mw N bp cap bx bl ol ln lc l hN L)) d a m b ((a+b)/2) ((a+b)/2+m-b) ((a+b)/2) w hN (by omega) (by omega) (by omega) hb (Ab rfl) (Ab (.inl ⟨h3,by omega,rfl⟩)) hX hP sL sR hc
      . exact Qy N bp cap bx bl ol ln lc l L (Ab (Mw N bp cap bx bl ol ln lc l hN L)) d a m b ((a+b)/2) a m w hN (by omega) (by omega) (by omega) hb (Ab rfl) (Ab (.inr ⟨by omega,rfl,rfl⟩)) hX hP sL sR hc
set_option maxRecDepth 100000 in
theorem Un (N bp cap bx bl ol ln lc:Nat)(l:List Int)(d:Nat->Int×Int)(a b:Nat)(w:World)(hN:N<=288)(hab:a<=b)(hb:b<=N)(hX:Cx bp bx bl ol ln lc l w)(hP:PC N bp l d w)(hr:Z63 d a b):
 Calls Tryz.prog 292 #[.slice (some ⟨bp,0,none⟩) N cap,.int .i64 a,.int .i64 b,CF bx] w fun e w'=>e=.returned (.tuple #[])/\∃d',PC N bp l d' w'/\Stab.Moved a b d d'/\Stab.Srt Stab.lx d' a b/\w.grownBy w' (some bp):=by
 have S0:Hid (CSt N bp bx bl ol ln lc l w w d):=⟨hP,Ap _ _,hX⟩
 have HR:=Ab hr;clear hP hX hr;go_enter Tryz.func292,Tryz.ntmps292
 go_wp2;go_loopw [8] (fun vi wr=>∃(i:Nat) (di:Nat->Int×Int),a<i/\(i<=b\/ (i=a+1/\di=d))/\vi=.int .i64 i/\CSt N bp bx bl ol ln lc l w wr di/\Stab.Moved a i d di/\Stab.Srt Stab.lx di a i) (fun vi _=>b+2-(intOf vi).toNat)
 case atStart=>exact⟨a+1,d,by omega,.inr ⟨rfl,rfl⟩,by go_num,Aa S0,Stab.Moved.refl _ _ _,fun i j h1 h2 h3=>by omega⟩
 case round=>
  obtain⟨i,di,hai,hib,rfl,hS,hM,hs⟩:=hrel;have HS:=Ab hS;have HM:=Ab hM;have HSr:=Ab hs
  by_cases hlt:i<b
  . have HCr:Hid (∀k,a<=k->k<i->(di k).2<(di i).2):=fun k h1 h2=>by
     obtain⟨k',e1,e2,e3⟩:=hM.mem h1 h2;rw[hM.out i (by omega),<-e3];exact Aa HR k' i e1 e2 hlt
    clear hib hS hM hs S0;go_wp2;go_loopw [9] (fun vj wr=>∃j:Nat,a<=j/\j<=i/\vj=.int .i64 j/\CSt N bp bx bl ol ln lc l w wr (Stab.rot di j i (i+1))/\(j<i->Stab.lx (di i) (di j))) (fun vj _=>(intOf vj).toNat)
    case atStart=>exact⟨i,by omega,VC _,rfl,by rw[Stab.rot_left];exact Aa HS,fun h=>by omega⟩
    case round=>
     obtain⟨j,haj,hji,rfl,hS,hlo⟩:=hrel;have HS2:=Ab hS;have HLO:=Ab hlo
     have hE:((a<j->Stab.lx (di (j-1)) (di i))->Hid (Stab.Moved a (i+1) d (Stab.rot di j i (i+1))/\Stab.Srt Stab.lx (Stab.rot di j i (i+1)) a (i+1))):=fun hl=>
      Ab ⟨((Aa HM).wider (VC _) (by omega) (by omega)).trans ((Stab.moved_rot di j i (i+1) hji (by omega)).wider haj (by omega) (VC _)),Stab.ins_last haj hji (Aa HSr) hl (Aa HLO)⟩
     clear hS hlo
     by_cases hja:a<j
     . obtain⟨t,rfl⟩:∃t,j=t+1:=⟨j-1,by omega⟩
       rw[XW]at hE
       have eD1:Stab.rot di (t+1) i (i+1) (t+1)=di i:=by
        unfold Stab.rot;rw[if_pos (by omega)]
        congr 1;omega
       have eD2:Stab.rot di (t+1) i (i+1) t=di t:=by
        unfold Stab.rot;rw[if_neg (by omega),if_neg (by omega)]
       have HX:=Ab (Stab.cross_less (Aa HCr t (by omega) (by omega)));have HRD0:=Stab.rot_down di (t+1) i (by omega) hji;rw[XW]at HRD0;have HRD:=Ab HRD0;have HE:=Ab hE;have hCmp:=fun n=>CE (Aa HS2).ps (Aa HS2).cx (t+1) t (by omega) (by omega) n
       rw[eD1,eD2]at hCmp;have CM:=Ab hCmp;have c1:=((Aa HS2).ps (t+1) (by omega)).1.1;have f1:=((Aa HS2).ps (t+1) (by omega)).1.2;have c2:=((Aa HS2).ps t (by omega)).1.1;have f2:=((Aa HS2).ps t (by omega)).1.2;have HSW:=Ab (fun n=>PC.sw ((Aa HS2).ps.drewN n) (t+1) t (by omega) (by omega));have HC2:=Ab (fun n=>PC.c2 ((Aa HS2).ps.drewN n) (t+1) t (by omega) (by omega) (.int .i64 (di t).2));rw[eD1]at c1 HSW;rw[eD2]at c2 HSW;clear eD1 eD2 hE HRD0 hCmp;generalize Stab.rot di (t+1) i (i+1)=D at*;obtain⟨s,hs⟩:∃s,s=t+1:=⟨_,rfl⟩
       have HT:=Ab hs;rw[<-hs]at c1 f1 HSW HC2;generalize (di i).2=x at*;generalize (di t).2=y at*;have hja2:(a:Int)<(t:Int)+1:=by omega
       have hjb:decide ((t:Int)+1>(a:Int))=true:=decide_eq_true (by omega);have ea:((t:Int)+1).toNat=s:=by omega
       have pa:(0:Int)<=(t:Int)+1:=by omega
       have ba:(t:Int)+1<(N:Int):=by omega
       have bc:(t:Int)<(N:Int):=by omega
       have rc:IntKind.i64.wrap (t:Int)=(t:Int):=by rw[IntKind.wrap_i64];omega
       clear hs;go_wp2_with fail
       go_quiet ((go_at_call 284;refine Calls.quiet_of (Aa CM _)))
       rw[Xv]
       cases hd:decide ((di i).1<(di t).1)with
       |true=>
        have HX2:=Ab ((Aa HX).1 hd)
        have HS3:Hid (CSt N bp bx bl ol ln lc l w (swC (wr.drewN nq) bp x y s t).drew (Stab.rot di t i (i+1))):=by
         have h1:=(Aa HSW) nq;rw[Aa HT,Aa HRD,<-Aa HT]at h1;exact(Aa HS2).next h1 (Bp (Aj (Ge (Ap wr (some bp)) nq) (Ls (wr.drewN nq) bp x y s t)))
        obtain⟨u,c3⟩:=(Aa HC2) nq;have c1':(wr.drewN nq).cell? ⟨bp,s,none⟩=some (.int .i64 x):=c1;have c2':(wr.drewN nq).cell? ⟨bp,t,none⟩=some (.int .i64 y):=c2;have f1':(wr.drewN nq).frozen? ⟨bp,s,none⟩=false:=f1;have f2':(wr.drewN nq).frozen? ⟨bp,t,none⟩=false:=f2;unfold swC at HS3;clear hd HSW HX HE HRD HC2 CM c1 c2 f1 f2;generalize wr.drewN nq=wq at*;go_wp2_with fail
        go_big_region
        clear c1' c2' f1' f2' c3;go_wp2;go_roundw
        case rel=>exact⟨t,by omega,by omega,by go_num,Aa HS3,fun _=>Aa HX2⟩
        case measure=>simp[intOf]
       |false=>
        have HF:=Aa HE (fun _=>(Aa HX).2 hd);have HS3:Hid (CSt N bp bx bl ol ln lc l w (wr.drewN nq) D):=(Aa HS2).next ((Aa HS2).ps.drewN nq) (Ge (Ap _ _) nq);clear hd HX HE HRD HSW HC2 CM c1 c2 f1 f2;go_wp2;go_roundw
        case rel=>exact⟨i+1,D,by omega,.inl (by omega),by go_num,Aa HS3,(Aa HF).1,(Aa HF).2⟩
        case measure=>simp[intOf];omega
     . have hjaI:¬(a:Int)<(j:Int):=by omega
       have hjb:decide ((j:Int)>(a:Int))=false:=decide_eq_false (by omega);have HF:=hE (fun h=>by omega);clear hE;generalize Stab.rot di j i (i+1)=D at*;have HS3:Hid (CSt N bp bx bl ol ln lc l w wr.drew D):=(Aa HS2).next ((Aa HS2).ps.drewN 1) (Bp (Ap _ _));go_wp2_with fail
       go_big_region
       all_goals go_wp2
       go_roundw
       case rel=>exact⟨i+1,D,by omega,.inl (by omega),by go_num,Aa HS3,(Aa HF).1,(Aa HF).2⟩
       case measure=>simp[intOf];omega
  . have HF:Hid (Stab.Moved a b d di/\Stab.Srt Stab.lx di a b):=by
     rcases hib with h1|⟨h1,h2⟩
     . have e:i=b:=by omega
       rw[<-e];exact⟨hM,hs⟩
     . rw[h2];exact⟨Stab.Moved.refl _ _ _,fun i j h1 h2 h3=>by omega⟩
    clear hib hS hM hs S0;go_wp2;go_end0
    exact⟨rfl,di,(Aa HS).ps,(Aa HF).1,(Aa HF).2,(Aa HS).grown⟩
end Go.Proofs.YtieianhejdcgdaaGreatDoor
