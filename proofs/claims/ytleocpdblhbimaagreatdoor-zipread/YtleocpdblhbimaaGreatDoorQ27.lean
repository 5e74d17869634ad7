import Derived.Test.YtleocpdblhbimaaGreatDoorQ26
set_option linter.unusedSimpArgs false
set_option maxHeartbeats 8000000
namespace Go.Proofs.YtleocpdblhbimaaGreatDoor
open Go.RowKit
set_option linter.unusedVariables false
def Z32 (N bp cap bx bl ol ln lc:Nat)(l:List Int)(L:Nat):Prop:=∀(d:Nat->Int×Int) (a m b:Nat) (w:World),b-a<=L->a<m->m<b->b<=N->Cx bp bx bl ol ln lc l w->
 PC N bp l d w->Stab.Srt Stab.lx d a m->Stab.Srt Stab.lx d m b->Stab.Cross d a m b->
 Calls Tryz.prog 285 #[.slice (some ⟨bp,0,none⟩) N cap,.int .i64 a,.int .i64 m,.int .i64 b,CF bx] w fun e w'=>e=.returned (.tuple #[])/\∃d',PC N bp l d' w'/\Stab.Moved a b d d'/\Stab.Srt Stab.lx d' a b/\w.grownBy w' (some bp)
structure CSt (N bp bx bl ol ln lc:Nat)(l:List Int)(w W:World)(D:Nat->Int×Int):Prop where
 ps:PC N bp l D W
 grown:w.grownBy W (some bp)
 cx:Cx bp bx bl ol ln lc l W
theorem CSt.next {N E H T I O G:Nat}{l:List Int}{w W W':World}{U M:Nat->Int×Int}(s:CSt N E H T I O G l w W U)(p:PC N E l M W')(F:W.grownBy W' (some E)):CSt N E H T I O G l w W' M:=
 ⟨p,Aj s.grown F,s.cx.grown F⟩
theorem Hy {G H:Nat->Int×Int}{a st E F b:Nat}(I:(Stab.Srt Stab.lx G a st/\Stab.Srt Stab.lx G st E/\Stab.Cross G a st E)/\(Stab.Srt Stab.lx G E F/\Stab.Srt Stab.lx G F b/\Stab.Cross G E F b))(M:Stab.Moved a E G H)(T:E<=F):
 Stab.Srt Stab.lx H E F/\Stab.Srt Stab.lx H F b/\Stab.Cross H E F b:=
 ⟨I.2.1.congr (fun k O _=>M.out k (by omega)),I.2.2.1.congr (fun k O _=>M.out k (by omega)),I.2.2.2.congr (fun k O _=>M.out k (by omega))⟩
set_option maxRecDepth 100000 in
theorem Rg (N ah bb al a5 a4 a7 ba:Nat)(l:List Int)(L:Nat)(bc:Hid (Z32 N ah bb al a5 a4 a7 ba l L))(d:Nat->Int×Int)(a m b H aw a3:Nat)(w:World)(bh:N<=288)(dp:b-a<=L+1)(dv:a+1<m)(de:m+1<b)(dt:b<=N)
 (cq:Hid (H=(a+b)/2)) (bf:Hid ((H<m/\aw+b=H+m/\a3=H)\/ (m<=H/\aw=a/\a3=m))) (ci:Cx ah al a5 a4 a7 ba l w)
 (b7:PC N ah l d w) (cp:Stab.Srt Stab.lx d a m) (ct:Stab.Srt Stab.lx d m b) (b4:Stab.Cross d a m b):
 Calls Tryz.prog 285 #[.slice (some ⟨ah,0,none⟩) N bb,.int .i64 a,.int .i64 m,.int .i64 b,CF al] w fun e w'=>e=.returned (.tuple #[])/\∃d',PC N ah l d' w'/\Stab.Moved a b d d'/\Stab.Srt Stab.lx d' a b/\w.grownBy w' (some ah):=by
 have co:=Ab b7;have a1:=Ab cp;have a2:=Ab ct;have b3:=Ab b4;have ce:=Ab ci;have dd:((m:Int)-(a:Int)==1)=false:=by rw[beq_eq_false_iff_ne];omega
 have dq:((b:Int)-(m:Int)==1)=false:=by rw[beq_eq_false_iff_ne];omega
 have bk:a<=aw/\aw<=a3/\a3<=m/\a3<=H/\a<H/\H<b/\H+m<=aw+b:=by have:=Aa cq;have:=Aa bf;omega
 obtain⟨dl,cv,dc,di,dr,dy,dn⟩:=bk;have cn:((a:Int)+(b:Int))/2=(H:Int):=by have:=Aa cq;omega
 have au:=Ab cn;clear b7 cp ct b4 ci cn
 rcases Aa bf with ⟨cu,bq,bz⟩|⟨cu,bq,bz⟩
 case' inl=>have cy:((a:Int)+(b:Int))/2<(m:Int):=by rw[Aa au];omega
 case' inr=>have cy:¬((a:Int)+(b:Int))/2<(m:Int):=by rw[Aa au];omega
 all_goals
  have cd:=Ab bq;have cj:=Ab bz;clear bq bz;go_enter Tryz.func285,Tryz.ntmps285
  go_wp2;go_loopw [20,21,23] (fun bu bo dm wr=>∃st r q:Nat,aw<=st/\st<=r/\r<=a3/\bu=.int .i64 st/\bo=.int .i64 r/\(aw<st->Stab.lx (d (st-1)) (d (H+m-st)))/\(r<a3->Stab.lx (d (H+m-1-r)) (d r))/\wr=w.drewN q) (fun bu bo _ _=>(intOf bo).toNat-(intOf bu).toNat)
  case atStart=>exact⟨aw,a3,0,VB _,cv,VB _,congrArg (Value.int .i64) (by have:=Aa cd;have:=Aa au;omega),congrArg (Value.int .i64) (by have:=Aa cj;have:=Aa au;omega),fun h=>by omega,fun h=>by omega,rfl⟩
  case round=>
   obtain⟨st,r,q,c9,dh,cz,rfl,rfl,bk,b5,cg⟩:=hrel;have bd:=Ab cg;have bw:=Ab bk;have bv:=Ab b5;clear bk b5 cg
   by_cases ds:st<r
   . obtain⟨c,c6⟩:∃c,c=(st+r)/2:=⟨_,rfl⟩
     have da:st<=c:=by omega
     have du:c<r:=by omega
     have E:Hid (((st:Int)+(r:Int))/2=(c:Int)):=by unfold Hid;omega
     obtain⟨f,b8⟩:∃f,f=H+m-1-c:=⟨_,rfl⟩
     have dj:(((a:Int)+(b:Int))/2+(m:Int)-1-(c:Int)).toNat=f:=by have:=Aa au;omega
     have ar:(0:Int)<=((a:Int)+(b:Int))/2+(m:Int)-1-(c:Int):=by have:=Aa au;omega
     have b2:((a:Int)+(b:Int))/2+(m:Int)-1-(c:Int)<(N:Int):=by have:=Aa au;omega
     have r2:IntKind.i64.wrap (((a:Int)+(b:Int))/2+(m:Int)-1-(c:Int))=((a:Int)+(b:Int))/2+(m:Int)-1-(c:Int):=by rw[IntKind.wrap_i64];have:=Aa au;omega
     have bm:=Ab (Stab.cross_less (Aa b3 c f (by omega) (by omega) (by omega) (by omega)));have bg:PC N ah l d wr:=by rw[Aa bd];exact(Aa co).drewN q
     have cm:Cx ah al a5 a4 a7 ba l wr:=by rw[Aa bd];exact(Aa ce).drewN q
     have b0:=fun n=>DN bg cm f c (by omega) (by omega) n
     have cc:=(bg c (by omega)).1.1;have ca:=(bg f (by omega)).1.1;generalize (d c).2=y at*;generalize (d f).2=z at*;have cw:=Ab b0;have ck:=Ab b8;have dw:(c:Int)<(N:Int):=by omega
     clear c6 bg cm b0 b8;go_wp2_with fail
     rw[Aa E];go_wp2_with fail
     go_quiet ((go_at_call 276;refine Calls.quiet_of (Aa cw _)))
     rw[Yq]
     cases bj:decide ((d f).1<(d c).1)with
     |true=>
      have bi:=Ab ((Aa bm).1 bj);rw[Aa ck]at bi;clear bm bj;go_wp2;go_roundw
      case rel=>exact⟨st,c,_,c9,da,by omega,rfl,rfl,Aa bw,fun _=>Aa bi,by rw[Aa bd,World.drewN_drewN]⟩
      case measure=>simp[intOf];omega
     |false=>
      have bi:=Ab ((Aa bm).2 bj);have db:Hid (H+m-(c+1)=f):=by have:=Aa ck;unfold Hid;omega
      clear bm bj;go_wp2;go_roundw
      case rel=>exact⟨c+1,r,_,by omega,by omega,cz,by go_num,rfl,fun _=>by rw[Aa db];exact Aa bi,Aa bv,by rw[Aa bd,World.drewN_drewN]⟩
      case measure=>simp[intOf];omega
   . obtain rfl:st=r:=by omega
     have df:¬(st:Int)<(st:Int):=by omega
     obtain⟨G,c7⟩:∃G,G+st=H+m:=⟨H+m-st,by omega⟩
     have dx:(H:Int)+(m:Int)-(st:Int)=(G:Int):=by omega
     have av:H+m=st+G:=by omega
     have c5:m<=G:=by have:=Aa bf;omega
     have c8:G<=b:=by omega
     have a6:H<=G:=by omega
     have aa:=Ab (Stab.merge_parts (show a<=st by omega) (show st<=m by omega) c5 c8 av (Aa a1) (Aa a2) (Aa b3))
     have a8:Hid (a<st->G<b->Stab.lx (d (st-1)) (d G)):=fun c1 c2=>by
      have h:=Aa bw (by have:=Aa cd;have:=Aa bf;omega);rw[show H+m-st=G by omega]at h;exact h
     have a9:Hid (st<m->m<G->Stab.lx (d (G-1)) (d st)):=fun c1 c2=>by
      have h:=Aa bv (by have:=Aa cj;have:=Aa bf;omega);rw[show H+m-1-st=G-1 by omega]at h;exact h
     have ao:Hid (CSt N ah al a5 a4 a7 ba l w wr d):=by rw[Aa bd];exact⟨(Aa co).drewN q,Ge (Aw _ _) q,(Aa ce).drewN q⟩
     rw[Aa au];have U:(st<m/\m<G/\a<st/\G<b/\st<H/\H<G)\/ (st<m/\m<G/\a<st/\G=b/\st<H/\H<G)\/ (st<m/\m<G/\st=a/\G<b/\st<H/\H<G)\/ (st<m/\m<G/\st=a/\G=b/\st<H/\H<G)\/ (st=m/\G=H/\a<st/\st<H)\/ (st=m/\G=H/\a<st/\st=H)\/ (st<m/\G=m/\st=H/\a<st/\H<G/\G<b):=by omega
     clear bw bv c7
     rcases U with U|U|U|U|U|U|U
     . have k1:(st:Int)<(m:Int):=by omega
       have k2:(m:Int)<(G:Int):=by omega
       have l1:(a:Int)<(st:Int):=by omega
       have l2:(st:Int)<(H:Int):=by omega
       have n1:(H:Int)<(G:Int):=by omega
       have n2:(G:Int)<(b:Int):=by omega
       have F:=Ab U;clear U;go_wp2_with fail
       refine(Xk (CF al) N ah bb l d st m G _ bh (by have:=Aa F;omega) (by have:=Aa F;omega) (by have:=Aa F;omega) (Aa ao).ps).mono ?_;rintro e bn ⟨rfl,ap,g1⟩;have ae:=Ab ((Aa ao).next ap g1);clear ap g1;go_wp2_with fail
       refine(Aa bc (Stab.rot d st m G) a st H _ (by have:=Aa F;omega) (by have:=Aa F;omega) (by have:=Aa F;omega) (by have:=Aa F;omega) (Aa ae).cx (Aa ae).ps (Aa aa).1.1 (Aa aa).1.2.1 (Aa aa).1.2.2).mono ?_;rintro e b9 ⟨rfl,I,ar,m1,az,g2⟩;have T:=Ab ((Aa ae).next ar g2);have Y:=Ab m1;have ak:=Ab az;clear ar g2 m1 az;have ag:=Ab (Hy (Aa aa) (Aa Y) a6);go_wp2_with fail
       refine(Aa bc I H G b _ (by have:=Aa F;omega) (by have:=Aa F;omega) (by have:=Aa F;omega) (by have:=Aa F;omega) (Aa T).cx (Aa T).ps (Aa ag).1 (Aa ag).2.1 (Aa ag).2.2).mono ?_;rintro e w3 ⟨rfl,M,ay,m2,ax,g3⟩;have O:=Ab ((Aa T).next ay g3);have aj:=Ab m2;have ai:=Ab ax;clear ay g3 m2 ax;have Z:=Ab (Stab.merge_step Stab.lx_trans (by have:=Aa F;omega) (by have:=Aa F;omega) (by have:=Aa F;omega) (by have:=Aa F;omega) av (Aa a1) (Aa a2) (Aa a8) (Aa a9) (Aa Y) (Aa ak) (Aa aj) (Aa ai));go_wp2
       all_goals (go_end0;exact⟨rfl,M,(Aa O).ps,(Aa Z).2,(Aa Z).1,(Aa O).grown⟩)
     . have k1:(st:Int)<(m:Int):=by omega
       have k2:(m:Int)<(G:Int):=by omega
       have l1:(a:Int)<(st:Int):=by omega
       have l2:(st:Int)<(H:Int):=by omega
       have n1:(H:Int)<(G:Int):=by omega
       have n2:¬(G:Int)<(b:Int):=by omega
       have F:=Ab U;clear U;go_wp2_with fail
       refine(Xk (CF al) N ah bb l d st m G _ bh (by have:=Aa F;omega) (by have:=Aa F;omega) (by have:=Aa F;omega) (Aa ao).ps).mono ?_;rintro e bn ⟨rfl,ap,g1⟩;have ae:=Ab ((Aa ao).next ap g1);clear ap g1;go_wp2_with fail
       refine(Aa bc (Stab.rot d st m G) a st H _ (by have:=Aa F;omega) (by have:=Aa F;omega) (by have:=Aa F;omega) (by have:=Aa F;omega) (Aa ae).cx (Aa ae).ps (Aa aa).1.1 (Aa aa).1.2.1 (Aa aa).1.2.2).mono ?_;rintro e b9 ⟨rfl,I,ar,m1,az,g2⟩;have T:=Ab ((Aa ae).next ar g2);have Y:=Ab m1;have ak:=Ab az;clear ar g2 m1 az;have ag:=Ab (Hy (Aa aa) (Aa Y) a6);have O:=T;obtain⟨M,af⟩:∃M,M=I:=⟨_,rfl⟩
       rw[<-af]at O;have aj:Hid (Stab.Moved H b I M):=by rw[af];exact Stab.Moved.refl _ _ _
       have ai:Hid (Stab.Srt Stab.lx M H b):=by rw[af];exact(Aa ag).1.sub (VB _) (by have:=Aa F;omega)
       clear af;have Z:=Ab (Stab.merge_step Stab.lx_trans (by have:=Aa F;omega) (by have:=Aa F;omega) (by have:=Aa F;omega) (by have:=Aa F;omega) av (Aa a1) (Aa a2) (Aa a8) (Aa a9) (Aa Y) (Aa ak) (Aa aj) (Aa ai));go_wp2
       all_goals (go_end0;exact⟨rfl,M,(Aa O).ps,(Aa Z).2,(Aa Z).1,(Aa O).grown⟩)
     . have k1:(st:Int)<(m:Int):=by omega
       have k2:(m:Int)<(G:Int):=by omega
       have l1:¬(a:Int)<(st:Int):=by omega
       have n1:(H:Int)<(G:Int):=by omega
       have n2:(G:Int)<(b:Int):=by omega
       have F:=Ab U;clear U;go_wp2_with fail
       refine(Xk (CF al) N ah bb l d st m G _ bh (by have:=Aa F;omega) (by have:=Aa F;omega) (by have:=Aa F;omega) (Aa ao).ps).mono ?_;rintro e bn ⟨rfl,ap,g1⟩;have ae:=Ab ((Aa ao).next ap g1);clear ap g1;have T:=ae;obtain⟨I,ac⟩:∃I,I=Stab.rot d st m G:=⟨_,rfl⟩
       rw[<-ac]at T;have Y:Hid (Stab.Moved a H (Stab.rot d st m G) I):=by rw[ac];exact Stab.Moved.refl _ _ _
       have ak:Hid (Stab.Srt Stab.lx I a H):=by rw[ac];exact(Aa aa).1.2.1.sub (by have:=Aa F;omega) (VB _)
       clear ac;have ag:=Ab (Hy (Aa aa) (Aa Y) a6);go_wp2_with fail
       refine(Aa bc I H G b _ (by have:=Aa F;omega) (by have:=Aa F;omega) (by have:=Aa F;omega) (by have:=Aa F;omega) (Aa T).cx (Aa T).ps (Aa ag).1 (Aa ag).2.1 (Aa ag).2.2).mono ?_;rintro e w3 ⟨rfl,M,ay,m2,ax,g3⟩;have O:=Ab ((Aa T).next ay g3);have aj:=Ab m2;have ai:=Ab ax;clear ay g3 m2 ax;have Z:=Ab (Stab.merge_step Stab.lx_trans (by have:=Aa F;omega) (by have:=Aa F;omega) (by have:=Aa F;omega) (by have:=Aa F;omega) av (Aa a1) (Aa a2) (Aa a8) (Aa a9) (Aa Y) (Aa ak) (Aa aj) (Aa ai));go_wp2
       all_goals (go_end0;exact⟨rfl,M,(Aa O).ps,(Aa Z).2,(Aa Z).1,(Aa O).grown⟩)
     . have k1:(st:Int)<(m:Int):=by omega
       have k2:(m:Int)<(G:Int):=by omega
       have l1:¬(a:Int)<(st:Int):=by omega
       have n1:(H:Int)<(G:Int):=by omega
       have n2:¬(G:Int)<(b:Int):=by omega
       have F:=Ab U;clear U;go_wp2_with fail
       refine(Xk (CF al) N ah bb l d st m G _ bh (by have:=Aa F;omega) (by have:=Aa F;omega) (by have:=Aa F;omega) (Aa ao).ps).mono ?_;rintro e bn ⟨rfl,ap,g1⟩;have ae:=Ab ((Aa ao).next ap g1);clear ap g1;have T:=ae;obtain⟨I,ac⟩:∃I,I=Stab.rot d st m G:=⟨_,rfl⟩
       rw[<-ac]at T;have Y:Hid (Stab.Moved a H (Stab.rot d st m G) I):=by rw[ac];exact Stab.Moved.refl _ _ _
       have ak:Hid (Stab.Srt Stab.lx I a H):=by rw[ac];exact(Aa aa).1.2.1.sub (by have:=Aa F;omega) (VB _)
       clear ac;have ag:=Ab (Hy (Aa aa) (Aa Y) a6);have O:=T;obtain⟨M,af⟩:∃M,M=I:=⟨_,rfl⟩
       rw[<-af]at O;have aj:Hid (Stab.Moved H b I M):=by rw[af];exact Stab.Moved.refl _ _ _
       have ai:Hid (Stab.Srt Stab.lx M H b):=by rw[af];exact(Aa ag).1.sub (VB _) (by have:=Aa F;omega)
       clear af;have Z:=Ab (Stab.merge_step Stab.lx_trans (by have:=Aa F;omega) (by have:=Aa F;omega) (by have:=Aa F;omega) (by have:=Aa F;omega) av (Aa a1) (Aa a2) (Aa a8) (Aa a9) (Aa Y) (Aa ak) (Aa aj) (Aa ai));go_wp2
       all_goals (go_end0;exact⟨rfl,M,(Aa O).ps,(Aa Z).2,(Aa Z).1,(Aa O).grown⟩)
     . have k1:¬(st:Int)<(m:Int):=by omega
       have l1:(a:Int)<(st:Int):=by omega
       have l2:(st:Int)<(H:Int):=by omega
       have n1:¬(H:Int)<(G:Int):=by omega
       have F:=Ab U;clear U;have ae:Hid (CSt N ah al a5 a4 a7 ba l w wr (Stab.rot d st m G)):=by rw[show Stab.rot d st m G=d from by rw[show st=m by have:=Aa F;omega];exact Stab.rot_left d m G];exact Aa ao
       go_wp2_with fail
       refine(Aa bc (Stab.rot d st m G) a st H _ (by have:=Aa F;omega) (by have:=Aa F;omega) (by have:=Aa F;omega) (by have:=Aa F;omega) (Aa ae).cx (Aa ae).ps (Aa aa).1.1 (Aa aa).1.2.1 (Aa aa).1.2.2).mono ?_;rintro e b9 ⟨rfl,I,ar,m1,az,g2⟩;have T:=Ab ((Aa ae).next ar g2);have Y:=Ab m1;have ak:=Ab az;clear ar g2 m1 az;have ag:=Ab (Hy (Aa aa) (Aa Y) a6);have O:=T;obtain⟨M,af⟩:∃M,M=I:=⟨_,rfl⟩
       rw[<-af]at O;have aj:Hid (Stab.Moved H b I M):=by rw[af];exact Stab.Moved.refl _ _ _
       have ai:Hid (Stab.Srt Stab.lx M H b):=by rw[af];exact(Aa ag).2.1.sub (by have:=Aa F;omega) (VB _)
       clear af;have Z:=Ab (Stab.merge_step Stab.lx_trans (by have:=Aa F;omega) (by have:=Aa F;omega) (by have:=Aa F;omega) (by have:=Aa F;omega) av (Aa a1) (Aa a2) (Aa a8) (Aa a9) (Aa Y) (Aa ak) (Aa aj) (Aa ai));go_wp2
       all_goals (go_end0;exact⟨rfl,M,(Aa O).ps,(Aa Z).2,(Aa Z).1,(Aa O).grown⟩)
     . have k1:¬(st:Int)<(m:Int):=by omega
       have l1:(a:Int)<(st:Int):=by omega
       have l2:¬(st:Int)<(H:Int):=by omega
       have n1:¬(H:Int)<(G:Int):=by omega
       have F:=Ab U;clear U;have ae:Hid (CSt N ah al a5 a4 a7 ba l w wr (Stab.rot d st m G)):=by rw[show Stab.rot d st m G=d from by rw[show st=m by have:=Aa F;omega];exact Stab.rot_left d m G];exact Aa ao
       have T:=ae;obtain⟨I,ac⟩:∃I,I=Stab.rot d st m G:=⟨_,rfl⟩
       rw[<-ac]at T;have Y:Hid (Stab.Moved a H (Stab.rot d st m G) I):=by rw[ac];exact Stab.Moved.refl _ _ _
       have ak:Hid (Stab.Srt Stab.lx I a H):=by rw[ac];exact(Aa aa).1.1.sub (VB _) (by have:=Aa F;omega)
       clear ac;have ag:=Ab (Hy (Aa aa) (Aa Y) a6);have O:=T;obtain⟨M,af⟩:∃M,M=I:=⟨_,rfl⟩
       rw[<-af]at O;have aj:Hid (Stab.Moved H b I M):=by rw[af];exact Stab.Moved.refl _ _ _
       have ai:Hid (Stab.Srt Stab.lx M H b):=by rw[af];exact(Aa ag).2.1.sub (by have:=Aa F;omega) (VB _)
       clear af;have Z:=Ab (Stab.merge_step Stab.lx_trans (by have:=Aa F;omega) (by have:=Aa F;omega) (by have:=Aa F;omega) (by have:=Aa F;omega) av (Aa a1) (Aa a2) (Aa a8) (Aa a9) (Aa Y) (Aa ak) (Aa aj) (Aa ai));go_wp2
       all_goals (go_end0;exact⟨rfl,M,(Aa O).ps,(Aa Z).2,(Aa Z).1,(Aa O).grown⟩)
     . have k1:(st:Int)<(m:Int):=by omega
       have k2:¬(m:Int)<(G:Int):=by omega
       have l1:(a:Int)<(st:Int):=by omega
       have l2:¬(st:Int)<(H:Int):=by omega
       have n1:(H:Int)<(G:Int):=by omega
       have n2:(G:Int)<(b:Int):=by omega
       have F:=Ab U;clear U;have ae:Hid (CSt N ah al a5 a4 a7 ba l w wr (Stab.rot d st m G)):=by rw[show Stab.rot d st m G=d from by rw[show G=m by have:=Aa F;omega];exact Stab.rot_right d st m];exact Aa ao
       have T:=ae;obtain⟨I,ac⟩:∃I,I=Stab.rot d st m G:=⟨_,rfl⟩
       rw[<-ac]at T;have Y:Hid (Stab.Moved a H (Stab.rot d st m G) I):=by rw[ac];exact Stab.Moved.refl _ _ _
       have ak:Hid (Stab.Srt Stab.lx I a H):=by rw[ac];exact(Aa aa).1.1.sub (VB _) (by have:=Aa F;omega)
       clear ac;have ag:=Ab (Hy (Aa aa) (Aa Y) a6);go_wp2_with fail
       refine(Aa bc I H G b _ (by have:=Aa F;omega) (by have:=Aa F;omega) (by have:=Aa F;omega) (by have:=Aa F;omega) (Aa T).cx (Aa T).ps (Aa ag).1 (Aa ag).2.1 (Aa ag).2.2).mono ?_;rintro e w3 ⟨rfl,M,ay,m2,ax,g3⟩;have O:=Ab ((Aa T).next ay g3);have aj:=Ab m2;have ai:=Ab ax;clear ay g3 m2 ax;have Z:=Ab (Stab.merge_step Stab.lx_trans (by have:=Aa F;omega) (by have:=Aa F;omega) (by have:=Aa F;omega) (by have:=Aa F;omega) av (Aa a1) (Aa a2) (Aa a8) (Aa a9) (Aa Y) (Aa ak) (Aa aj) (Aa ai));go_wp2
       all_goals (go_end0;exact⟨rfl,M,(Aa O).ps,(Aa Z).2,(Aa Z).1,(Aa O).grown⟩)
theorem Nk (N M H E O F I G:Nat)(l:List Int)(T:N<=288):∀L,Z32 N M H E O F I G l L
 |0=>fun d a m b w ae ai Z _ _ _ _ _ _=>by omega
 |L+1=>fun d a m b w ae ai Z hb Y U aa ac hc=>by
  by_cases af:m=a+1
  . exact FW N M H E O F I G l d a m b w (Ab af) T Z hb Y U ac hc
  . by_cases ah:b=m+1
    . exact X5 N M H E O F I G l d a m b w (Ab ah) T (by omega) Z hb Y U aa hc
    . by_cases ag:(a+b)/2<m
      . exact Rg N M H E O F I G l L (Ab (Nk N M H E O F I G l T L)) d a m b ((a+b)/2) ((a+b)/2+m-b) ((a+b)/2) w T (by omega) (by omega) (by omega) hb (Ab rfl) (Ab (.inl ⟨ag,by omega,rfl⟩)) Y U aa ac hc
      . exact Rg N M H E O F I G l L (Ab (Nk N M H E O F I G l T L)) d a m b ((a+b)/2) a m w T (by omega) (by omega) (by omega) hb (Ab rfl) (Ab (.inr ⟨by omega,rfl,rfl⟩)) Y U aa ac hc
set_option maxRecDepth 100000 in
theorem Vk (N F bo I Z U T Y:Nat)(l:List Int)(d:Nat->Int×Int)(a b:Nat)(w:World)(bz:N<=288)(ce:a<=b)(b4:b<=N)(a9:Cx F I Z U T Y l w)(a7:PC N F l d w)(a8:RW d a b):
 Calls Tryz.prog 284 #[.slice (some ⟨F,0,none⟩) N bo,.int .i64 a,.int .i64 b,CF I] w fun e w'=>e=.returned (.tuple #[])/\∃d',PC N F l d' w'/\Stab.Moved a b d d'/\Stab.Srt Stab.lx d' a b/\w.grownBy w' (some F):=by
 have ao:Hid (CSt N F I Z U T Y l w w d):=⟨a7,Aw _ _,a9⟩
 have bn:=Ab a8;clear a7 a9 a8;go_enter Tryz.func284,Tryz.ntmps284
 go_wp2;go_loopw [8] (fun az wr=>∃(i:Nat) (E:Nat->Int×Int),a<i/\(i<=b\/ (i=a+1/\E=d))/\az=.int .i64 i/\CSt N F I Z U T Y l w wr E/\Stab.Moved a i d E/\Stab.Srt Stab.lx E a i) (fun az _=>b+2-(intOf az).toNat)
 case atStart=>exact⟨a+1,d,by omega,.inr ⟨rfl,rfl⟩,by go_num,Aa ao,Stab.Moved.refl _ _ _,fun i j H ah bm=>by omega⟩
 case round=>
  obtain⟨i,E,cg,ap,rfl,ae,ac,O⟩:=hrel;have a1:=Ab ae;have bv:=Ab ac;have bg:=Ab O
  by_cases bh:i<b
  . have bi:Hid (∀k,a<=k->k<i->(E k).2<(E i).2):=fun k H ah=>by
     obtain⟨bj,bb,e2,e3⟩:=ac.mem H ah;rw[ac.out i (by omega),<-e3];exact Aa bn bj i bb e2 bh
    clear ap ae ac O ao;go_wp2;go_loopw [9] (fun ar wr=>∃j:Nat,a<=j/\j<=i/\ar=.int .i64 j/\CSt N F I Z U T Y l w wr (Stab.rot E j i (i+1))/\(j<i->Stab.lx (E i) (E j))) (fun ar _=>(intOf ar).toNat)
    case atStart=>exact⟨i,by omega,VB _,rfl,by rw[Stab.rot_left];exact Aa a1,fun h=>by omega⟩
    case round=>
     obtain⟨j,a4,ax,rfl,ae,a6⟩:=hrel;have G:=Ab ae;have ba:=Ab a6
     have ag:((a<j->Stab.lx (E (j-1)) (E i))->Hid (Stab.Moved a (i+1) d (Stab.rot E j i (i+1))/\Stab.Srt Stab.lx (Stab.rot E j i (i+1)) a (i+1))):=fun hl=>
      Ab ⟨((Aa bv).wider (VB _) (by omega) (by omega)).trans ((Stab.moved_rot E j i (i+1) ax (by omega)).wider a4 (by omega) (VB _)),Stab.ins_last a4 ax (Aa bg) hl (Aa ba)⟩
     clear ae a6
     by_cases b7:a<j
     . obtain⟨t,rfl⟩:∃t,j=t+1:=⟨j-1,by omega⟩
       rw[YA]at ag
       have ay:Stab.rot E (t+1) i (i+1) (t+1)=E i:=by
        unfold Stab.rot;rw[if_pos (by omega)]
        congr 1;omega
       have a2:Stab.rot E (t+1) i (i+1) t=E t:=by
        unfold Stab.rot;rw[if_neg (by omega),if_neg (by omega)]
       have ak:=Ab (Stab.cross_less (Aa bi t (by omega) (by omega)));have av:=Stab.rot_down E (t+1) i (by omega) ax;rw[YA]at av;have a3:=Ab av;have au:=Ab ag;have al:=fun n=>DN (Aa G).ps (Aa G).cx (t+1) t (by omega) (by omega) n
       rw[ay,a2]at al;have aw:=Ab al;have c1:=((Aa G).ps (t+1) (by omega)).1.1;have f1:=((Aa G).ps (t+1) (by omega)).1.2;have c2:=((Aa G).ps t (by omega)).1.1;have f2:=((Aa G).ps t (by omega)).1.2;have af:=Ab (fun n=>PC.sw ((Aa G).ps.drewN n) (t+1) t (by omega) (by omega));have aj:=Ab (fun n=>PC.c2 ((Aa G).ps.drewN n) (t+1) t (by omega) (by omega) (.int .i64 (E t).2));rw[ay]at c1 af;rw[a2]at c2 af;clear ay a2 ag av al;generalize Stab.rot E (t+1) i (i+1)=D at*;obtain⟨s,O⟩:∃s,s=t+1:=⟨_,rfl⟩
       have a5:=Ab O;rw[<-O]at c1 f1 af aj;generalize (E i).2=x at*;generalize (E t).2=y at*;have b0:(a:Int)<(t:Int)+1:=by omega
       have bu:decide ((t:Int)+1>(a:Int))=true:=decide_eq_true (by omega);have ea:((t:Int)+1).toNat=s:=by omega
       have pa:(0:Int)<=(t:Int)+1:=by omega
       have b8:(t:Int)+1<(N:Int):=by omega
       have b9:(t:Int)<(N:Int):=by omega
       have cd:IntKind.i64.wrap (t:Int)=(t:Int):=by rw[IntKind.wrap_i64];omega
       clear O;go_wp2_with fail
       go_quiet ((go_at_call 276;refine Calls.quiet_of (Aa aw _)))
       rw[Yq]
       cases ai:decide ((E i).1<(E t).1)with
       |true=>
        have bc:=Ab ((Aa ak).1 ai)
        have aa:Hid (CSt N F I Z U T Y l w (swC (wr.drewN nq) F x y s t).drew (Stab.rot E t i (i+1))):=by
         have H:=(Aa af) nq;rw[Aa a5,Aa a3,<-Aa a5]at H;exact(Aa G).next H (Cb (Aj (Ge (Aw wr (some F)) nq) (Mf (wr.drewN nq) F x y s t)))
        obtain⟨u,bk⟩:=(Aa aj) nq;have bq:(wr.drewN nq).cell? ⟨F,s,none⟩=some (.int .i64 x):=c1;have bw:(wr.drewN nq).cell? ⟨F,t,none⟩=some (.int .i64 y):=c2;have bf:(wr.drewN nq).frozen? ⟨F,s,none⟩=false:=f1;have bd:(wr.drewN nq).frozen? ⟨F,t,none⟩=false:=f2;unfold swC at aa;clear ai af ak au a3 aj aw c1 c2 f1 f2;generalize wr.drewN nq=b3 at*;go_wp2_with fail
        go_big_region
        clear bq bw bf bd bk;go_wp2;go_roundw
        case rel=>exact⟨t,by omega,by omega,by go_num,Aa aa,fun _=>Aa bc⟩
        case measure=>simp[intOf]
       |false=>
        have M:=Aa au (fun _=>(Aa ak).2 ai);have aa:Hid (CSt N F I Z U T Y l w (wr.drewN nq) D):=(Aa G).next ((Aa G).ps.drewN nq) (Ge (Aw _ _) nq);clear ai ak au a3 af aj aw c1 c2 f1 f2;go_wp2;go_roundw
        case rel=>exact⟨i+1,D,by omega,.inl (by omega),by go_num,Aa aa,(Aa M).1,(Aa M).2⟩
        case measure=>simp[intOf];omega
     . have b5:¬(a:Int)<(j:Int):=by omega
       have bu:decide ((j:Int)>(a:Int))=false:=decide_eq_false (by omega);have M:=ag (fun h=>by omega);clear ag;generalize Stab.rot E j i (i+1)=D at*;have aa:Hid (CSt N F I Z U T Y l w wr.drew D):=(Aa G).next ((Aa G).ps.drewN 1) (Cb (Aw _ _));go_wp2_with fail
       go_big_region
       all_goals go_wp2
       go_roundw
       case rel=>exact⟨i+1,D,by omega,.inl (by omega),by go_num,Aa aa,(Aa M).1,(Aa M).2⟩
       case measure=>simp[intOf];omega
  . have M:Hid (Stab.Moved a b d E/\Stab.Srt Stab.lx E a b):=by
     rcases ap with H|⟨H,ah⟩
     . have e:i=b:=by omega
       rw[<-e];exact⟨ac,O⟩
     . rw[ah];exact⟨Stab.Moved.refl _ _ _,fun i j H ah bm=>by omega⟩
    clear ap ae ac O ao;go_wp2;go_end0
    exact⟨rfl,E,(Aa a1).ps,(Aa M).1,(Aa M).2,(Aa a1).grown⟩
set_option maxRecDepth 100000 in
theorem Z3n (N M a1 Y af ae ag ai:Nat)(l:List Int)(d:Nat->Int×Int)(w:World)(a9:N<=288)(bk:Cx M Y af ae ag ai l w)(bj:PC N M l d w)(bg:RW d 0 N):
 Calls Tryz.prog 283 #[.slice (some ⟨M,0,none⟩) N a1,.int .i64 N,CF Y] w fun e w'=>e=.returned (.tuple #[])/\∃d',PC N M l d' w'/\Stab.Moved 0 N d d'/\Stab.Srt Stab.lx d' 0 N/\w.grownBy w' (some M):=by
 have bm:Hid (CSt N M Y af ae ag ai l w w d):=⟨bj,Aw _ _,bk⟩
 have b7:=Ab bg;have bu:Hid (Part d d N 20 0):=⟨fun s h=>by omega,fun _ _=>rfl,fun s i j hi ce hn=>bg i j (VH _) (by omega) hn⟩
 have bn:=Ab (Nk N M a1 Y af ae ag ai l a9 N);clear bj bk bg;go_enter Tryz.func283,Tryz.ntmps283
 go_wp2;go_loopw [7,8] (fun aj a8 wr=>∃(t F:Nat) (dk:Nat->Int×Int),Hid (F=t*20)/\F<=N/\aj=.int .i64 F/\a8=.int .i64 ((F:Int)+20)/\CSt N M Y af ae ag ai l w wr dk/\Stab.Moved 0 N d dk/\Part dk d N 20 t) (fun aj _ _=>N+1-(intOf aj).toNat)
 case atStart=>exact⟨0,0,d,Ab rfl,VH _,rfl,rfl,Aa bm,Stab.Moved.refl _ _ _,Aa bu⟩
 case round=>
  obtain⟨t,F,dk,I,ap,rfl,rfl,ah,ac,ak⟩:=hrel;have U:=Ab ah;have av:=Ab ac;have T:=Ab ak
  have bb:Hid (∀e,e<=N->RW dk F e):=fun e cj i j bi bz cd=>by
   rw[Aa I]at bi;rw[ak.rest i bi,ak.rest j (by omega)];exact Aa b7 i j (VH _) bz (by omega)
  clear ah ac ak bm bu
  by_cases G:F+20<=N
  . have a4:(F:Int)+20<=(N:Int):=by omega
    have E:Hid ((F:Int)+20=((F+20:Nat):Int)):=by unfold Hid;omega
    go_wp2_with fail
    rw[Aa E];refine(Vk N M a1 Y af ae ag ai l dk F (F+20) _ a9 (by omega) G (Aa U).cx (Aa U).ps (Aa bb (F+20) G)).mono ?_;rintro e bw ⟨rfl,d',aw,m2,al,g2⟩;have az:=Ab ((Aa U).next aw g2);have a3:=Ab ((Aa av).trans (m2.wider (VH _) (by omega) G))
    have b4:Hid (Part d' d N 20 (t+1)):=by
     have H:=Aa I;rw[H]at m2 al G;exact(Aa T).step G m2 al
    have bv:Hid (F+20=(t+1)*20):=by have:=Aa I;unfold Hid;omega
    clear aw m2 al g2;go_wp2;go_roundw
    case rel=>exact⟨t+1,F+20,d',bv,G,rfl,by go_num,Aa az,Aa a3,Aa b4⟩
    case measure=>simp[intOf];omega
  . have a4:¬(F:Int)+20<=(N:Int):=by omega
    go_wp2_with fail
    refine(Vk N M a1 Y af ae ag ai l dk F N _ a9 ap (VB _) (Aa U).cx (Aa U).ps (Aa bb N (VB _))).mono ?_;rintro e bw ⟨rfl,d',aw,m2,al,g2⟩;have az:=Ab ((Aa U).next aw g2);have a3:=Ab ((Aa av).trans (m2.wider (VH _) ap (VB _)))
    have bf:Hid (Jq d' N 20/\Cuts d' N 20):=by
     have H:=Aa I;rw[H]at m2 al;exact(Aa T).last (by omega) (by omega) m2 al
    clear aw m2 al g2 U av T bb I ap G a4;go_wp2;go_loopw [6,7,8,9] (fun a7 _ _ _ wr=>∃(B:Nat) (O:Nat->Int×Int),0<B/\B<=1000/\a7=.int .i64 B/\CSt N M Y af ae ag ai l w wr O/\Stab.Moved 0 N d O/\Jq O N B/\Cuts O N B) (fun a7 _ _ _ _=>N-(intOf a7).toNat)
    case atStart=>exact⟨20,d',by omega,by omega,rfl,Aa az,Aa a3,(Aa bf).1,(Aa bf).2⟩
    case round=>
     obtain⟨B,O,b9,cg,rfl,ah,ac,bq,bd⟩:=hrel;have U:=Ab ah;have av:=Ab ac;have a2:=Ab bq;have bo:=Ab bd;have bh:Hid (Part O O N (2*B) 0):=⟨fun s h=>by omega,fun _ _=>rfl,bd.double⟩
     clear ah ac bq bd az a3 bf
     by_cases ci:B<N
     . go_wp2;go_loopw [7,8] (fun aj a8 wr=>∃(t F:Nat) (dk:Nat->Int×Int),Hid (F=t*(2*B))/\F<=N/\aj=.int .i64 F/\a8=.int .i64 ((F:Int)+2*(B:Int))/\CSt N M Y af ae ag ai l w wr dk/\Stab.Moved 0 N d dk/\Part dk O N (2*B) t) (fun aj _ _=>N+1-(intOf aj).toNat)
       case atStart=>exact⟨0,0,O,Ab (YJ _).symm,VH _,rfl,by go_num,Aa U,Aa av,Aa bh⟩
       case round=>
        obtain⟨t,F,dk,I,ap,rfl,rfl,ah,ac,ak⟩:=hrel;have ao:=Ab ah;have a5:=Ab ac;have T:=Ab ak;clear ah ac ak bh
        by_cases G:F+2*B<=N
        . have a4:(F:Int)+2*(B:Int)<=(N:Int):=by omega
          have E:Hid ((F:Int)+2*(B:Int)=((F+2*B:Nat):Int)):=by unfold Hid;omega
          have a6:Hid ((F:Int)+(B:Int)=((F+B:Nat):Int)):=by unfold Hid;omega
          have Z:Hid (Stab.Srt Stab.lx dk F (F+B)/\Stab.Srt Stab.lx dk (F+B) (F+2*B)/\Stab.Cross dk F (F+B) (F+2*B)):=by
           have H:=Aa I;rw[H];rw[H]at G;exact On (Aa a2) (Aa bo) (Aa T).rest (by omega) (VB _) G (.inr rfl)
          go_wp2_with fail
          rw[Aa E,Aa a6];refine(Aa bn dk F (F+B) (F+2*B) _ (by omega) (by omega) (by omega) G (Aa ao).cx (Aa ao).ps (Aa Z).1 (Aa Z).2.1 (Aa Z).2.2).mono ?_;rintro e w3 ⟨rfl,au,ax,aa,ar,g3⟩;have ba:=Ab ((Aa ao).next ax g3);have bc:=Ab ((Aa a5).trans (aa.wider (VH _) (by omega) G))
          have b5:Hid (Part au O N (2*B) (t+1)):=by
           have H:=Aa I;rw[H]at aa ar G;exact(Aa T).step G aa ar
          have b8:Hid (F+2*B=(t+1)*(2*B)):=by have:=Aa I;unfold Hid;rw[ZD t (2*B),<-this]
          clear ax aa ar g3 Z;go_wp2;go_roundw
          case rel=>exact⟨t+1,F+2*B,au,b8,G,rfl,by go_num,Aa ba,Aa bc,Aa b5⟩
          case measure=>simp[intOf];omega
        . have a4:¬(F:Int)+2*(B:Int)<=(N:Int):=by omega
          by_cases hm:F+B<N
          . have b3:(F:Int)+(B:Int)<(N:Int):=by omega
            have a6:Hid ((F:Int)+(B:Int)=((F+B:Nat):Int)):=by unfold Hid;omega
            have Z:Hid (Stab.Srt Stab.lx dk F (F+B)/\Stab.Srt Stab.lx dk (F+B) N/\Stab.Cross dk F (F+B) N):=by
             have H:=Aa I;rw[H];rw[H]at G hm;exact On (Aa a2) (Aa bo) (Aa T).rest hm (by omega) (VB _) (.inl rfl)
            go_wp2_with fail
            rw[Aa a6];refine(Aa bn dk F (F+B) N _ (by omega) (by omega) hm (VB _) (Aa ao).cx (Aa ao).ps (Aa Z).1 (Aa Z).2.1 (Aa Z).2.2).mono ?_;rintro e w3 ⟨rfl,au,ax,aa,ar,g3⟩;have ba:=Ab ((Aa ao).next ax g3);have bc:=Ab ((Aa a5).trans (aa.wider (VH _) ap (VB _)))
            have ay:Hid (Jq au N (2*B)/\Cuts au N (2*B)):=by
             have H:=Aa I;rw[H]at aa ar;exact(Aa T).last (by omega) (by omega) aa ar
            clear ax aa ar g3 Z T I;go_wp2;go_roundw
            case rel=>exact⟨2*B,au,by omega,by omega,congrArg (Value.int .i64) (by omega),Aa ba,Aa bc,(Aa ay).1,(Aa ay).2⟩
            case measure=>simp[intOf];omega
          . have b3:¬(F:Int)+(B:Int)<(N:Int):=by omega
            have ay:Hid (Jq dk N (2*B)/\Cuts dk N (2*B)):=by
             have H:=Aa I;rw[H]at G hm ap;exact(Aa T).last ap (by omega) (Stab.Moved.refl _ _ _) (MY (Aa a2) (Aa T).rest (by omega))
            clear T I;go_wp2;go_roundw
            case rel=>exact⟨2*B,dk,by omega,by omega,congrArg (Value.int .i64) (by omega),Aa ao,Aa a5,(Aa ay).1,(Aa ay).2⟩
            case measure=>simp[intOf];omega
     . have b0:Hid (Stab.Srt Stab.lx O 0 N):=by
        have:=Aa a2 0
        rw[YJ,YG (by omega)]at this;exact this
       clear bh;go_wp2;go_end0
       exact⟨rfl,O,(Aa U).ps,Aa av,Aa b0,(Aa U).grown⟩
theorem S5 (N E T F Y I U M:Nat)(l:List Int)(d:Nat->Int×Int)(w:World)(ac:N<=288)(O:Cx E F Y I U M l w)(G:PC N E l d w)(Z:RW d 0 N):
 Calls Tryz.prog 275 #[.slice (some ⟨E,0,none⟩) N T,CF F] w fun e w'=>e=.returned (.tuple #[])/\∃d',PC N E l d' w'/\Stab.Moved 0 N d d'/\Stab.Srt Stab.lx d' 0 N/\w.grownBy w' (some E):=by
 have aa:=Ab (Z3n N E T F Y I U M l d w ac O G Z);clear O G Z;go_enter Tryz.func275,Tryz.ntmps275
 go_wp2_with fail
 refine(Aa aa).mono ?_;rintro e ae ⟨rfl,h⟩;have H:=Ab h;clear h;go_wp2;go_end0
 exact⟨rfl,Aa H⟩
theorem Oi (p:Option Addr)(G F:Nat)(w:World):
 Calls Tryz.prog 275 #[.slice p 0 G,CF F] w fun e w'=>e=.returned (.tuple #[])/\w'=w:=by
 have O:∀w,Calls Tryz.prog 284 #[.slice p 0 G,.int .i64 0,.int .i64 0,CF F] w fun e w'=>e=.returned (.tuple #[])/\w'=w:=by
  intro w;go_enter Tryz.func284,Tryz.ntmps284
  go_wp2;go_loopw [8] (fun I wr=>I=.int .i64 1/\wr=w) (fun I _=>0)
  case atStart=>exact⟨rfl,rfl⟩
  case round=>
   obtain⟨rfl,rfl⟩:=hrel;go_wp2;go_end0
   exact⟨rfl,rfl⟩
 have T:∀w,Calls Tryz.prog 283 #[.slice p 0 G,.int .i64 0,CF F] w fun e w'=>e=.returned (.tuple #[])/\w'=w:=by
  intro w;go_enter Tryz.func283,Tryz.ntmps283
  go_wp2;go_loopw [7,8] (fun E M wr=>E=.int .i64 0/\M=.int .i64 20/\wr=w) (fun E _ _=>0)
  case atStart=>exact⟨rfl,rfl,rfl⟩
  case round=>
   obtain⟨rfl,rfl,rfl⟩:=hrel;go_wp2_with fail
   refine(O wr).mono ?_;rintro e H ⟨rfl,rfl⟩;go_wp2;go_loopw [6,7,8,9] (fun E M U Y wr=>E=.int .i64 20/\wr=H) (fun E _ _ _ _=>0)
   case atStart=>exact⟨rfl,rfl⟩
   case round=>
    obtain⟨rfl,rfl⟩:=hrel;go_wp2;go_end0
    exact⟨rfl,rfl⟩
 go_enter Tryz.func275,Tryz.ntmps275
 go_wp2_with fail
 refine(T w).mono ?_;rintro e H ⟨rfl,rfl⟩;go_wp2;go_end0
 exact⟨rfl,rfl⟩
structure WRow (w:World)(g:Nat)(xs:List Int):Prop where
 lt:g<w.heap.size
 at_:∀j,j<xs.length->w.cell? ⟨g,j,none⟩=some (.int .i64 (xs.getD j 0))/\w.frozen? ⟨g,j,none⟩=false
theorem WRow.row {w:World}{E:Nat}{xs:List Int}(F:WRow w E xs):RowIn .i64 w (some ⟨E,0,none⟩) xs:=.inr ⟨E,0,rfl,F.lt,fun j G=>by rw[WG];exact(F.at_ j G).1⟩
theorem WRow.grown {w w':World}{E:Nat}{xs:List Int}{r:Option Nat}(F:WRow w E xs)(H:w.grownBy w' r)(I:some E≠r):WRow w' E xs:=by
 refine⟨VG F.lt H.size,fun j G=> ?_⟩;have e:=H.block E F.lt I;exact⟨by rw[World.cell?_of_block (w:=w) (a:=⟨E,j,none⟩) e];exact(F.at_ j G).1,by rw[World.frozen?_of_block (w:=w) (a:=⟨E,j,none⟩) e];exact(F.at_ j G).2⟩
theorem WRow.below {w w':World}{B E:Nat}{xs:List Int}(F:WRow w E xs)(G:Below B w w')(H:E<B):WRow w' E xs:=
 ⟨VG F.lt G.size,fun j I=>⟨by rw[G.cell (p:=⟨E,j,none⟩) H];exact(F.at_ j I).1,by rw[G.frozen (p:=⟨E,j,none⟩) H];exact(F.at_ j I).2⟩⟩
theorem WRow.own {w:World}{B F n H:Nat}{xs:List Int}(E:w.ownsRow B 3 1 (.slice (some ⟨F,0,none⟩) n H) n (iv xs)):WRow w F xs:=by
 refine⟨(E.lt F rfl).2,fun j G=>⟨?_,E.frozenAt j⟩⟩;have hn:xs.length=n:=by have:=E.1;simpa using this
 rw[E.cellAt j (by omega)];simp[List.getD,G]
theorem WRow.set {w:World}{G:Nat}{xs:List Int}(E:WRow w G xs)(i:Nat)(H:i<xs.length)(v:Int):WRow (w.setCell ⟨G,i,none⟩ (.int .i64 v)) G (xs.set i v):=by
 refine⟨by simpa using E.lt,fun j F=> ?_⟩;rw[XS]at F;refine⟨?_,by simp[(E.at_ j F).2]⟩
 by_cases e:i=j
 . subst e;rw[World.cell?_setCell_same _ _ _ (E.at_ i F).1];simp[List.getD,H]
 . rw[World.cell?_setCell_other _ _ _ _ (by intro E;injection E;omega),(E.at_ j F).1];simp[List.getD,e]
theorem WRow.other {w:World}{F:Nat}{xs:List Int}(E:WRow w F xs){a:Addr}(H:a.block≠F)(v:Value):WRow (w.setCell a v) F xs:=by
 refine⟨by simpa using E.lt,fun j G=>⟨?_,by simp[(E.at_ j G).2]⟩⟩;rw[World.cell?_setCell_other _ _ _ _ (by intro E;subst E;exact H rfl)];exact(E.at_ j G).1
theorem WRow.drew {w:World}{E:Nat}{xs:List Int}(F:WRow w E xs):WRow w.drew E xs:=⟨F.lt,F.at_⟩
abbrev ni (P:List Nat):List Int:=P.map fun p:Nat=>(p:Int)
def dOf (l:List Int)(P:List Nat)(k:Nat):Int×Int:=(l.getD (P.getD k 0) 0,(P.getD k 0:Nat))
theorem Z3u (l:List Int)(P:List Nat):(Stab.seg (dOf l P) 0 P.length).map (fun x=>x.2.toNat)=P:=by
 apply XK
 . simp[Stab.seg]
 . intro i F E;simp[Stab.seg,dOf,List.getD,E]
theorem Z3x {l:List Int}{N af:Nat}{w':World}{d':Nat->Int×Int}(Y:N=(wpl l l.length).length)(I:PC N af l d' w')(ae:Stab.Moved 0 N (dOf l (wpl l l.length)) d')(T:Stab.Srt Stab.lx d' 0 N)(P:List Nat)(E:P=(Stab.seg d' 0 N).map fun x=>x.2.toNat):RiseOf l P:=by
 have ah:P.length=N:=by rw[E];simp[Stab.seg]
 have F:∀i (h:i<P.length),P[i]=(d' i).2.toNat:=by
  intro i h;simp[E,Stab.seg]
 refine⟨?_, ?_⟩
 . have:=ae.perm.map (fun x:Int×Int=>x.2.toNat)
   rw[<-E,Y,Z3u]at this;exact this
 . rw[YE];intro i j hi U Z;have ac:i<N:=by omega
   have M:j<N:=by omega
   obtain⟨_,p,G,ag,aa⟩:=I i ac;obtain⟨_,q,H,ai,O⟩:=I j M;have h:=T i j (VH _) Z M;unfold Stab.lx at h;rw[F i hi,F j U,G,H,WM,WM];rw[G,H,aa,O]at h;omega
set_option maxRecDepth 100000 in
theorem FJ (a:Option Addr)(F M:Nat)(l:List Int)(w:World)(ak:l.length=F)(b9:F<=288)(G:RowIn .i64 w a l):
 Calls Tryz.prog 258 #[.slice a F M] w fun e w'=>∃v P,e=.returned v/\RiseOf l P/\Below w.heap.size w w'/\((P= []/\v=.slice none 0 0)\/∃g c,v=.slice (some ⟨g,0,none⟩) P.length c/\P.length<=c/\c<=maxLen/\w.heap.size<=g/\WRow w' g (ni P)):=by
 obtain⟨b0,hi,bz,b7,bq⟩:=info_parts Bv;have aa:=Ab ak;have a6:=Ab G;have bh:(w.alloc (.cells #[.slice a F M] 76)).cell? ⟨w.heap.size,0,none⟩=some (.slice a F M):=by simp
 clear G;have cd:=Ab ((Below.refl w.heap.size w).alloc (VB _) (.cells #[.slice a F M] 76));go_enter Tryz.func258,Tryz.ntmps258
 go_wp2;go_loopw [3,4,5,8] (fun vo _ _ i wr=>∃k:Nat,k<=F/\i=.int .i64 k/\wr.ownsRow (w.heap.size+1) 3 1 vo (wpl l k).length (i64s (wpl l k))/\(wpl l k= []->vo=.slice none 0 0)/\Below (w.heap.size+1) (w.alloc (.cells #[.slice a F M] 76)) wr) (fun _ _ _ i _=>F-(intOf i).toNat)
 case atStart=>exact⟨0,VH _,rfl,⟨rfl,.inl ⟨rfl,rfl⟩⟩,fun _=>rfl,Below.refl _ _⟩
 case round=>
  obtain⟨k,a3,rfl,O,a1,T⟩:=hrel;have ah:=Ab a1;clear a1;have Z:=Ab O;have I:=Ab T;have b3:=T.size;simp only[World.size_alloc]at b3
  by_cases ci:k<F
  . have av:k<l.length:=by omega
    obtain⟨b,o,rfl,hb,G⟩:∃b o,a=some ⟨b,o,none⟩/\b<w.heap.size/\Row .i64 w b o l:=by
     rcases Aa a6 with rfl|h
     . simp at av
     . exact h
    have c1:=((Aa I).cell (p:=⟨b,o+k,none⟩) (by simp;omega)).trans ((World.cell?_alloc_past _ _ _ hb).trans (G k av));have cp:=Pt l k;have H:Hid (wpl l (k+1)=wpl l k++(if 0<l.getD k 0 then [k]else [])):=rfl;clear O T G;generalize l.getD k 0=x at*
    by_cases a7:0<x
    . rw[if_pos a7]at H;go_wp2_with (at_builtin;refine wpList_append_own _ rfl _ _ 76 rfl (w.heap.size+1) 3 b0 (.int .i64 0) 1 8 Tryz.underlying76 hi bz b7 bq rfl (by decide) _ _ _ rfl ((Aa Z).alloc _) ⟨wr.heap.size,0,none⟩ 1 1 [.int .i64 (k:Int)] rfl rfl (by intro j u E;match j,E with|0,E=>simp at E;subst E;simp[Addr.add]) (by intro u a9;simp at a9;subst a9;rfl) (by unfold maxLen;omega) (by omega) (by simp;omega) ?_)
      intro v' ce a5 az _;have bu:=Ab a5;have bd:=Ab (((Aa I).alloc (by omega) _).grown az (by simp;omega) (fun k a3=>((Aa Z).lt k a3).1));clear a5 az;go_wp2;go_roundw
      case rel=>
       refine⟨k+1,by omega,by go_num, ?_,fun h=>by rw[Aa H]at h;simp at h,Aa bd⟩;have e:i64s (wpl l (k+1))=i64s (wpl l k)++ [.int .i64 (k:Int)]:=by rw[Aa H];simp[i64s]
       have e2:(wpl l (k+1)).length=(wpl l k).length+1:=by rw[Aa H,VE];rfl
       rw[e,e2];exact Aa bu
      case measure=>simp[intOf];omega
    . rw[if_neg a7,XA]at H;go_wp2;go_roundw
      case rel=>exact⟨k+1,by omega,by go_num,by rw[Aa H];exact Aa Z,by rw[Aa H];exact Aa ah,Aa I⟩
      case measure=>simp[intOf];omega
  . obtain rfl:k=F:=by omega
    have a8:Hid (Below w.heap.size w wr):=(Aa cd).trans ((Aa I).mono (by omega))
    by_cases ac:wpl l k= []
    . have ag:=Aa ah ac;subst ag;have bw:Hid (RiseOf l []):=⟨by rw[Aa aa,ac],.nil⟩
      clear O T;go_wp2_with fail
      refine(Oi none 0 w.heap.size wr).mono ?_;rintro e aj ⟨rfl,rfl⟩;go_wp2;go_ret;exact⟨_,[],rfl,Aa bw,Aa a8,.inl ⟨rfl,rfl⟩⟩
    . have cj:0<(wpl l k).length:=by cases h:wpl l k with|nil=>exact absurd h ac|cons=>simp
      obtain⟨g,c,ag,ay,ao,bc,bm⟩:∃g c,u3=.slice (some ⟨g,0,none⟩) (wpl l k).length c/\w.heap.size+1<=g/\g<wr.heap.size/\(wpl l k).length<=c/\c<=maxLen:=by
       rcases O.2 with h|⟨g,c,cur,U,b8,a4,bv,bn,cn,cm⟩
       . omega
       . refine⟨g,c,U,b8, ?_,bv,bn⟩
         rcases ZQ g wr.heap.size with h|h
         . exact h
         . rw[ZN h]at a4;cases a4
      subst ag;have co:=Pt l k
      obtain⟨b,o,rfl,hb,G⟩:∃b o,a=some ⟨b,o,none⟩/\b<w.heap.size/\Row .i64 w b o l:=by
       rcases Aa a6 with rfl|h
       . simp at ak;omega
       . exact h
      have bb:Cx g w.heap.size b o k M l wr:=by
       refine⟨((Aa I).cell (p:=⟨w.heap.size,0,none⟩) (by simp)).trans bh,fun j E=>((Aa I).cell (p:=⟨b,o+j,none⟩) (by simp;omega)).trans ((World.cell?_alloc_past _ _ _ hb).trans (G j E)),ak,b9, ?_, ?_,ao,by omega,by omega⟩
       . omega
       . omega
      have ap:PC (wpl l k).length g l (dOf l (wpl l k)) wr:=by
       intro j E;refine⟨⟨?_,O.frozenAt j⟩,(wpl l k).getD j 0,rfl, ?_,rfl⟩
       . rw[O.cellAt j (by omega)];simp[dOf,List.getD,E]
       . have U:(wpl l k).getD j 0∈wpl l k:=by simp[List.getD,E]
         have:=JY l k _ U
         omega
      have a2:RW (dOf l (wpl l k)) 0 (wpl l k).length:=by
       intro i j _ bg E;have U:=(YE.1 (AX l k)) i j (by omega) E bg;have bf:(wpl l k).getD i 0=(wpl l k)[i]'(by omega):=by simp[List.getD,show i<(wpl l k).length by omega]
       have e2:(wpl l k).getD j 0=(wpl l k)[j]'hj:=by simp[List.getD,E]
       unfold dOf;simp only[];rw[bf,e2];omega
      have b5:=Ab (S5 (wpl l k).length g c w.heap.size b o k M l _ wr (by omega) bb ap a2);have ax:=Ab ay;clear O T bb ap a2 G Z I ah ay;generalize ar:(wpl l k).length=N at*;have bi:=Ab ar;clear ar;go_wp2_with fail
      refine(Aa b5).mono ?_;rintro e aj ⟨rfl,d',ae,au,al,ai⟩;obtain⟨P,Y⟩:∃P,P=(Stab.seg d' 0 N).map fun x=>x.2.toNat:=⟨_,rfl⟩
      have af:P.length=N:=by rw[Y];simp[Stab.seg]
      have bo:Hid (RiseOf l P):=by
       refine Z3x (by rw[Aa aa,Aa bi]) ae ?_ al P Y;rw[Aa aa];exact au
      have bk:Hid (WRow aj g (ni P)):=by
       refine⟨VG ao ai.size,fun j E=> ?_⟩;have aw:j<N:=by simpa[af]using E
       obtain⟨⟨c0,f0⟩,p,bj,ck,cg⟩:=ae j aw;refine⟨?_,f0⟩;rw[c0]
       have:(ni P).getD j 0=(d' j).2:=by
        simp[Y,Stab.seg,List.getD,aw,bj]
       rw[this]
      have b4:Hid (Below w.heap.size w aj):=(Aa a8).grown ai (by omega) (fun j h=>by cases h;have:=Aa ax;omega);have ba:=Ab af;clear ae au al ai Y af;go_wp2;go_ret;refine⟨_,P,rfl,Aa bo,Aa b4,.inr ⟨g,c, ?_, ?_,bm, ?_,Aa bk⟩⟩
      . rw[Aa ba];rfl
      . rw[Aa ba];exact bc
      . have:=Aa ax;omega
end Go.Proofs.YtleocpdblhbimaaGreatDoor
