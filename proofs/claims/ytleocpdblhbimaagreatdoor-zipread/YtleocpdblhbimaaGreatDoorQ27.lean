import Derived.Test.YtleocpdblhbimaaGreatDoorQ26
set_option linter.unusedSimpArgs false
set_option linter.unusedVariables false
set_option maxHeartbeats 8000000
namespace Go.Proofs.YtleocpdblhbimaaGreatDoor
open Go.RowKit
def Z32 (N bp cap bx bl ol ln lc:Nat)(l:List Int)(L:Nat):Prop:=∀(d:Nat->Int×Int) (a m b:Nat) (w:World),b-a<=L->a<m->m<b->b<=N->Cx bp bx bl ol ln lc l w->
 PC N bp l d w->Stab.Srt Stab.lx d a m->Stab.Srt Stab.lx d m b->Stab.Cross d a m b->
 Calls Tryz.prog 285 #[.slice (some ⟨bp,0,none⟩) N cap,.int .i64 a,.int .i64 m,.int .i64 b,CF bx] w fun e w'=>e=.returned (.tuple #[])/\∃d',PC N bp l d' w'/\Stab.Moved a b d d'/\Stab.Srt Stab.lx d' a b/\w.grownBy w' (some bp)
structure CSt (N bp bx bl ol ln lc:Nat)(l:List Int)(w W:World)(D:Nat->Int×Int):Prop where
 ps:PC N bp l D W
 grown:w.grownBy W (some bp)
 cx:Cx bp bx bl ol ln lc l W
theorem CSt.next {N E G M I T O:Nat}{l:List Int}{w W W':World}{U F:Nat->Int×Int}(s:CSt N E G M I T O l w W U)(p:PC N E l F W')(H:W.grownBy W' (some E)):CSt N E G M I T O l w W' F:=
 ⟨p,Aj s.grown H,s.cx.grown H⟩
theorem Hy {F H:Nat->Int×Int}{a st E G b:Nat}(M:(Stab.Srt Stab.lx F a st/\Stab.Srt Stab.lx F st E/\Stab.Cross F a st E)/\(Stab.Srt Stab.lx F E G/\Stab.Srt Stab.lx F G b/\Stab.Cross F E G b))(I:Stab.Moved a E F H)(T:E<=G):
 Stab.Srt Stab.lx H E G/\Stab.Srt Stab.lx H G b/\Stab.Cross H E G b:=
 ⟨M.2.1.congr (fun k O _=>I.out k (by omega)),M.2.2.1.congr (fun k O _=>I.out k (by omega)),M.2.2.2.congr (fun k O _=>I.out k (by omega))⟩
set_option maxRecDepth 100000 in
theorem Rg (N ah bb al a9 a8 ba a6:Nat)(l:List Int)(L:Nat)(bc:Hid (Z32 N ah bb al a9 a8 ba a6 l L))(d:Nat->Int×Int)(a m b H av ay:Nat)(w:World)(bh:N<=288)(dm:b-a<=L+1)(dw:a+1<m)(dd:m+1<b)(di:b<=N)
 (cm:Hid (H=(a+b)/2)) (bd:Hid ((H<m/\av+b=H+m/\ay=H)\/ (m<=H/\av=a/\ay=m))) (b4:Cx ah al a9 a8 ba a6 l w)
 (b9:PC N ah l d w) (cq:Stab.Srt Stab.lx d a m) (cn:Stab.Srt Stab.lx d m b) (ce:Stab.Cross d a m b):
 Calls Tryz.prog 285 #[.slice (some ⟨ah,0,none⟩) N bb,.int .i64 a,.int .i64 m,.int .i64 b,CF al] w fun e w'=>e=.returned (.tuple #[])/\∃d',PC N ah l d' w'/\Stab.Moved a b d d'/\Stab.Srt Stab.lx d' a b/\w.grownBy w' (some ah):=by
 have cj:=Ab b9;have ax:=Ab cq;have a1:=Ab cn;have ck:=Ab ce;have b3:=Ab b4;have dx:((m:Int)-(a:Int)==1)=false:=by rw[beq_eq_false_iff_ne];omega
 have dj:((b:Int)-(m:Int)==1)=false:=by rw[beq_eq_false_iff_ne];omega
 have bj:a<=av/\av<=ay/\ay<=m/\ay<=H/\a<H/\H<b/\H+m<=av+b:=by have:=Aa cm;have:=Aa bd;omega
 obtain⟨dp,c8,du,dc,dv,dh,dl⟩:=bj;have b5:((a:Int)+(b:Int))/2=(H:Int):=by have:=Aa cm;omega
 have au:=Ab b5;clear b9 cq cn ce b4 b5
 rcases Aa bd with ⟨cv,bv,bw⟩|⟨cv,bv,bw⟩
 case' inl=>have cz:((a:Int)+(b:Int))/2<(m:Int):=by rw[Aa au];omega
 case' inr=>have cz:¬((a:Int)+(b:Int))/2<(m:Int):=by rw[Aa au];omega
 all_goals
  have cp:=Ab bv;have b8:=Ab bw;clear bv bw;go_enter Tryz.func285,Tryz.ntmps285
  go_wp2;go_loopw [20,21,23] (fun bq bu dq wr=>∃st r q:Nat,av<=st/\st<=r/\r<=ay/\bq=.int .i64 st/\bu=.int .i64 r/\(av<st->Stab.lx (d (st-1)) (d (H+m-st)))/\(r<ay->Stab.lx (d (H+m-1-r)) (d r))/\wr=w.drewN q) (fun bq bu _ _=>(intOf bu).toNat-(intOf bq).toNat)
  case atStart=>exact⟨av,ay,0,VB _,c8,VB _,congrArg (Value.int .i64) (by have:=Aa cp;have:=Aa au;omega),congrArg (Value.int .i64) (by have:=Aa b8;have:=Aa au;omega),fun h=>by omega,fun h=>by omega,rfl⟩
  case round=>
   obtain⟨st,r,q,cw,df,cu,rfl,rfl,bj,cg,co⟩:=hrel;have bf:=Ab co;have bo:=Ab bj;have bz:=Ab cg;clear bj cg co
   by_cases dt:st<r
   . obtain⟨c,c6⟩:∃c,c=(st+r)/2:=⟨_,rfl⟩
     have db:st<=c:=by omega
     have dr:c<r:=by omega
     have E:Hid (((st:Int)+(r:Int))/2=(c:Int)):=by unfold Hid;omega
     obtain⟨f,ci⟩:∃f,f=H+m-1-c:=⟨_,rfl⟩
     have ds:(((a:Int)+(b:Int))/2+(m:Int)-1-(c:Int)).toNat=f:=by have:=Aa au;omega
     have ar:(0:Int)<=((a:Int)+(b:Int))/2+(m:Int)-1-(c:Int):=by have:=Aa au;omega
     have b2:((a:Int)+(b:Int))/2+(m:Int)-1-(c:Int)<(N:Int):=by have:=Aa au;omega
     have r2:IntKind.i64.wrap (((a:Int)+(b:Int))/2+(m:Int)-1-(c:Int))=((a:Int)+(b:Int))/2+(m:Int)-1-(c:Int):=by rw[IntKind.wrap_i64];have:=Aa au;omega
     have bm:=Ab (Stab.cross_less (Aa ck c f (by omega) (by omega) (by omega) (by omega)));have bg:PC N ah l d wr:=by rw[Aa bf];exact(Aa cj).drewN q
     have ct:Cx ah al a9 a8 ba a6 l wr:=by rw[Aa bf];exact(Aa b3).drewN q
     have cd:=fun n=>DN bg ct f c (by omega) (by omega) n
     have cc:=(bg c (by omega)).1.1;have ca:=(bg f (by omega)).1.1;generalize (d c).2=y at*;generalize (d f).2=z at*;have c7:=Ab cd;have b0:=Ab ci;have de:(c:Int)<(N:Int):=by omega
     clear c6 bg ct cd ci;go_wp2_with fail
     rw[Aa E];go_wp2_with fail
     go_quiet ((go_at_call 276;refine Calls.quiet_of (Aa c7 _)))
     rw[Yq]
     cases bi:decide ((d f).1<(d c).1)with
     |true=>
      have bk:=Ab ((Aa bm).1 bi);rw[Aa b0]at bk;clear bm bi;go_wp2;go_roundw
      case rel=>exact⟨st,c,_,cw,db,by omega,rfl,rfl,Aa bo,fun _=>Aa bk,by rw[Aa bf,World.drewN_drewN]⟩
      case measure=>simp[intOf];omega
     |false=>
      have bk:=Ab ((Aa bm).2 bi);have c5:Hid (H+m-(c+1)=f):=by have:=Aa b0;unfold Hid;omega
      clear bm bi;go_wp2;go_roundw
      case rel=>exact⟨c+1,r,_,by omega,by omega,cu,by go_num,rfl,fun _=>by rw[Aa c5];exact Aa bk,Aa bz,by rw[Aa bf,World.drewN_drewN]⟩
      case measure=>simp[intOf];omega
   . obtain rfl:st=r:=by omega
     have dy:¬(st:Int)<(st:Int):=by omega
     obtain⟨G,da⟩:∃G,G+st=H+m:=⟨H+m-st,by omega⟩
     have dn:(H:Int)+(m:Int)-(st:Int)=(G:Int):=by omega
     have a3:H+m=st+G:=by omega
     have c9:m<=G:=by have:=Aa bd;omega
     have cy:G<=b:=by omega
     have a5:H<=G:=by omega
     have Y:=Ab (Stab.merge_parts (show a<=st by omega) (show st<=m by omega) c9 cy a3 (Aa ax) (Aa a1) (Aa ck))
     have a4:Hid (a<st->G<b->Stab.lx (d (st-1)) (d G)):=fun c1 c2=>by
      have h:=Aa bo (by have:=Aa cp;have:=Aa bd;omega);rw[show H+m-st=G by omega]at h;exact h
     have a7:Hid (st<m->m<G->Stab.lx (d (G-1)) (d st)):=fun c1 c2=>by
      have h:=Aa bz (by have:=Aa b8;have:=Aa bd;omega);rw[show H+m-1-st=G-1 by omega]at h;exact h
     have ao:Hid (CSt N ah al a9 a8 ba a6 l w wr d):=by rw[Aa bf];exact⟨(Aa cj).drewN q,Ge (Aw _ _) q,(Aa b3).drewN q⟩
     rw[Aa au];have U:(st<m/\m<G/\a<st/\G<b/\st<H/\H<G)\/ (st<m/\m<G/\a<st/\G=b/\st<H/\H<G)\/ (st<m/\m<G/\st=a/\G<b/\st<H/\H<G)\/ (st<m/\m<G/\st=a/\G=b/\st<H/\H<G)\/ (st=m/\G=H/\a<st/\st<H)\/ (st=m/\G=H/\a<st/\st=H)\/ (st<m/\G=m/\st=H/\a<st/\H<G/\G<b):=by omega
     clear bo bz da
     rcases U with U|U|U|U|U|U|U
     . have k1:(st:Int)<(m:Int):=by omega
       have k2:(m:Int)<(G:Int):=by omega
       have l1:(a:Int)<(st:Int):=by omega
       have l2:(st:Int)<(H:Int):=by omega
       have n1:(H:Int)<(G:Int):=by omega
       have n2:(G:Int)<(b:Int):=by omega
       have F:=Ab U;clear U;go_wp2_with fail
       refine(Xk (CF al) N ah bb l d st m G _ bh (by have:=Aa F;omega) (by have:=Aa F;omega) (by have:=Aa F;omega) (Aa ao).ps).mono ?_;rintro e bn ⟨rfl,ap,g1⟩;have ae:=Ab ((Aa ao).next ap g1);clear ap g1;go_wp2_with fail
       refine(Aa bc (Stab.rot d st m G) a st H _ (by have:=Aa F;omega) (by have:=Aa F;omega) (by have:=Aa F;omega) (by have:=Aa F;omega) (Aa ae).cx (Aa ae).ps (Aa Y).1.1 (Aa Y).1.2.1 (Aa Y).1.2.2).mono ?_;rintro e b7 ⟨rfl,I,ar,m1,az,g2⟩;have T:=Ab ((Aa ae).next ar g2);have Z:=Ab m1;have ai:=Ab az;clear ar g2 m1 az;have ag:=Ab (Hy (Aa Y) (Aa Z) a5);go_wp2_with fail
       refine(Aa bc I H G b _ (by have:=Aa F;omega) (by have:=Aa F;omega) (by have:=Aa F;omega) (by have:=Aa F;omega) (Aa T).cx (Aa T).ps (Aa ag).1 (Aa ag).2.1 (Aa ag).2.2).mono ?_;rintro e w3 ⟨rfl,M,a2,m2,aw,g3⟩;have O:=Ab ((Aa T).next a2 g3);have ak:=Ab m2;have aj:=Ab aw;clear a2 g3 m2 aw;have aa:=Ab (Stab.merge_step Stab.lx_trans (by have:=Aa F;omega) (by have:=Aa F;omega) (by have:=Aa F;omega) (by have:=Aa F;omega) a3 (Aa ax) (Aa a1) (Aa a4) (Aa a7) (Aa Z) (Aa ai) (Aa ak) (Aa aj));go_wp2
       all_goals (go_end0;exact⟨rfl,M,(Aa O).ps,(Aa aa).2,(Aa aa).1,(Aa O).grown⟩)
     . have k1:(st:Int)<(m:Int):=by omega
       have k2:(m:Int)<(G:Int):=by omega
       have l1:(a:Int)<(st:Int):=by omega
       have l2:(st:Int)<(H:Int):=by omega
       have n1:(H:Int)<(G:Int):=by omega
       have n2:¬(G:Int)<(b:Int):=by omega
       have F:=Ab U;clear U;go_wp2_with fail
       refine(Xk (CF al) N ah bb l d st m G _ bh (by have:=Aa F;omega) (by have:=Aa F;omega) (by have:=Aa F;omega) (Aa ao).ps).mono ?_;rintro e bn ⟨rfl,ap,g1⟩;have ae:=Ab ((Aa ao).next ap g1);clear ap g1;go_wp2_with fail
       refine(Aa bc (Stab.rot d st m G) a st H _ (by have:=Aa F;omega) (by have:=Aa F;omega) (by have:=Aa F;omega) (by have:=Aa F;omega) (Aa ae).cx (Aa ae).ps (Aa Y).1.1 (Aa Y).1.2.1 (Aa Y).1.2.2).mono ?_;rintro e b7 ⟨rfl,I,ar,m1,az,g2⟩;have T:=Ab ((Aa ae).next ar g2);have Z:=Ab m1;have ai:=Ab az;clear ar g2 m1 az;have ag:=Ab (Hy (Aa Y) (Aa Z) a5);have O:=T;obtain⟨M,ac⟩:∃M,M=I:=⟨_,rfl⟩
       rw[<-ac]at O;have ak:Hid (Stab.Moved H b I M):=by rw[ac];exact Stab.Moved.refl _ _ _
       have aj:Hid (Stab.Srt Stab.lx M H b):=by rw[ac];exact(Aa ag).1.sub (VB _) (by have:=Aa F;omega)
       clear ac;have aa:=Ab (Stab.merge_step Stab.lx_trans (by have:=Aa F;omega) (by have:=Aa F;omega) (by have:=Aa F;omega) (by have:=Aa F;omega) a3 (Aa ax) (Aa a1) (Aa a4) (Aa a7) (Aa Z) (Aa ai) (Aa ak) (Aa aj));go_wp2
       all_goals (go_end0;exact⟨rfl,M,(Aa O).ps,(Aa aa).2,(Aa aa).1,(Aa O).grown⟩)
     . have k1:(st:Int)<(m:Int):=by omega
       have k2:(m:Int)<(G:Int):=by omega
       have l1:¬(a:Int)<(st:Int):=by omega
       have n1:(H:Int)<(G:Int):=by omega
       have n2:(G:Int)<(b:Int):=by omega
       have F:=Ab U;clear U;go_wp2_with fail
       refine(Xk (CF al) N ah bb l d st m G _ bh (by have:=Aa F;omega) (by have:=Aa F;omega) (by have:=Aa F;omega) (Aa ao).ps).mono ?_;rintro e bn ⟨rfl,ap,g1⟩;have ae:=Ab ((Aa ao).next ap g1);clear ap g1;have T:=ae;obtain⟨I,af⟩:∃I,I=Stab.rot d st m G:=⟨_,rfl⟩
       rw[<-af]at T;have Z:Hid (Stab.Moved a H (Stab.rot d st m G) I):=by rw[af];exact Stab.Moved.refl _ _ _
       have ai:Hid (Stab.Srt Stab.lx I a H):=by rw[af];exact(Aa Y).1.2.1.sub (by have:=Aa F;omega) (VB _)
       clear af;have ag:=Ab (Hy (Aa Y) (Aa Z) a5);go_wp2_with fail
       refine(Aa bc I H G b _ (by have:=Aa F;omega) (by have:=Aa F;omega) (by have:=Aa F;omega) (by have:=Aa F;omega) (Aa T).cx (Aa T).ps (Aa ag).1 (Aa ag).2.1 (Aa ag).2.2).mono ?_;rintro e w3 ⟨rfl,M,a2,m2,aw,g3⟩;have O:=Ab ((Aa T).next a2 g3);have ak:=Ab m2;have aj:=Ab aw;clear a2 g3 m2 aw;have aa:=Ab (Stab.merge_step Stab.lx_trans (by have:=Aa F;omega) (by have:=Aa F;omega) (by have:=Aa F;omega) (by have:=Aa F;omega) a3 (Aa ax) (Aa a1) (Aa a4) (Aa a7) (Aa Z) (Aa ai) (Aa ak) (Aa aj));go_wp2
       all_goals (go_end0;exact⟨rfl,M,(Aa O).ps,(Aa aa).2,(Aa aa).1,(Aa O).grown⟩)
     . have k1:(st:Int)<(m:Int):=by omega
       have k2:(m:Int)<(G:Int):=by omega
       have l1:¬(a:Int)<(st:Int):=by omega
       have n1:(H:Int)<(G:Int):=by omega
       have n2:¬(G:Int)<(b:Int):=by omega
       have F:=Ab U;clear U;go_wp2_with fail
       refine(Xk (CF al) N ah bb l d st m G _ bh (by have:=Aa F;omega) (by have:=Aa F;omega) (by have:=Aa F;omega) (Aa ao).ps).mono ?_;rintro e bn ⟨rfl,ap,g1⟩;have ae:=Ab ((Aa ao).next ap g1);clear ap g1;have T:=ae;obtain⟨I,af⟩:∃I,I=Stab.rot d st m G:=⟨_,rfl⟩
       rw[<-af]at T;have Z:Hid (Stab.Moved a H (Stab.rot d st m G) I):=by rw[af];exact Stab.Moved.refl _ _ _
       have ai:Hid (Stab.Srt Stab.lx I a H):=by rw[af];exact(Aa Y).1.2.1.sub (by have:=Aa F;omega) (VB _)
       clear af;have ag:=Ab (Hy (Aa Y) (Aa Z) a5);have O:=T;obtain⟨M,ac⟩:∃M,M=I:=⟨_,rfl⟩
       rw[<-ac]at O;have ak:Hid (Stab.Moved H b I M):=by rw[ac];exact Stab.Moved.refl _ _ _
       have aj:Hid (Stab.Srt Stab.lx M H b):=by rw[ac];exact(Aa ag).1.sub (VB _) (by have:=Aa F;omega)
       clear ac;have aa:=Ab (Stab.merge_step Stab.lx_trans (by have:=Aa F;omega) (by have:=Aa F;omega) (by have:=Aa F;omega) (by have:=Aa F;omega) a3 (Aa ax) (Aa a1) (Aa a4) (Aa a7) (Aa Z) (Aa ai) (Aa ak) (Aa aj));go_wp2
       all_goals (go_end0;exact⟨rfl,M,(Aa O).ps,(Aa aa).2,(Aa aa).1,(Aa O).grown⟩)
     . have k1:¬(st:Int)<(m:Int):=by omega
       have l1:(a:Int)<(st:Int):=by omega
       have l2:(st:Int)<(H:Int):=by omega
       have n1:¬(H:Int)<(G:Int):=by omega
       have F:=Ab U;clear U;have ae:Hid (CSt N ah al a9 a8 ba a6 l w wr (Stab.rot d st m G)):=by rw[show Stab.rot d st m G=d from by rw[show st=m by have:=Aa F;omega];exact Stab.rot_left d m G];exact Aa ao
       go_wp2_with fail
       refine(Aa bc (Stab.rot d st m G) a st H _ (by have:=Aa F;omega) (by have:=Aa F;omega) (by have:=Aa F;omega) (by have:=Aa F;omega) (Aa ae).cx (Aa ae).ps (Aa Y).1.1 (Aa Y).1.2.1 (Aa Y).1.2.2).mono ?_;rintro e b7 ⟨rfl,I,ar,m1,az,g2⟩;have T:=Ab ((Aa ae).next ar g2);have Z:=Ab m1;have ai:=Ab az;clear ar g2 m1 az;have ag:=Ab (Hy (Aa Y) (Aa Z) a5);have O:=T;obtain⟨M,ac⟩:∃M,M=I:=⟨_,rfl⟩
       rw[<-ac]at O;have ak:Hid (Stab.Moved H b I M):=by rw[ac];exact Stab.Moved.refl _ _ _
       have aj:Hid (Stab.Srt Stab.lx M H b):=by rw[ac];exact(Aa ag).2.1.sub (by have:=Aa F;omega) (VB _)
       clear ac;have aa:=Ab (Stab.merge_step Stab.lx_trans (by have:=Aa F;omega) (by have:=Aa F;omega) (by have:=Aa F;omega) (by have:=Aa F;omega) a3 (Aa ax) (Aa a1) (Aa a4) (Aa a7) (Aa Z) (Aa ai) (Aa ak) (Aa aj));go_wp2
       all_goals (go_end0;exact⟨rfl,M,(Aa O).ps,(Aa aa).2,(Aa aa).1,(Aa O).grown⟩)
     . have k1:¬(st:Int)<(m:Int):=by omega
       have l1:(a:Int)<(st:Int):=by omega
       have l2:¬(st:Int)<(H:Int):=by omega
       have n1:¬(H:Int)<(G:Int):=by omega
       have F:=Ab U;clear U;have ae:Hid (CSt N ah al a9 a8 ba a6 l w wr (Stab.rot d st m G)):=by rw[show Stab.rot d st m G=d from by rw[show st=m by have:=Aa F;omega];exact Stab.rot_left d m G];exact Aa ao
       have T:=ae;obtain⟨I,af⟩:∃I,I=Stab.rot d st m G:=⟨_,rfl⟩
       rw[<-af]at T;have Z:Hid (Stab.Moved a H (Stab.rot d st m G) I):=by rw[af];exact Stab.Moved.refl _ _ _
       have ai:Hid (Stab.Srt Stab.lx I a H):=by rw[af];exact(Aa Y).1.1.sub (VB _) (by have:=Aa F;omega)
       clear af;have ag:=Ab (Hy (Aa Y) (Aa Z) a5);have O:=T;obtain⟨M,ac⟩:∃M,M=I:=⟨_,rfl⟩
       rw[<-ac]at O;have ak:Hid (Stab.Moved H b I M):=by rw[ac];exact Stab.Moved.refl _ _ _
       have aj:Hid (Stab.Srt Stab.lx M H b):=by rw[ac];exact(Aa ag).2.1.sub (by have:=Aa F;omega) (VB _)
       clear ac;have aa:=Ab (Stab.merge_step Stab.lx_trans (by have:=Aa F;omega) (by have:=Aa F;omega) (by have:=Aa F;omega) (by have:=Aa F;omega) a3 (Aa ax) (Aa a1) (Aa a4) (Aa a7) (Aa Z) (Aa ai) (Aa ak) (Aa aj));go_wp2
       all_goals (go_end0;exact⟨rfl,M,(Aa O).ps,(Aa aa).2,(Aa aa).1,(Aa O).grown⟩)
     . have k1:(st:Int)<(m:Int):=by omega
       have k2:¬(m:Int)<(G:Int):=by omega
       have l1:(a:Int)<(st:Int):=by omega
       have l2:¬(st:Int)<(H:Int):=by omega
       have n1:(H:Int)<(G:Int):=by omega
       have n2:(G:Int)<(b:Int):=by omega
       have F:=Ab U;clear U;have ae:Hid (CSt N ah al a9 a8 ba a6 l w wr (Stab.rot d st m G)):=by rw[show Stab.rot d st m G=d from by rw[show G=m by have:=Aa F;omega];exact Stab.rot_right d st m];exact Aa ao
       have T:=ae;obtain⟨I,af⟩:∃I,I=Stab.rot d st m G:=⟨_,rfl⟩
       rw[<-af]at T;have Z:Hid (Stab.Moved a H (Stab.rot d st m G) I):=by rw[af];exact Stab.Moved.refl _ _ _
       have ai:Hid (Stab.Srt Stab.lx I a H):=by rw[af];exact(Aa Y).1.1.sub (VB _) (by have:=Aa F;omega)
       clear af;have ag:=Ab (Hy (Aa Y) (Aa Z) a5);go_wp2_with fail
       refine(Aa bc I H G b _ (by have:=Aa F;omega) (by have:=Aa F;omega) (by have:=Aa F;omega) (by have:=Aa F;omega) (Aa T).cx (Aa T).ps (Aa ag).1 (Aa ag).2.1 (Aa ag).2.2).mono ?_;rintro e w3 ⟨rfl,M,a2,m2,aw,g3⟩;have O:=Ab ((Aa T).next a2 g3);have ak:=Ab m2;have aj:=Ab aw;clear a2 g3 m2 aw;have aa:=Ab (Stab.merge_step Stab.lx_trans (by have:=Aa F;omega) (by have:=Aa F;omega) (by have:=Aa F;omega) (by have:=Aa F;omega) a3 (Aa ax) (Aa a1) (Aa a4) (Aa a7) (Aa Z) (Aa ai) (Aa ak) (Aa aj));go_wp2
       all_goals (go_end0;exact⟨rfl,M,(Aa O).ps,(Aa aa).2,(Aa aa).1,(Aa O).grown⟩)
theorem Nk (N G H E I F O M:Nat)(l:List Int)(T:N<=288):∀L,Z32 N G H E I F O M l L
 |0=>fun d a m b w af ag Z _ _ _ _ _ _=>by omega
 |L+1=>fun d a m b w af ag Z hb U Y aa ac hc=>by
  by_cases ah:m=a+1
  . exact FW N G H E I F O M l d a m b w (Ab ah) T Z hb U Y ac hc
  . by_cases ae:b=m+1
    . exact X5 N G H E I F O M l d a m b w (Ab ae) T (by omega) Z hb U Y aa hc
    . by_cases ai:(a+b)/2<m
      . exact Rg N G H E I F O M l L (Ab (Nk N G H E I F O M l T L)) d a m b ((a+b)/2) ((a+b)/2+m-b) ((a+b)/2) w T (by omega) (by omega) (by omega) hb (Ab rfl) (Ab (.inl ⟨ai,by omega,rfl⟩)) U Y aa ac hc
      . exact Rg N G H E I F O M l L (Ab (Nk N G H E I F O M l T L)) d a m b ((a+b)/2) a m w T (by omega) (by omega) (by omega) hb (Ab rfl) (Ab (.inr ⟨by omega,rfl,rfl⟩)) U Y aa ac hc
set_option maxRecDepth 100000 in
theorem Vk (N F bc I U T Z Y:Nat)(l:List Int)(d:Nat->Int×Int)(a b:Nat)(w:World)(b9:N<=288)(cg:a<=b)(b7:b<=N)(a4:Cx F I U T Z Y l w)(a7:PC N F l d w)(a9:RW d a b):
 Calls Tryz.prog 284 #[.slice (some ⟨F,0,none⟩) N bc,.int .i64 a,.int .i64 b,CF I] w fun e w'=>e=.returned (.tuple #[])/\∃d',PC N F l d' w'/\Stab.Moved a b d d'/\Stab.Srt Stab.lx d' a b/\w.grownBy w' (some F):=by
 have ao:Hid (CSt N F I U T Z Y l w w d):=⟨a7,Aw _ _,a4⟩
 have bw:=Ab a9;clear a7 a4 a9;go_enter Tryz.func284,Tryz.ntmps284
 go_wp2;go_loopw [8] (fun ar wr=>∃(i:Nat) (E:Nat->Int×Int),a<i/\(i<=b\/ (i=a+1/\E=d))/\ar=.int .i64 i/\CSt N F I U T Z Y l w wr E/\Stab.Moved a i d E/\Stab.Srt Stab.lx E a i) (fun ar _=>b+2-(intOf ar).toNat)
 case atStart=>exact⟨a+1,d,by omega,.inr ⟨rfl,rfl⟩,by go_num,Aa ao,Stab.Moved.refl _ _ _,fun i j O ah bv=>by omega⟩
 case round=>
  obtain⟨i,E,bz,au,rfl,ac,ae,M⟩:=hrel;have ap:=Ab ac;have bu:=Ab ae;have bn:=Ab M
  by_cases bf:i<b
  . have bk:Hid (∀k,a<=k->k<i->(E k).2<(E i).2):=fun k O ah=>by
     obtain⟨bh,bj,e2,e3⟩:=ae.mem O ah;rw[ae.out i (by omega),<-e3];exact Aa bw bh i bj e2 bf
    clear au ac ae M ao;go_wp2;go_loopw [9] (fun a2 wr=>∃j:Nat,a<=j/\j<=i/\a2=.int .i64 j/\CSt N F I U T Z Y l w wr (Stab.rot E j i (i+1))/\(j<i->Stab.lx (E i) (E j))) (fun a2 _=>(intOf a2).toNat)
    case atStart=>exact⟨i,by omega,VB _,rfl,by rw[Stab.rot_left];exact Aa ap,fun h=>by omega⟩
    case round=>
     obtain⟨j,a5,a3,rfl,ac,a8⟩:=hrel;have G:=Ab ac;have bb:=Ab a8
     have ag:((a<j->Stab.lx (E (j-1)) (E i))->Hid (Stab.Moved a (i+1) d (Stab.rot E j i (i+1))/\Stab.Srt Stab.lx (Stab.rot E j i (i+1)) a (i+1))):=fun hl=>
      Ab ⟨((Aa bu).wider (VB _) (by omega) (by omega)).trans ((Stab.moved_rot E j i (i+1) a3 (by omega)).wider a5 (by omega) (VB _)),Stab.ins_last a5 a3 (Aa bn) hl (Aa bb)⟩
     clear ac a8
     by_cases cd:a<j
     . obtain⟨t,rfl⟩:∃t,j=t+1:=⟨j-1,by omega⟩
       rw[YA]at ag
       have a1:Stab.rot E (t+1) i (i+1) (t+1)=E i:=by
        unfold Stab.rot;rw[if_pos (by omega)]
        congr 1;omega
       have aw:Stab.rot E (t+1) i (i+1) t=E t:=by
        unfold Stab.rot;rw[if_neg (by omega),if_neg (by omega)]
       have ai:=Ab (Stab.cross_less (Aa bk t (by omega) (by omega)));have al:=Stab.rot_down E (t+1) i (by omega) a3;rw[YA]at al;have az:=Ab al;have ay:=Ab ag;have ax:=fun n=>DN (Aa G).ps (Aa G).cx (t+1) t (by omega) (by omega) n
       rw[a1,aw]at ax;have av:=Ab ax;have c1:=((Aa G).ps (t+1) (by omega)).1.1;have f1:=((Aa G).ps (t+1) (by omega)).1.2;have c2:=((Aa G).ps t (by omega)).1.1;have f2:=((Aa G).ps t (by omega)).1.2;have af:=Ab (fun n=>PC.sw ((Aa G).ps.drewN n) (t+1) t (by omega) (by omega));have aj:=Ab (fun n=>PC.c2 ((Aa G).ps.drewN n) (t+1) t (by omega) (by omega) (.int .i64 (E t).2));rw[a1]at c1 af;rw[aw]at c2 af;clear a1 aw ag al ax;generalize Stab.rot E (t+1) i (i+1)=D at*;obtain⟨s,M⟩:∃s,s=t+1:=⟨_,rfl⟩
       have a6:=Ab M;rw[<-M]at c1 f1 af aj;generalize (E i).2=x at*;generalize (E t).2=y at*;have b4:(a:Int)<(t:Int)+1:=by omega
       have bd:decide ((t:Int)+1>(a:Int))=true:=decide_eq_true (by omega);have ea:((t:Int)+1).toNat=s:=by omega
       have pa:(0:Int)<=(t:Int)+1:=by omega
       have b0:(t:Int)+1<(N:Int):=by omega
       have b8:(t:Int)<(N:Int):=by omega
       have b3:IntKind.i64.wrap (t:Int)=(t:Int):=by rw[IntKind.wrap_i64];omega
       clear M;go_wp2_with fail
       go_quiet ((go_at_call 276;refine Calls.quiet_of (Aa av _)))
       rw[Yq]
       cases ak:decide ((E i).1<(E t).1)with
       |true=>
        have bq:=Ab ((Aa ai).1 ak)
        have aa:Hid (CSt N F I U T Z Y l w (swC (wr.drewN nq) F x y s t).drew (Stab.rot E t i (i+1))):=by
         have O:=(Aa af) nq;rw[Aa a6,Aa az,<-Aa a6]at O;exact(Aa G).next O (Cb (Aj (Ge (Aw wr (some F)) nq) (Mf (wr.drewN nq) F x y s t)))
        obtain⟨u,bg⟩:=(Aa aj) nq;have bi:(wr.drewN nq).cell? ⟨F,s,none⟩=some (.int .i64 x):=c1;have bm:(wr.drewN nq).cell? ⟨F,t,none⟩=some (.int .i64 y):=c2;have bo:(wr.drewN nq).frozen? ⟨F,s,none⟩=false:=f1;have ba:(wr.drewN nq).frozen? ⟨F,t,none⟩=false:=f2;unfold swC at aa;clear ak af ai ay az aj av c1 c2 f1 f2;generalize wr.drewN nq=b5 at*;go_wp2_with fail
        go_big_region
        clear bi bm bo ba bg;go_wp2;go_roundw
        case rel=>exact⟨t,by omega,by omega,by go_num,Aa aa,fun _=>Aa bq⟩
        case measure=>simp[intOf]
       |false=>
        have H:=Aa ay (fun _=>(Aa ai).2 ak);have aa:Hid (CSt N F I U T Z Y l w (wr.drewN nq) D):=(Aa G).next ((Aa G).ps.drewN nq) (Ge (Aw _ _) nq);clear ak ai ay az af aj av c1 c2 f1 f2;go_wp2;go_roundw
        case rel=>exact⟨i+1,D,by omega,.inl (by omega),by go_num,Aa aa,(Aa H).1,(Aa H).2⟩
        case measure=>simp[intOf];omega
     . have ce:¬(a:Int)<(j:Int):=by omega
       have bd:decide ((j:Int)>(a:Int))=false:=decide_eq_false (by omega);have H:=ag (fun h=>by omega);clear ag;generalize Stab.rot E j i (i+1)=D at*;have aa:Hid (CSt N F I U T Z Y l w wr.drew D):=(Aa G).next ((Aa G).ps.drewN 1) (Cb (Aw _ _));go_wp2_with fail
       go_big_region
       all_goals go_wp2
       go_roundw
       case rel=>exact⟨i+1,D,by omega,.inl (by omega),by go_num,Aa aa,(Aa H).1,(Aa H).2⟩
       case measure=>simp[intOf];omega
  . have H:Hid (Stab.Moved a b d E/\Stab.Srt Stab.lx E a b):=by
     rcases au with O|⟨O,ah⟩
     . have e:i=b:=by omega
       rw[<-e];exact⟨ae,M⟩
     . rw[ah];exact⟨Stab.Moved.refl _ _ _,fun i j O ah bv=>by omega⟩
    clear au ac ae M ao;go_wp2;go_end0
    exact⟨rfl,E,(Aa ap).ps,(Aa H).1,(Aa H).2,(Aa ap).grown⟩
set_option maxRecDepth 100000 in
theorem Z3n (N O az aa ah ag ai ae:Nat)(l:List Int)(d:Nat->Int×Int)(w:World)(bd:N<=288)(bi:Cx O aa ah ag ai ae l w)(bk:PC N O l d w)(a8:RW d 0 N):
 Calls Tryz.prog 283 #[.slice (some ⟨O,0,none⟩) N az,.int .i64 N,CF aa] w fun e w'=>e=.returned (.tuple #[])/\∃d',PC N O l d' w'/\Stab.Moved 0 N d d'/\Stab.Srt Stab.lx d' 0 N/\w.grownBy w' (some O):=by
 have bm:Hid (CSt N O aa ah ag ai ae l w w d):=⟨bk,Aw _ _,bi⟩
 have b7:=Ab a8;have bn:Hid (Part d d N 20 0):=⟨fun s h=>by omega,fun _ _=>rfl,fun s i j hi b9 hn=>a8 i j (VH _) (by omega) hn⟩
 have bu:=Ab (Nk N O az aa ah ag ai ae l bd N);clear bk bi a8;go_enter Tryz.func283,Tryz.ntmps283
 go_wp2;go_loopw [7,8] (fun aj ba wr=>∃(t F:Nat) (dk:Nat->Int×Int),Hid (F=t*20)/\F<=N/\aj=.int .i64 F/\ba=.int .i64 ((F:Int)+20)/\CSt N O aa ah ag ai ae l w wr dk/\Stab.Moved 0 N d dk/\Part dk d N 20 t) (fun aj _ _=>N+1-(intOf aj).toNat)
 case atStart=>exact⟨0,0,d,Ab rfl,VH _,rfl,rfl,Aa bm,Stab.Moved.refl _ _ _,Aa bn⟩
 case round=>
  obtain⟨t,F,dk,I,al,rfl,rfl,af,ac,ap⟩:=hrel;have U:=Ab af;have av:=Ab ac;have T:=Ab ap
  have bh:Hid (∀e,e<=N->RW dk F e):=fun e cd i j bq b3 cg=>by
   rw[Aa I]at bq;rw[ap.rest i bq,ap.rest j (by omega)];exact Aa b7 i j (VH _) b3 (by omega)
  clear af ac ap bm bn
  by_cases G:F+20<=N
  . have a4:(F:Int)+20<=(N:Int):=by omega
    have E:Hid ((F:Int)+20=((F+20:Nat):Int)):=by unfold Hid;omega
    go_wp2_with fail
    rw[Aa E];refine(Vk N O az aa ah ag ai ae l dk F (F+20) _ bd (by omega) G (Aa U).cx (Aa U).ps (Aa bh (F+20) G)).mono ?_;rintro e bz ⟨rfl,d',aw,m2,ak,g2⟩;have a3:=Ab ((Aa U).next aw g2);have a1:=Ab ((Aa av).trans (m2.wider (VH _) (by omega) G))
    have b0:Hid (Part d' d N 20 (t+1)):=by
     have H:=Aa I;rw[H]at m2 ak G;exact(Aa T).step G m2 ak
    have b4:Hid (F+20=(t+1)*20):=by have:=Aa I;unfold Hid;omega
    clear aw m2 ak g2;go_wp2;go_roundw
    case rel=>exact⟨t+1,F+20,d',b4,G,rfl,by go_num,Aa a3,Aa a1,Aa b0⟩
    case measure=>simp[intOf];omega
  . have a4:¬(F:Int)+20<=(N:Int):=by omega
    go_wp2_with fail
    refine(Vk N O az aa ah ag ai ae l dk F N _ bd al (VB _) (Aa U).cx (Aa U).ps (Aa bh N (VB _))).mono ?_;rintro e bz ⟨rfl,d',aw,m2,ak,g2⟩;have a3:=Ab ((Aa U).next aw g2);have a1:=Ab ((Aa av).trans (m2.wider (VH _) al (VB _)))
    have a9:Hid (Jq d' N 20/\Cuts d' N 20):=by
     have H:=Aa I;rw[H]at m2 ak;exact(Aa T).last (by omega) (by omega) m2 ak
    clear aw m2 ak g2 U av T bh I al G a4;go_wp2;go_loopw [6,7,8,9] (fun a6 _ _ _ wr=>∃(B:Nat) (M:Nat->Int×Int),0<B/\B<=1000/\a6=.int .i64 B/\CSt N O aa ah ag ai ae l w wr M/\Stab.Moved 0 N d M/\Jq M N B/\Cuts M N B) (fun a6 _ _ _ _=>N-(intOf a6).toNat)
    case atStart=>exact⟨20,d',by omega,by omega,rfl,Aa a3,Aa a1,(Aa a9).1,(Aa a9).2⟩
    case round=>
     obtain⟨B,M,cj,ce,rfl,af,ac,bo,a7⟩:=hrel;have U:=Ab af;have av:=Ab ac;have a2:=Ab bo;have bj:=Ab a7;have a5:Hid (Part M M N (2*B) 0):=⟨fun s h=>by omega,fun _ _=>rfl,a7.double⟩
     clear af ac bo a7 a3 a1 a9
     by_cases ci:B<N
     . go_wp2;go_loopw [7,8] (fun aj ba wr=>∃(t F:Nat) (dk:Nat->Int×Int),Hid (F=t*(2*B))/\F<=N/\aj=.int .i64 F/\ba=.int .i64 ((F:Int)+2*(B:Int))/\CSt N O aa ah ag ai ae l w wr dk/\Stab.Moved 0 N d dk/\Part dk M N (2*B) t) (fun aj _ _=>N+1-(intOf aj).toNat)
       case atStart=>exact⟨0,0,M,Ab (YJ _).symm,VH _,rfl,by go_num,Aa U,Aa av,Aa a5⟩
       case round=>
        obtain⟨t,F,dk,I,al,rfl,rfl,af,ac,ap⟩:=hrel;have ar:=Ab af;have bf:=Ab ac;have T:=Ab ap;clear af ac ap a5
        by_cases G:F+2*B<=N
        . have a4:(F:Int)+2*(B:Int)<=(N:Int):=by omega
          have E:Hid ((F:Int)+2*(B:Int)=((F+2*B:Nat):Int)):=by unfold Hid;omega
          have bb:Hid ((F:Int)+(B:Int)=((F+B:Nat):Int)):=by unfold Hid;omega
          have Z:Hid (Stab.Srt Stab.lx dk F (F+B)/\Stab.Srt Stab.lx dk (F+B) (F+2*B)/\Stab.Cross dk F (F+B) (F+2*B)):=by
           have H:=Aa I;rw[H];rw[H]at G;exact On (Aa a2) (Aa bj) (Aa T).rest (by omega) (VB _) G (.inr rfl)
          go_wp2_with fail
          rw[Aa E,Aa bb];refine(Aa bu dk F (F+B) (F+2*B) _ (by omega) (by omega) (by omega) G (Aa ar).cx (Aa ar).ps (Aa Z).1 (Aa Z).2.1 (Aa Z).2.2).mono ?_;rintro e w3 ⟨rfl,au,ax,Y,ao,g3⟩;have bc:=Ab ((Aa ar).next ax g3);have bg:=Ab ((Aa bf).trans (Y.wider (VH _) (by omega) G))
          have b8:Hid (Part au M N (2*B) (t+1)):=by
           have H:=Aa I;rw[H]at Y ao G;exact(Aa T).step G Y ao
          have b5:Hid (F+2*B=(t+1)*(2*B)):=by have:=Aa I;unfold Hid;rw[ZD t (2*B),<-this]
          clear ax Y ao g3 Z;go_wp2;go_roundw
          case rel=>exact⟨t+1,F+2*B,au,b5,G,rfl,by go_num,Aa bc,Aa bg,Aa b8⟩
          case measure=>simp[intOf];omega
        . have a4:¬(F:Int)+2*(B:Int)<=(N:Int):=by omega
          by_cases hm:F+B<N
          . have bw:(F:Int)+(B:Int)<(N:Int):=by omega
            have bb:Hid ((F:Int)+(B:Int)=((F+B:Nat):Int)):=by unfold Hid;omega
            have Z:Hid (Stab.Srt Stab.lx dk F (F+B)/\Stab.Srt Stab.lx dk (F+B) N/\Stab.Cross dk F (F+B) N):=by
             have H:=Aa I;rw[H];rw[H]at G hm;exact On (Aa a2) (Aa bj) (Aa T).rest hm (by omega) (VB _) (.inl rfl)
            go_wp2_with fail
            rw[Aa bb];refine(Aa bu dk F (F+B) N _ (by omega) (by omega) hm (VB _) (Aa ar).cx (Aa ar).ps (Aa Z).1 (Aa Z).2.1 (Aa Z).2.2).mono ?_;rintro e w3 ⟨rfl,au,ax,Y,ao,g3⟩;have bc:=Ab ((Aa ar).next ax g3);have bg:=Ab ((Aa bf).trans (Y.wider (VH _) al (VB _)))
            have ay:Hid (Jq au N (2*B)/\Cuts au N (2*B)):=by
             have H:=Aa I;rw[H]at Y ao;exact(Aa T).last (by omega) (by omega) Y ao
            clear ax Y ao g3 Z T I;go_wp2;go_roundw
            case rel=>exact⟨2*B,au,by omega,by omega,congrArg (Value.int .i64) (by omega),Aa bc,Aa bg,(Aa ay).1,(Aa ay).2⟩
            case measure=>simp[intOf];omega
          . have bw:¬(F:Int)+(B:Int)<(N:Int):=by omega
            have ay:Hid (Jq dk N (2*B)/\Cuts dk N (2*B)):=by
             have H:=Aa I;rw[H]at G hm al;exact(Aa T).last al (by omega) (Stab.Moved.refl _ _ _) (MY (Aa a2) (Aa T).rest (by omega))
            clear T I;go_wp2;go_roundw
            case rel=>exact⟨2*B,dk,by omega,by omega,congrArg (Value.int .i64) (by omega),Aa ar,Aa bf,(Aa ay).1,(Aa ay).2⟩
            case measure=>simp[intOf];omega
     . have bv:Hid (Stab.Srt Stab.lx M 0 N):=by
        have:=Aa a2 0
        rw[YJ,YG (by omega)]at this;exact this
       clear a5;go_wp2;go_end0
       exact⟨rfl,M,(Aa U).ps,Aa av,Aa bv,(Aa U).grown⟩
theorem S5 (N E O F U M Z Y:Nat)(l:List Int)(d:Nat->Int×Int)(w:World)(ac:N<=288)(G:Cx E F U M Z Y l w)(I:PC N E l d w)(T:RW d 0 N):
 Calls Tryz.prog 275 #[.slice (some ⟨E,0,none⟩) N O,CF F] w fun e w'=>e=.returned (.tuple #[])/\∃d',PC N E l d' w'/\Stab.Moved 0 N d d'/\Stab.Srt Stab.lx d' 0 N/\w.grownBy w' (some E):=by
 have aa:=Ab (Z3n N E O F U M Z Y l d w ac G I T);clear G I T;go_enter Tryz.func275,Tryz.ntmps275
 go_wp2_with fail
 refine(Aa aa).mono ?_;rintro e ae ⟨rfl,h⟩;have H:=Ab h;clear h;go_wp2;go_end0
 exact⟨rfl,Aa H⟩
theorem Oi (p:Option Addr)(G F:Nat)(w:World):
 Calls Tryz.prog 275 #[.slice p 0 G,CF F] w fun e w'=>e=.returned (.tuple #[])/\w'=w:=by
 have O:∀w,Calls Tryz.prog 284 #[.slice p 0 G,.int .i64 0,.int .i64 0,CF F] w fun e w'=>e=.returned (.tuple #[])/\w'=w:=by
  intro w;go_enter Tryz.func284,Tryz.ntmps284
  go_wp2;go_loopw [8] (fun H wr=>H=.int .i64 1/\wr=w) (fun H _=>0)
  case atStart=>exact⟨rfl,rfl⟩
  case round=>
   obtain⟨rfl,rfl⟩:=hrel;go_wp2;go_end0
   exact⟨rfl,rfl⟩
 have T:∀w,Calls Tryz.prog 283 #[.slice p 0 G,.int .i64 0,CF F] w fun e w'=>e=.returned (.tuple #[])/\w'=w:=by
  intro w;go_enter Tryz.func283,Tryz.ntmps283
  go_wp2;go_loopw [7,8] (fun E I wr=>E=.int .i64 0/\I=.int .i64 20/\wr=w) (fun E _ _=>0)
  case atStart=>exact⟨rfl,rfl,rfl⟩
  case round=>
   obtain⟨rfl,rfl,rfl⟩:=hrel;go_wp2_with fail
   refine(O wr).mono ?_;rintro e M ⟨rfl,rfl⟩;go_wp2;go_loopw [6,7,8,9] (fun E I Y U wr=>E=.int .i64 20/\wr=M) (fun E _ _ _ _=>0)
   case atStart=>exact⟨rfl,rfl⟩
   case round=>
    obtain⟨rfl,rfl⟩:=hrel;go_wp2;go_end0
    exact⟨rfl,rfl⟩
 go_enter Tryz.func275,Tryz.ntmps275
 go_wp2_with fail
 refine(T w).mono ?_;rintro e M ⟨rfl,rfl⟩;go_wp2;go_end0
 exact⟨rfl,rfl⟩
structure WRow (w:World)(g:Nat)(xs:List Int):Prop where
 lt:g<w.heap.size
 at_:∀j,j<xs.length->w.cell? ⟨g,j,none⟩=some (.int .i64 (xs.getD j 0))/\w.frozen? ⟨g,j,none⟩=false
theorem WRow.row {w:World}{E:Nat}{xs:List Int}(F:WRow w E xs):RowIn .i64 w (some ⟨E,0,none⟩) xs:=.inr ⟨E,0,rfl,F.lt,fun j G=>by rw[WG];exact(F.at_ j G).1⟩
theorem WRow.grown {w w':World}{E:Nat}{xs:List Int}{r:Option Nat}(F:WRow w E xs)(H:w.grownBy w' r)(I:some E≠r):WRow w' E xs:=by
 refine⟨VG F.lt H.size,fun j G=> ?_⟩;have e:=H.block E F.lt I;exact⟨by rw[World.cell?_of_block (w:=w) (a:=⟨E,j,none⟩) e];exact(F.at_ j G).1,by rw[World.frozen?_of_block (w:=w) (a:=⟨E,j,none⟩) e];exact(F.at_ j G).2⟩
theorem WRow.below {w w':World}{B E:Nat}{xs:List Int}(F:WRow w E xs)(G:Below B w w')(H:E<B):WRow w' E xs:=
 ⟨VG F.lt G.size,fun j I=>⟨by rw[G.cell (p:=⟨E,j,none⟩) H];exact(F.at_ j I).1,by rw[G.frozen (p:=⟨E,j,none⟩) H];exact(F.at_ j I).2⟩⟩
theorem WRow.own {w:World}{B F n H:Nat}{xs:List Int}(E:w.ownsRow B 3 1 (.slice (some ⟨F,0,none⟩) n H) n (iv xs)):WRow w F xs:=by
 refine⟨(E.lt F rfl).2,fun j G=>⟨?_,E.frozenAt j⟩⟩;have hn:xs.length=n:=by have:=E.1;simpa using this
 rw[E.cellAt j (by omega)];simp[List.getD,G]
theorem WRow.set {w:World}{G:Nat}{xs:List Int}(E:WRow w G xs)(i:Nat)(H:i<xs.length)(v:Int):WRow (w.setCell ⟨G,i,none⟩ (.int .i64 v)) G (xs.set i v):=by
 refine⟨by simpa using E.lt,fun j F=> ?_⟩;rw[XS]at F;refine⟨?_,by simp[(E.at_ j F).2]⟩
 by_cases e:i=j
 . subst e;rw[World.cell?_setCell_same _ _ _ (E.at_ i F).1];simp[List.getD,H]
 . rw[World.cell?_setCell_other _ _ _ _ (by intro E;injection E;omega),(E.at_ j F).1];simp[List.getD,e]
theorem WRow.other {w:World}{F:Nat}{xs:List Int}(E:WRow w F xs){a:Addr}(H:a.block≠F)(v:Value):WRow (w.setCell a v) F xs:=by
 refine⟨by simpa using E.lt,fun j G=>⟨?_,by simp[(E.at_ j G).2]⟩⟩;rw[World.cell?_setCell_other _ _ _ _ (by intro E;subst E;exact H rfl)];exact(E.at_ j G).1
theorem WRow.drew {w:World}{F:Nat}{xs:List Int}(E:WRow w F xs):WRow w.drew F xs:=⟨E.lt,E.at_⟩
abbrev ni (P:List Nat):List Int:=P.map fun p:Nat=>(p:Int)
def dOf (l:List Int)(P:List Nat)(k:Nat):Int×Int:=(l.getD (P.getD k 0) 0,(P.getD k 0:Nat))
theorem Z3u (l:List Int)(P:List Nat):(Stab.seg (dOf l P) 0 P.length).map (fun x=>x.2.toNat)=P:=by
 apply XK
 . simp[Stab.seg]
 . intro i F E;simp[Stab.seg,dOf,List.getD,E]
theorem Z3x {l:List Int}{N Z:Nat}{w':World}{d':Nat->Int×Int}(aa:N=(wpl l l.length).length)(G:PC N Z l d' w')(T:Stab.Moved 0 N (dOf l (wpl l l.length)) d')(O:Stab.Srt Stab.lx d' 0 N)(P:List Nat)(E:P=(Stab.seg d' 0 N).map fun x=>x.2.toNat):RiseOf l P:=by
 have ah:P.length=N:=by rw[E];simp[Stab.seg]
 have H:∀i (h:i<P.length),P[i]=(d' i).2.toNat:=by
  intro i h;simp[E,Stab.seg]
 refine⟨?_, ?_⟩
 . have:=T.perm.map (fun x:Int×Int=>x.2.toNat)
   rw[<-E,aa,Z3u]at this;exact this
 . rw[YE];intro i j hi U ac;have Y:i<N:=by omega
   have F:j<N:=by omega
   obtain⟨_,p,M,ai,af⟩:=G i Y;obtain⟨_,q,I,ag,ae⟩:=G j F;have h:=O i j (VH _) ac F;unfold Stab.lx at h;rw[H i hi,H j U,M,I,WM,WM];rw[M,I,af,ae]at h;omega
set_option maxRecDepth 100000 in
theorem FJ (a:Option Addr)(F I:Nat)(l:List Int)(w:World)(ac:l.length=F)(b4:F<=288)(G:RowIn .i64 w a l):
 Calls Tryz.prog 258 #[.slice a F I] w fun e w'=>∃v P,e=.returned v/\RiseOf l P/\Below w.heap.size w w'/\((P= []/\v=.slice none 0 0)\/∃g c,v=.slice (some ⟨g,0,none⟩) P.length c/\P.length<=c/\c<=maxLen/\w.heap.size<=g/\WRow w' g (ni P)):=by
 obtain⟨bf,hi,bw,b8,b3⟩:=info_parts Bv;have aj:=Ab ac;have bb:=Ab G;have b0:(w.alloc (.cells #[.slice a F I] 76)).cell? ⟨w.heap.size,0,none⟩=some (.slice a F I):=by simp
 clear G;have bg:=Ab ((Below.refl w.heap.size w).alloc (VB _) (.cells #[.slice a F I] 76));go_enter Tryz.func258,Tryz.ntmps258
 go_wp2;go_loopw [3,4,5,8] (fun vo _ _ i wr=>∃k:Nat,k<=F/\i=.int .i64 k/\wr.ownsRow (w.heap.size+1) 3 1 vo (wpl l k).length (i64s (wpl l k))/\(wpl l k= []->vo=.slice none 0 0)/\Below (w.heap.size+1) (w.alloc (.cells #[.slice a F I] 76)) wr) (fun _ _ _ i _=>F-(intOf i).toNat)
 case atStart=>exact⟨0,VH _,rfl,⟨rfl,.inl ⟨rfl,rfl⟩⟩,fun _=>rfl,Below.refl _ _⟩
 case round=>
  obtain⟨k,a5,rfl,M,a3,T⟩:=hrel;have ai:=Ab a3;clear a3;have Y:=Ab M;have O:=Ab T;have b7:=T.size;simp only[World.size_alloc]at b7
  by_cases cm:k<F
  . have a2:k<l.length:=by omega
    obtain⟨b,o,rfl,hb,G⟩:∃b o,a=some ⟨b,o,none⟩/\b<w.heap.size/\Row .i64 w b o l:=by
     rcases Aa bb with rfl|h
     . simp at a2
     . exact h
    have c1:=((Aa O).cell (p:=⟨b,o+k,none⟩) (by simp;omega)).trans ((World.cell?_alloc_past _ _ _ hb).trans (G k a2));have ce:=Pt l k;have H:Hid (wpl l (k+1)=wpl l k++(if 0<l.getD k 0 then [k]else [])):=rfl;clear M T G;generalize l.getD k 0=x at*
    by_cases a9:0<x
    . rw[if_pos a9]at H;go_wp2_with (at_builtin;refine wpList_append_own _ rfl _ _ 76 rfl (w.heap.size+1) 3 bf (.int .i64 0) 1 8 Tryz.underlying76 hi bw b8 b3 rfl (by decide) _ _ _ rfl ((Aa Y).alloc _) ⟨wr.heap.size,0,none⟩ 1 1 [.int .i64 (k:Int)] rfl rfl (by intro j u E;match j,E with|0,E=>simp at E;subst E;simp[Addr.add]) (by intro u aw;simp at aw;subst aw;rfl) (by unfold maxLen;omega) (by omega) (by simp;omega) ?_)
      intro v' cg ao a6 _;have bc:=Ab ao;have bd:=Ab (((Aa O).alloc (by omega) _).grown a6 (by simp;omega) (fun k a5=>((Aa Y).lt k a5).1));clear ao a6;go_wp2;go_roundw
      case rel=>
       refine⟨k+1,by omega,by go_num, ?_,fun h=>by rw[Aa H]at h;simp at h,Aa bd⟩;have e:i64s (wpl l (k+1))=i64s (wpl l k)++ [.int .i64 (k:Int)]:=by rw[Aa H];simp[i64s]
       have e2:(wpl l (k+1)).length=(wpl l k).length+1:=by rw[Aa H,VE];rfl
       rw[e,e2];exact Aa bc
      case measure=>simp[intOf];omega
    . rw[if_neg a9,XA]at H;go_wp2;go_roundw
      case rel=>exact⟨k+1,by omega,by go_num,by rw[Aa H];exact Aa Y,by rw[Aa H];exact Aa ai,Aa O⟩
      case measure=>simp[intOf];omega
  . obtain rfl:k=F:=by omega
    have av:Hid (Below w.heap.size w wr):=(Aa bg).trans ((Aa O).mono (by omega))
    by_cases ag:wpl l k= []
    . have ae:=Aa ai ag;subst ae;have bi:Hid (RiseOf l []):=⟨by rw[Aa aj,ag],.nil⟩
      clear M T;go_wp2_with fail
      refine(Oi none 0 w.heap.size wr).mono ?_;rintro e aa ⟨rfl,rfl⟩;go_wp2;go_ret;exact⟨_,[],rfl,Aa bi,Aa av,.inl ⟨rfl,rfl⟩⟩
    . have cp:0<(wpl l k).length:=by cases h:wpl l k with|nil=>exact absurd h ag|cons=>simp
      obtain⟨g,c,ae,ar,az,bn,bo⟩:∃g c,u3=.slice (some ⟨g,0,none⟩) (wpl l k).length c/\w.heap.size+1<=g/\g<wr.heap.size/\(wpl l k).length<=c/\c<=maxLen:=by
       rcases M.2 with h|⟨g,c,cur,Z,bu,ba,bv,bh,co,cn⟩
       . omega
       . refine⟨g,c,Z,bu, ?_,bv,bh⟩
         rcases ZQ g wr.heap.size with h|h
         . exact h
         . rw[ZN h]at ba;cases ba
      subst ae;have cj:=Pt l k
      obtain⟨b,o,rfl,hb,G⟩:∃b o,a=some ⟨b,o,none⟩/\b<w.heap.size/\Row .i64 w b o l:=by
       rcases Aa bb with rfl|h
       . simp at ac;omega
       . exact h
      have al:Cx g w.heap.size b o k I l wr:=by
       refine⟨((Aa O).cell (p:=⟨w.heap.size,0,none⟩) (by simp)).trans b0,fun j E=>((Aa O).cell (p:=⟨b,o+j,none⟩) (by simp;omega)).trans ((World.cell?_alloc_past _ _ _ hb).trans (G j E)),ac,b4, ?_, ?_,az,by omega,by omega⟩
       . omega
       . omega
      have ap:PC (wpl l k).length g l (dOf l (wpl l k)) wr:=by
       intro j E;refine⟨⟨?_,M.frozenAt j⟩,(wpl l k).getD j 0,rfl, ?_,rfl⟩
       . rw[M.cellAt j (by omega)];simp[dOf,List.getD,E]
       . have Z:(wpl l k).getD j 0∈wpl l k:=by simp[List.getD,E]
         have:=JY l k _ Z
         omega
      have ay:RW (dOf l (wpl l k)) 0 (wpl l k).length:=by
       intro i j _ bj E;have Z:=(YE.1 (AX l k)) i j (by omega) E bj;have bq:(wpl l k).getD i 0=(wpl l k)[i]'(by omega):=by simp[List.getD,show i<(wpl l k).length by omega]
       have e2:(wpl l k).getD j 0=(wpl l k)[j]'E:=by simp[List.getD,E]
       unfold dOf;simp only[];rw[bq,e2];omega
      have bk:=Ab (S5 (wpl l k).length g c w.heap.size b o k I l _ wr (by omega) al ap ay);have au:=Ab ar;clear M T al ap ay G Y O ai ar;generalize ax:(wpl l k).length=N at*;have bm:=Ab ax;clear ax;go_wp2_with fail
      refine(Aa bk).mono ?_;rintro e aa ⟨rfl,d',ah,a1,a4,ak⟩;obtain⟨P,U⟩:∃P,P=(Stab.seg d' 0 N).map fun x=>x.2.toNat:=⟨_,rfl⟩
      have af:P.length=N:=by rw[U];simp[Stab.seg]
      have cd:Hid (RiseOf l P):=by
       refine Z3x (by rw[Aa aj,Aa bm]) ah ?_ a4 P U;rw[Aa aj];exact a1
      have bz:Hid (WRow aa g (ni P)):=by
       refine⟨VG az ak.size,fun j E=> ?_⟩;have a7:j<N:=by simpa[af]using E
       obtain⟨⟨c0,f0⟩,p,b5,ci,ck⟩:=ah j a7;refine⟨?_,f0⟩;rw[c0]
       have:(ni P).getD j 0=(d' j).2:=by
        simp[U,Stab.seg,List.getD,a7,b5]
       rw[this]
      have b9:Hid (Below w.heap.size w aa):=(Aa av).grown ak (by omega) (fun j h=>by cases h;have:=Aa au;omega);have a8:=Ab af;clear ah a1 a4 ak U af;go_wp2;go_ret;refine⟨_,P,rfl,Aa cd,Aa b9,.inr ⟨g,c, ?_, ?_,bo, ?_,Aa bz⟩⟩
      . rw[Aa a8];rfl
      . rw[Aa a8];exact bn
      . have:=Aa au;omega
end Go.Proofs.YtleocpdblhbimaaGreatDoor
