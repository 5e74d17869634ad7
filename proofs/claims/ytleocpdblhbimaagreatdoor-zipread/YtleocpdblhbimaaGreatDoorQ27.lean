import Derived.Test.YtleocpdblhbimaaGreatDoorQ26
set_option linter.unusedSimpArgs false
set_option linter.unusedVariables false
set_option maxHeartbeats 8000000
namespace Go.Proofs.YtleocpdblhbimaaGreatDoor
open Go.RowKit
def Z32 (N bp cap bx bl ol ln lc:Nat)(l:List Int)(L:Nat):Prop:=∀(d:Nat->Int×Int) (a m b:Nat) (w:World),b-a<=L->a<m->m<b->b<=N->Cx bp bx bl ol ln lc l w->
 PC N bp l d w->Stab.Srt Stab.lx d a m->Stab.Srt Stab.lx d m b->Stab.Cross d a m b->
 Calls Tryz.prog 285 #[.slice (some ⟨bp,0,none⟩) N cap,.int .i64 a,.int .i64 m,.int .i64 b,CF bx] w fun e w'=>e=.returned (.tuple #[])/\∃d',PC N bp l d' w'/\Stab.Moved a b d d'/\Stab.Srt Stab.lx d' a b/\w.grownBy w' (some bp)
structure CSt (N bp bx bl ol ln lc:Nat)(l:List Int)(w W:World)(D:Nat->Int×Int):Prop where
 ps:PC N bp l D W
 grown:w.grownBy W (some bp)
 cx:Cx bp bx bl ol ln lc l W
theorem CSt.next {N E T F M I O:Nat}{l:List Int}{w W W':World}{U G:Nat->Int×Int}(s:CSt N E T F M I O l w W U)(p:PC N E l G W')(H:W.grownBy W' (some E)):CSt N E T F M I O l w W' G:=
 ⟨p,Aj s.grown H,s.cx.grown H⟩
theorem Hy {F H:Nat->Int×Int}{a st E G b:Nat}(M:(Stab.Srt Stab.lx F a st/\Stab.Srt Stab.lx F st E/\Stab.Cross F a st E)/\(Stab.Srt Stab.lx F E G/\Stab.Srt Stab.lx F G b/\Stab.Cross F E G b))(I:Stab.Moved a E F H)(T:E<=G):
 Stab.Srt Stab.lx H E G/\Stab.Srt Stab.lx H G b/\Stab.Cross H E G b:=
 ⟨M.2.1.congr (fun k O _=>I.out k om),M.2.2.1.congr (fun k O _=>I.out k om),M.2.2.2.congr (fun k O _=>I.out k om)⟩
set_option maxRecDepth 100000 in
theorem Rg (N ah bb al a8 ba a6 a9:Nat)(l:List Int)(L:Nat)(bc:Hid (Z32 N ah bb al a8 ba a6 a9 l L))(d:Nat->Int×Int)(a m b H ax a3:Nat)(w:World)(bh:N<=288)(dx:b-a<=L+1)(df:a+1<m)(dh:m+1<b)(dc:b<=N) (b7:Hid (H=(a+b)/2)) (bd:Hid ((H<m/\ax+b=H+m/\a3=H)\/ (m<=H/\ax=a/\a3=m))) (cq:Cx ah al a8 ba a6 a9 l w) (b9:PC N ah l d w) (cg:Stab.Srt Stab.lx d a m) (b5:Stab.Srt Stab.lx d m b) (ci:Stab.Cross d a m b):Calls Tryz.prog 285 #[.slice (some ⟨ah,0,none⟩) N bb,.int .i64 a,.int .i64 m,.int .i64 b,CF al] w fun e w'=>e=.returned (.tuple #[])/\∃d',PC N ah l d' w'/\Stab.Moved a b d d'/\Stab.Srt Stab.lx d' a b/\w.grownBy w' (some ah):=by
 have ck:=Ab b9;have az:=Ab cg;have aw:=Ab b5;have cd:=Ab ci;have ct:=Ab cq;(have dt:((m:Int)-(a:Int)==1)=false:=by rw[beq_eq_false_iff_ne];omega);(have dd:((b:Int)-(m:Int)==1)=false:=by rw[beq_eq_false_iff_ne];omega);(have bi:a<=ax/\ax<=a3/\a3<=m/\a3<=H/\a<H/\H<b/\H+m<=ax+b:=by have:=Aa b7;have:=Aa bd;omega);obtain⟨dj,c6,dv,dl,de,di,dn⟩:=bi;(have cn:((a:Int)+(b:Int))/2=(H:Int):=by have:=Aa b7;omega);have au:=Ab cn;clear b9 cg b5 ci cq cn;(rcases Aa bd with ⟨c9,bu,bw⟩|⟨c9,bu,bw⟩);(case' inl=>have c5:((a:Int)+(b:Int))/2<(m:Int):=by rw[Aa au];omega);case' inr=>have c5:¬((a:Int)+(b:Int))/2<(m:Int):=by rw[Aa au];omega
 all_goals
  have co:=Ab bu
  have b8:=Ab bw
  clear bu bw
  go_enter Tryz.func285,Tryz.ntmps285
  go_wp2
  go_loopw [20,21,23] (fun bn bv du wr=>∃st r q:Nat,ax<=st/\st<=r/\r<=a3/\bn=.int .i64 st/\bv=.int .i64 r/\(ax<st->Stab.lx (d (st-1)) (d (H+m-st)))/\(r<a3->Stab.lx (d (H+m-1-r)) (d r))/\wr=w.drewN q) (fun bn bv _ _=>(intOf bv).toNat-(intOf bn).toNat)
  case atStart=>exact⟨ax,a3,0,VB _,c6,VB _,congrArg (Value.int .i64) (by have:=Aa co;have:=Aa au;omega),congrArg (Value.int .i64) (by have:=Aa b8;have:=Aa au;omega),fun h=>om,fun h=>om,rfl⟩
  case round=>
   obtain⟨st,r,q,cw,dw,cy,rfl,rfl,bi,cp,b0⟩:=hrel
   have bf:=Ab b0
   have bo:=Ab bi
   have bq:=Ab cp
   clear bi cp b0
   by_cases dp:st<r
   . obtain⟨c,cz⟩:∃c,c=(st+r)/2:=⟨_,rfl⟩
     have cv:st<=c:=om
     have dm:c<r:=om
     have E:Hid (((st:Int)+(r:Int))/2=(c:Int)):=by unfold Hid;omega
     obtain⟨f,ce⟩:∃f,f=H+m-1-c:=⟨_,rfl⟩
     have dq:(((a:Int)+(b:Int))/2+(m:Int)-1-(c:Int)).toNat=f:=by have:=Aa au;omega
     have ar:(0:Int)<=((a:Int)+(b:Int))/2+(m:Int)-1-(c:Int):=by have:=Aa au;omega
     have b2:((a:Int)+(b:Int))/2+(m:Int)-1-(c:Int)<(N:Int):=by have:=Aa au;omega
     have r2:IntKind.i64.wrap (((a:Int)+(b:Int))/2+(m:Int)-1-(c:Int))=((a:Int)+(b:Int))/2+(m:Int)-1-(c:Int):=by rw[IntKind.wrap_i64];have:=Aa au;omega
     have bk:=Ab (Stab.cross_less (Aa cd c f om om om om))
     have bj:PC N ah l d wr:=by rw[Aa bf];exact(Aa ck).drewN q
     have b3:Cx ah al a8 ba a6 a9 l wr:=by rw[Aa bf];exact(Aa ct).drewN q
     have cj:=fun n=>DN bj b3 f c om om n
     have cc:=(bj c om).1.1
     have ca:=(bj f om).1.1
     generalize (d c).2=y at*
     generalize (d f).2=z at*
     have db:=Ab cj
     have b4:=Ab ce
     have dr:(c:Int)<(N:Int):=om
     clear cz bj b3 cj ce
     go_wp2_with fail
     rw[Aa E]
     go_wp2_with fail
     go_quiet ((go_at_call 276;refine Calls.quiet_of (Aa db _)))
     rw[Yq]
     cases bm:decide ((d f).1<(d c).1)with
     |true=>
      have bg:=Ab ((Aa bk).1 bm)
      rw[Aa b4]at bg
      clear bk bm
      go_wp2
      go_roundw
      case rel=>exact⟨st,c,_,cw,cv,om,rfl,rfl,Aa bo,fun _=>Aa bg,by rw[Aa bf,World.drewN_drewN]⟩
      case measure=>simp[intOf];omega
     |false=>
      have bg:=Ab ((Aa bk).2 bm)
      have c8:Hid (H+m-(c+1)=f):=by have:=Aa b4;unfold Hid;omega
      clear bk bm
      go_wp2
      go_roundw
      case rel=>exact⟨c+1,r,_,om,om,cy,by go_num,rfl,fun _=>by rw[Aa c8];exact Aa bg,Aa bq,by rw[Aa bf,World.drewN_drewN]⟩
      case measure=>simp[intOf];omega
   . obtain rfl:st=r:=om
     have dy:¬(st:Int)<(st:Int):=om
     obtain⟨G,da⟩:∃G,G+st=H+m:=⟨H+m-st,om⟩
     have ds:(H:Int)+(m:Int)-(st:Int)=(G:Int):=om
     have ay:H+m=st+G:=om
     have c7:m<=G:=by have:=Aa bd;omega
     have cu:G<=b:=om
     have a7:H<=G:=om
     have Z:=Ab (Stab.merge_parts (show a<=st by omega) (show st<=m by omega) c7 cu ay (Aa az) (Aa aw) (Aa cd))
     have a4:Hid (a<st->G<b->Stab.lx (d (st-1)) (d G)):=fun c1 c2=>by
      have h:=Aa bo (by have:=Aa co;have:=Aa bd;omega)
      rw[show H+m-st=G by omega]at h
      exact h
     have a5:Hid (st<m->m<G->Stab.lx (d (G-1)) (d st)):=fun c1 c2=>by
      have h:=Aa bq (by have:=Aa b8;have:=Aa bd;omega)
      rw[show H+m-1-st=G-1 by omega]at h
      exact h
     have ao:Hid (CSt N ah al a8 ba a6 a9 l w wr d):=by rw[Aa bf];exact⟨(Aa ck).drewN q,Ge (Aw _ _) q,(Aa ct).drewN q⟩
     rw[Aa au]
     have U:(st<m/\m<G/\a<st/\G<b/\st<H/\H<G)\/ (st<m/\m<G/\a<st/\G=b/\st<H/\H<G)\/ (st<m/\m<G/\st=a/\G<b/\st<H/\H<G)\/ (st<m/\m<G/\st=a/\G=b/\st<H/\H<G)\/ (st=m/\G=H/\a<st/\st<H)\/ (st=m/\G=H/\a<st/\st=H)\/ (st<m/\G=m/\st=H/\a<st/\H<G/\G<b):=om
     clear bo bq da
     rcases U with U|U|U|U|U|U|U
     . have k1:(st:Int)<(m:Int):=om
       have k2:(m:Int)<(G:Int):=om
       have l1:(a:Int)<(st:Int):=om
       have l2:(st:Int)<(H:Int):=om
       have n1:(H:Int)<(G:Int):=om
       have n2:(G:Int)<(b:Int):=om
       have F:=Ab U
       clear U
       go_wp2_with fail
       refine(Xk (CF al) N ah bb l d st m G _ bh (oh F) (oh F) (oh F) (Aa ao).ps).mono ?_
       rintro e bz ⟨rfl,ap,g1⟩
       have ac:=Ab ((Aa ao).next ap g1)
       clear ap g1
       go_wp2_with fail
       refine(Aa bc (Stab.rot d st m G) a st H _ (oh F) (oh F) (oh F) (oh F) (Aa ac).cx (Aa ac).ps (Aa Z).1.1 (Aa Z).1.2.1 (Aa Z).1.2.2).mono ?_
       rintro e cm ⟨rfl,I,ar,m1,a1,g2⟩
       have T:=Ab ((Aa ac).next ar g2)
       have aa:=Ab m1
       have ak:=Ab a1
       clear ar g2 m1 a1
       have af:=Ab (Hy (Aa Z) (Aa aa) a7)
       go_wp2_with fail
       refine(Aa bc I H G b _ (oh F) (oh F) (oh F) (oh F) (Aa T).cx (Aa T).ps (Aa af).1 (Aa af).2.1 (Aa af).2.2).mono ?_
       rintro e w3 ⟨rfl,M,a2,m2,av,g3⟩
       have O:=Ab ((Aa T).next a2 g3)
       have ai:=Ab m2
       have aj:=Ab av
       clear a2 g3 m2 av
       have Y:=Ab (Stab.merge_step Stab.lx_trans (oh F) (oh F) (oh F) (oh F) ay (Aa az) (Aa aw) (Aa a4) (Aa a5) (Aa aa) (Aa ak) (Aa ai) (Aa aj))
       go_wp2
       all_goals (go_end0;exact⟨rfl,M,(Aa O).ps,(Aa Y).2,(Aa Y).1,(Aa O).grown⟩)
     . have k1:(st:Int)<(m:Int):=om
       have k2:(m:Int)<(G:Int):=om
       have l1:(a:Int)<(st:Int):=om
       have l2:(st:Int)<(H:Int):=om
       have n1:(H:Int)<(G:Int):=om
       have n2:¬(G:Int)<(b:Int):=om
       have F:=Ab U
       clear U
       go_wp2_with fail
       refine(Xk (CF al) N ah bb l d st m G _ bh (oh F) (oh F) (oh F) (Aa ao).ps).mono ?_
       rintro e bz ⟨rfl,ap,g1⟩
       have ac:=Ab ((Aa ao).next ap g1)
       clear ap g1
       go_wp2_with fail
       refine(Aa bc (Stab.rot d st m G) a st H _ (oh F) (oh F) (oh F) (oh F) (Aa ac).cx (Aa ac).ps (Aa Z).1.1 (Aa Z).1.2.1 (Aa Z).1.2.2).mono ?_
       rintro e cm ⟨rfl,I,ar,m1,a1,g2⟩
       have T:=Ab ((Aa ac).next ar g2)
       have aa:=Ab m1
       have ak:=Ab a1
       clear ar g2 m1 a1
       have af:=Ab (Hy (Aa Z) (Aa aa) a7)
       have O:=T
       obtain⟨M,ae⟩:∃M,M=I:=⟨_,rfl⟩
       rw[<-ae]at O
       have ai:Hid (Stab.Moved H b I M):=by rw[ae];exact Stab.Moved.refl _ _ _
       have aj:Hid (Stab.Srt Stab.lx M H b):=by rw[ae];exact(Aa af).1.sub (VB _) (oh F)
       clear ae
       have Y:=Ab (Stab.merge_step Stab.lx_trans (oh F) (oh F) (oh F) (oh F) ay (Aa az) (Aa aw) (Aa a4) (Aa a5) (Aa aa) (Aa ak) (Aa ai) (Aa aj))
       go_wp2
       all_goals (go_end0;exact⟨rfl,M,(Aa O).ps,(Aa Y).2,(Aa Y).1,(Aa O).grown⟩)
     . have k1:(st:Int)<(m:Int):=om
       have k2:(m:Int)<(G:Int):=om
       have l1:¬(a:Int)<(st:Int):=om
       have n1:(H:Int)<(G:Int):=om
       have n2:(G:Int)<(b:Int):=om
       have F:=Ab U
       clear U
       go_wp2_with fail
       refine(Xk (CF al) N ah bb l d st m G _ bh (oh F) (oh F) (oh F) (Aa ao).ps).mono ?_
       rintro e bz ⟨rfl,ap,g1⟩
       have ac:=Ab ((Aa ao).next ap g1)
       clear ap g1
       have T:=ac
       obtain⟨I,ag⟩:∃I,I=Stab.rot d st m G:=⟨_,rfl⟩
       rw[<-ag]at T
       have aa:Hid (Stab.Moved a H (Stab.rot d st m G) I):=by rw[ag];exact Stab.Moved.refl _ _ _
       have ak:Hid (Stab.Srt Stab.lx I a H):=by rw[ag];exact(Aa Z).1.2.1.sub (oh F) (VB _)
       clear ag
       have af:=Ab (Hy (Aa Z) (Aa aa) a7)
       go_wp2_with fail
       refine(Aa bc I H G b _ (oh F) (oh F) (oh F) (oh F) (Aa T).cx (Aa T).ps (Aa af).1 (Aa af).2.1 (Aa af).2.2).mono ?_
       rintro e w3 ⟨rfl,M,a2,m2,av,g3⟩
       have O:=Ab ((Aa T).next a2 g3)
       have ai:=Ab m2
       have aj:=Ab av
       clear a2 g3 m2 av
       have Y:=Ab (Stab.merge_step Stab.lx_trans (oh F) (oh F) (oh F) (oh F) ay (Aa az) (Aa aw) (Aa a4) (Aa a5) (Aa aa) (Aa ak) (Aa ai) (Aa aj))
       go_wp2
       all_goals (go_end0;exact⟨rfl,M,(Aa O).ps,(Aa Y).2,(Aa Y).1,(Aa O).grown⟩)
     . have k1:(st:Int)<(m:Int):=om
       have k2:(m:Int)<(G:Int):=om
       have l1:¬(a:Int)<(st:Int):=om
       have n1:(H:Int)<(G:Int):=om
       have n2:¬(G:Int)<(b:Int):=om
       have F:=Ab U
       clear U
       go_wp2_with fail
       refine(Xk (CF al) N ah bb l d st m G _ bh (oh F) (oh F) (oh F) (Aa ao).ps).mono ?_
       rintro e bz ⟨rfl,ap,g1⟩
       have ac:=Ab ((Aa ao).next ap g1)
       clear ap g1
       have T:=ac
       obtain⟨I,ag⟩:∃I,I=Stab.rot d st m G:=⟨_,rfl⟩
       rw[<-ag]at T
       have aa:Hid (Stab.Moved a H (Stab.rot d st m G) I):=by rw[ag];exact Stab.Moved.refl _ _ _
       have ak:Hid (Stab.Srt Stab.lx I a H):=by rw[ag];exact(Aa Z).1.2.1.sub (oh F) (VB _)
       clear ag
       have af:=Ab (Hy (Aa Z) (Aa aa) a7)
       have O:=T
       obtain⟨M,ae⟩:∃M,M=I:=⟨_,rfl⟩
       rw[<-ae]at O
       have ai:Hid (Stab.Moved H b I M):=by rw[ae];exact Stab.Moved.refl _ _ _
       have aj:Hid (Stab.Srt Stab.lx M H b):=by rw[ae];exact(Aa af).1.sub (VB _) (oh F)
       clear ae
       have Y:=Ab (Stab.merge_step Stab.lx_trans (oh F) (oh F) (oh F) (oh F) ay (Aa az) (Aa aw) (Aa a4) (Aa a5) (Aa aa) (Aa ak) (Aa ai) (Aa aj))
       go_wp2
       all_goals (go_end0;exact⟨rfl,M,(Aa O).ps,(Aa Y).2,(Aa Y).1,(Aa O).grown⟩)
     . have k1:¬(st:Int)<(m:Int):=om
       have l1:(a:Int)<(st:Int):=om
       have l2:(st:Int)<(H:Int):=om
       have n1:¬(H:Int)<(G:Int):=om
       have F:=Ab U
       clear U
       have ac:Hid (CSt N ah al a8 ba a6 a9 l w wr (Stab.rot d st m G)):=by rw[show Stab.rot d st m G=d from by rw[show st=m by have:=Aa F;omega];exact Stab.rot_left d m G];exact Aa ao
       go_wp2_with fail
       refine(Aa bc (Stab.rot d st m G) a st H _ (oh F) (oh F) (oh F) (oh F) (Aa ac).cx (Aa ac).ps (Aa Z).1.1 (Aa Z).1.2.1 (Aa Z).1.2.2).mono ?_
       rintro e cm ⟨rfl,I,ar,m1,a1,g2⟩
       have T:=Ab ((Aa ac).next ar g2)
       have aa:=Ab m1
       have ak:=Ab a1
       clear ar g2 m1 a1
       have af:=Ab (Hy (Aa Z) (Aa aa) a7)
       have O:=T
       obtain⟨M,ae⟩:∃M,M=I:=⟨_,rfl⟩
       rw[<-ae]at O
       have ai:Hid (Stab.Moved H b I M):=by rw[ae];exact Stab.Moved.refl _ _ _
       have aj:Hid (Stab.Srt Stab.lx M H b):=by rw[ae];exact(Aa af).2.1.sub (oh F) (VB _)
       clear ae
       have Y:=Ab (Stab.merge_step Stab.lx_trans (oh F) (oh F) (oh F) (oh F) ay (Aa az) (Aa aw) (Aa a4) (Aa a5) (Aa aa) (Aa ak) (Aa ai) (Aa aj))
       go_wp2
       all_goals (go_end0;exact⟨rfl,M,(Aa O).ps,(Aa Y).2,(Aa Y).1,(Aa O).grown⟩)
     . have k1:¬(st:Int)<(m:Int):=om
       have l1:(a:Int)<(st:Int):=om
       have l2:¬(st:Int)<(H:Int):=om
       have n1:¬(H:Int)<(G:Int):=om
       have F:=Ab U
       clear U
       have ac:Hid (CSt N ah al a8 ba a6 a9 l w wr (Stab.rot d st m G)):=by rw[show Stab.rot d st m G=d from by rw[show st=m by have:=Aa F;omega];exact Stab.rot_left d m G];exact Aa ao
       have T:=ac
       obtain⟨I,ag⟩:∃I,I=Stab.rot d st m G:=⟨_,rfl⟩
       rw[<-ag]at T
       have aa:Hid (Stab.Moved a H (Stab.rot d st m G) I):=by rw[ag];exact Stab.Moved.refl _ _ _
       have ak:Hid (Stab.Srt Stab.lx I a H):=by rw[ag];exact(Aa Z).1.1.sub (VB _) (oh F)
       clear ag
       have af:=Ab (Hy (Aa Z) (Aa aa) a7)
       have O:=T
       obtain⟨M,ae⟩:∃M,M=I:=⟨_,rfl⟩
       rw[<-ae]at O
       have ai:Hid (Stab.Moved H b I M):=by rw[ae];exact Stab.Moved.refl _ _ _
       have aj:Hid (Stab.Srt Stab.lx M H b):=by rw[ae];exact(Aa af).2.1.sub (oh F) (VB _)
       clear ae
       have Y:=Ab (Stab.merge_step Stab.lx_trans (oh F) (oh F) (oh F) (oh F) ay (Aa az) (Aa aw) (Aa a4) (Aa a5) (Aa aa) (Aa ak) (Aa ai) (Aa aj))
       go_wp2
       all_goals (go_end0;exact⟨rfl,M,(Aa O).ps,(Aa Y).2,(Aa Y).1,(Aa O).grown⟩)
     . have k1:(st:Int)<(m:Int):=om
       have k2:¬(m:Int)<(G:Int):=om
       have l1:(a:Int)<(st:Int):=om
       have l2:¬(st:Int)<(H:Int):=om
       have n1:(H:Int)<(G:Int):=om
       have n2:(G:Int)<(b:Int):=om
       have F:=Ab U
       clear U
       have ac:Hid (CSt N ah al a8 ba a6 a9 l w wr (Stab.rot d st m G)):=by rw[show Stab.rot d st m G=d from by rw[show G=m by have:=Aa F;omega];exact Stab.rot_right d st m];exact Aa ao
       have T:=ac
       obtain⟨I,ag⟩:∃I,I=Stab.rot d st m G:=⟨_,rfl⟩
       rw[<-ag]at T
       have aa:Hid (Stab.Moved a H (Stab.rot d st m G) I):=by rw[ag];exact Stab.Moved.refl _ _ _
       have ak:Hid (Stab.Srt Stab.lx I a H):=by rw[ag];exact(Aa Z).1.1.sub (VB _) (oh F)
       clear ag
       have af:=Ab (Hy (Aa Z) (Aa aa) a7)
       go_wp2_with fail
       refine(Aa bc I H G b _ (oh F) (oh F) (oh F) (oh F) (Aa T).cx (Aa T).ps (Aa af).1 (Aa af).2.1 (Aa af).2.2).mono ?_
       rintro e w3 ⟨rfl,M,a2,m2,av,g3⟩
       have O:=Ab ((Aa T).next a2 g3)
       have ai:=Ab m2
       have aj:=Ab av
       clear a2 g3 m2 av
       have Y:=Ab (Stab.merge_step Stab.lx_trans (oh F) (oh F) (oh F) (oh F) ay (Aa az) (Aa aw) (Aa a4) (Aa a5) (Aa aa) (Aa ak) (Aa ai) (Aa aj))
       go_wp2
       all_goals (go_end0;exact⟨rfl,M,(Aa O).ps,(Aa Y).2,(Aa Y).1,(Aa O).grown⟩)
theorem Nk (N E O M F H G I:Nat)(l:List Int)(T:N<=288):∀L,Z32 N E O M F H G I l L
 |0=>fun d a m b w ai ah Z _ _ _ _ _ _=>om
 |L+1=>fun d a m b w ai ah Z hb U Y ac aa hc=>by by_cases ag:m=a+1;exact FW N E O M F H G I l d a m b w (Ab ag) T Z hb U Y aa hc;by_cases ae:b=m+1;exact X5 N E O M F H G I l d a m b w (Ab ae) T om Z hb U Y ac hc;by_cases af:(a+b)/2<m;exact Rg N E O M F H G I l L (Ab (Nk N E O M F H G I l T L)) d a m b ((a+b)/2) ((a+b)/2+m-b) ((a+b)/2) w T om om om hb (Ab rfl) (Ab (.inl ⟨af,om,rfl⟩)) U Y ac aa hc;exact Rg N E O M F H G I l L (Ab (Nk N E O M F H G I l T L)) d a m b ((a+b)/2) a m w T om om om hb (Ab rfl) (Ab (.inr ⟨om,rfl,rfl⟩)) U Y ac aa hc
set_option maxRecDepth 100000 in
theorem Vk (N F bn O T Z U Y:Nat)(l:List Int)(d:Nat->Int×Int)(a b:Nat)(w:World)(b0:N<=288)(b8:a<=b)(b3:b<=N)(a7:Cx F O T Z U Y l w)(a8:PC N F l d w)(a6:RW d a b):Calls Tryz.prog 284 #[.slice (some ⟨F,0,none⟩) N bn,.int .i64 a,.int .i64 b,CF O] w fun e w'=>e=.returned (.tuple #[])/\∃d',PC N F l d' w'/\Stab.Moved a b d d'/\Stab.Srt Stab.lx d' a b/\w.grownBy w' (some F):=by
 have aw:Hid (CSt N F O T Z U Y l w w d):=⟨a8,Aw _ _,a7⟩;have bb:=Ab a6;clear a8 a7 a6;go_enter Tryz.func284,Tryz.ntmps284;go_wp2;go_loopw [8] (fun al wr=>∃(i:Nat) (E:Nat->Int×Int),a<i/\(i<=b\/ (i=a+1/\E=d))/\al=.int .i64 i/\CSt N F O T Z U Y l w wr E/\Stab.Moved a i d E/\Stab.Srt Stab.lx E a i) (fun al _=>b+2-(intOf al).toNat);case atStart=>exact⟨a+1,d,om,.inr ⟨rfl,rfl⟩,by go_num,Aa aw,Stab.Moved.refl _ _ _,fun i j M ag bh=>om⟩
 case round=>
  obtain⟨i,E,cg,az,rfl,ae,aa,I⟩:=hrel;have ar:=Ab ae;have bo:=Ab aa;have bc:=Ab I;by_cases bu:i<b
  . (have bi:Hid (∀k,a<=k->k<i->(E k).2<(E i).2):=fun k M ag=>by obtain⟨bd,bw,e2,e3⟩:=aa.mem M ag;rw[aa.out i om,<-e3];exact Aa bb bd i bw e2 bu);clear az ae aa I aw;go_wp2;go_loopw [9] (fun a3 wr=>∃j:Nat,a<=j/\j<=i/\a3=.int .i64 j/\CSt N F O T Z U Y l w wr (Stab.rot E j i (i+1))/\(j<i->Stab.lx (E i) (E j))) (fun a3 _=>(intOf a3).toNat);case atStart=>exact⟨i,om,VB _,rfl,by rw[Stab.rot_left];exact Aa ar,fun h=>om⟩
    case round=>
     obtain⟨j,a9,av,rfl,ae,a4⟩:=hrel;have G:=Ab ae;have bm:=Ab a4
     have ah:((a<j->Stab.lx (E (j-1)) (E i))->Hid (Stab.Moved a (i+1) d (Stab.rot E j i (i+1))/\Stab.Srt Stab.lx (Stab.rot E j i (i+1)) a (i+1))):=fun hl=>
      Ab ⟨((Aa bo).wider (VB _) om om).trans ((Stab.moved_rot E j i (i+1) av om).wider a9 om (VB _)),Stab.ins_last a9 av (Aa bc) hl (Aa bm)⟩
     clear ae a4;by_cases b4:a<j
     . obtain⟨t,rfl⟩:∃t,j=t+1:=⟨j-1,om⟩;rw[YA]at ah;(have ao:Stab.rot E (t+1) i (i+1) (t+1)=E i:=by unfold Stab.rot;rw[if_pos om];congr 1;omega);(have au:Stab.rot E (t+1) i (i+1) t=E t:=by unfold Stab.rot;rw[if_neg om,if_neg om]);have aj:=Ab (Stab.cross_less (Aa bi t om om));have ax:=Stab.rot_down E (t+1) i om av;rw[YA]at ax;have a2:=Ab ax;have a1:=Ab ah;have ap:=fun n=>DN (Aa G).ps (Aa G).cx (t+1) t om om n;rw[ao,au]at ap;have ay:=Ab ap;have c1:=((Aa G).ps (t+1) om).1.1;have f1:=((Aa G).ps (t+1) om).1.2;have c2:=((Aa G).ps t om).1.1;have f2:=((Aa G).ps t om).1.2;have ac:=Ab (fun n=>PC.sw ((Aa G).ps.drewN n) (t+1) t om om);have ai:=Ab (fun n=>PC.c2 ((Aa G).ps.drewN n) (t+1) t om om (.int .i64 (E t).2));rw[ao]at c1 ac;rw[au]at c2 ac;clear ao au ah ax ap;generalize Stab.rot E (t+1) i (i+1)=D at*;obtain⟨s,I⟩:∃s,s=t+1:=⟨_,rfl⟩;have a5:=Ab I;rw[<-I]at c1 f1 ac ai;generalize (E i).2=x at*;generalize (E t).2=y at*;have ce:(a:Int)<(t:Int)+1:=om;have bg:decide ((t:Int)+1>(a:Int))=true:=decide_eq_true om;have ea:((t:Int)+1).toNat=s:=om;have pa:(0:Int)<=(t:Int)+1:=om;have b7:(t:Int)+1<(N:Int):=om;have b9:(t:Int)<(N:Int):=om;(have cd:IntKind.i64.wrap (t:Int)=(t:Int):=by rw[IntKind.wrap_i64];omega);clear I;go_wp2_with fail;go_quiet ((go_at_call 276;refine Calls.quiet_of (Aa ay _)));rw[Yq]
       cases ak:decide ((E i).1<(E t).1)with
       |true=>have bf:=Ab ((Aa aj).1 ak);(have af:Hid (CSt N F O T Z U Y l w (swC (wr.drewN nq) F x y s t).drew (Stab.rot E t i (i+1))):=by have M:=(Aa ac) nq;rw[Aa a5,Aa a2,<-Aa a5]at M;exact(Aa G).next M (Cb (Aj (Ge (Aw wr (some F)) nq) (Mf (wr.drewN nq) F x y s t))));obtain⟨u,bq⟩:=(Aa ai) nq;have bk:(wr.drewN nq).cell? ⟨F,s,none⟩=some (.int .i64 x):=c1;have bj:(wr.drewN nq).cell? ⟨F,t,none⟩=some (.int .i64 y):=c2;have bv:(wr.drewN nq).frozen? ⟨F,s,none⟩=false:=f1;have ba:(wr.drewN nq).frozen? ⟨F,t,none⟩=false:=f2;unfold swC at af;clear ak ac aj a1 a2 ai ay c1 c2 f1 f2;generalize wr.drewN nq=b5 at*;go_wp2_with fail;go_big_region;clear bk bj bv ba bq;go_wp2;go_roundw;(case rel=>exact⟨t,om,om,by go_num,Aa af,fun _=>Aa bf⟩);case measure=>simp[intOf]
       |false=>have H:=Aa a1 (fun _=>(Aa aj).2 ak);have af:Hid (CSt N F O T Z U Y l w (wr.drewN nq) D):=(Aa G).next ((Aa G).ps.drewN nq) (Ge (Aw _ _) nq);clear ak aj a1 a2 ac ai ay c1 c2 f1 f2;go_wp2;go_roundw;(case rel=>exact⟨i+1,D,om,.inl om,by go_num,Aa af,(Aa H).1,(Aa H).2⟩);case measure=>simp[intOf];omega
     . have bz:¬(a:Int)<(j:Int):=om;have bg:decide ((j:Int)>(a:Int))=false:=decide_eq_false om;have H:=ah (fun h=>om);clear ah;generalize Stab.rot E j i (i+1)=D at*;have af:Hid (CSt N F O T Z U Y l w wr.drew D):=(Aa G).next ((Aa G).ps.drewN 1) (Cb (Aw _ _));go_wp2_with fail;go_big_region;(all_goals go_wp2);go_roundw;(case rel=>exact⟨i+1,D,om,.inl om,by go_num,Aa af,(Aa H).1,(Aa H).2⟩);case measure=>simp[intOf];omega
  . (have H:Hid (Stab.Moved a b d E/\Stab.Srt Stab.lx E a b):=by rcases az with M|⟨M,ag⟩;have e:i=b:=om;rw[<-e];exact⟨aa,I⟩;rw[ag];exact⟨Stab.Moved.refl _ _ _,fun i j M ag bh=>om⟩);clear az ae aa I aw;go_wp2;go_end0;exact⟨rfl,E,(Aa ar).ps,(Aa H).1,(Aa H).2,(Aa ar).grown⟩
set_option maxRecDepth 100000 in
theorem Z3n (N T a1 aa ag ai af ah:Nat)(l:List Int)(d:Nat->Int×Int)(w:World)(a8:N<=288)(bn:Cx T aa ag ai af ah l w)(bk:PC N T l d w)(a6:RW d 0 N):Calls Tryz.prog 283 #[.slice (some ⟨T,0,none⟩) N a1,.int .i64 N,CF aa] w fun e w'=>e=.returned (.tuple #[])/\∃d',PC N T l d' w'/\Stab.Moved 0 N d d'/\Stab.Srt Stab.lx d' 0 N/\w.grownBy w' (some T):=by have bq:Hid (CSt N T aa ag ai af ah l w w d):=⟨bk,Aw _ _,bn⟩;have b5:=Ab a6;have bu:Hid (Part d d N 20 0):=⟨fun s h=>om,fun _ _=>rfl,fun s i j hi cd hn=>a6 i j (VH _) om hn⟩;have bo:=Ab (Nk N T a1 aa ag ai af ah l a8 N);clear bk bn a6;go_enter Tryz.func283,Tryz.ntmps283;go_wp2;go_loopw [7,8] (fun ao bh wr=>∃(t F:Nat) (dk:Nat->Int×Int),Hid (F=t*20)/\F<=N/\ao=.int .i64 F/\bh=.int .i64 ((F:Int)+20)/\CSt N T aa ag ai af ah l w wr dk/\Stab.Moved 0 N d dk/\Part dk d N 20 t) (fun ao _ _=>N+1-(intOf ao).toNat);(case atStart=>exact⟨0,0,d,Ab rfl,VH _,rfl,rfl,Aa bq,Stab.Moved.refl _ _ _,Aa bu⟩);case round=>obtain⟨t,F,dk,I,ap,rfl,rfl,ae,ac,ar⟩:=hrel;have U:=Ab ae;have au:=Ab ac;have M:=Ab ar;(have bf:Hid (∀e,e<=N->RW dk F e):=fun e ce i j bm bz b9=>by rw[Aa I]at bm;rw[ar.rest i bm,ar.rest j om];exact Aa b5 i j (VH _) bz om);clear ae ac ar bq bu;by_cases G:F+20<=N;(. have a4:(F:Int)+20<=(N:Int):=om;(have E:Hid ((F:Int)+20=((F+20:Nat):Int)):=by unfold Hid;omega);go_wp2_with fail;rw[Aa E];refine(Vk N T a1 aa ag ai af ah l dk F (F+20) _ a8 om G (Aa U).cx (Aa U).ps (Aa bf (F+20) G)).mono ?_;rintro e b7 ⟨rfl,d',ax,m2,al,g2⟩;have az:=Ab ((Aa U).next ax g2);have a2:=Ab ((Aa au).trans (m2.wider (VH _) om G));(have b4:Hid (Part d' d N 20 (t+1)):=by have H:=Aa I;rw[H]at m2 al G;exact(Aa M).step G m2 al);(have b3:Hid (F+20=(t+1)*20):=by have:=Aa I;unfold Hid;omega);clear ax m2 al g2;go_wp2;go_roundw;(case rel=>exact⟨t+1,F+20,d',b3,G,rfl,by go_num,Aa az,Aa a2,Aa b4⟩);case measure=>simp[intOf];omega);. have a4:¬(F:Int)+20<=(N:Int):=om;go_wp2_with fail;refine(Vk N T a1 aa ag ai af ah l dk F N _ a8 ap (VB _) (Aa U).cx (Aa U).ps (Aa bf N (VB _))).mono ?_;rintro e b7 ⟨rfl,d',ax,m2,al,g2⟩;have az:=Ab ((Aa U).next ax g2);have a2:=Ab ((Aa au).trans (m2.wider (VH _) ap (VB _)));(have a9:Hid (Jq d' N 20/\Cuts d' N 20):=by have H:=Aa I;rw[H]at m2 al;exact(Aa M).last om om m2 al);clear ax m2 al g2 U au M bf I ap G a4;go_wp2;go_loopw [6,7,8,9] (fun bc _ _ _ wr=>∃(B:Nat) (O:Nat->Int×Int),0<B/\B<=1000/\bc=.int .i64 B/\CSt N T aa ag ai af ah l w wr O/\Stab.Moved 0 N d O/\Jq O N B/\Cuts O N B) (fun bc _ _ _ _=>N-(intOf bc).toNat);(case atStart=>exact⟨20,d',om,om,rfl,Aa az,Aa a2,(Aa a9).1,(Aa a9).2⟩);case round=>obtain⟨B,O,cj,cg,rfl,ae,ac,bj,a5⟩:=hrel;have U:=Ab ae;have au:=Ab ac;have a3:=Ab bj;have bi:=Ab a5;have ba:Hid (Part O O N (2*B) 0):=⟨fun s h=>om,fun _ _=>rfl,a5.double⟩;clear ae ac bj a5 az a2 a9;by_cases ci:B<N;(. go_wp2;go_loopw [7,8] (fun ao bh wr=>∃(t F:Nat) (dk:Nat->Int×Int),Hid (F=t*(2*B))/\F<=N/\ao=.int .i64 F/\bh=.int .i64 ((F:Int)+2*(B:Int))/\CSt N T aa ag ai af ah l w wr dk/\Stab.Moved 0 N d dk/\Part dk O N (2*B) t) (fun ao _ _=>N+1-(intOf ao).toNat);(case atStart=>exact⟨0,0,O,Ab (YJ _).symm,VH _,rfl,by go_num,Aa U,Aa au,Aa ba⟩);case round=>obtain⟨t,F,dk,I,ap,rfl,rfl,ae,ac,ar⟩:=hrel;have ak:=Ab ae;have bd:=Ab ac;have M:=Ab ar;clear ae ac ar ba;by_cases G:F+2*B<=N;(. have a4:(F:Int)+2*(B:Int)<=(N:Int):=om;(have E:Hid ((F:Int)+2*(B:Int)=((F+2*B:Nat):Int)):=by unfold Hid;omega);(have bb:Hid ((F:Int)+(B:Int)=((F+B:Nat):Int)):=by unfold Hid;omega);(have Z:Hid (Stab.Srt Stab.lx dk F (F+B)/\Stab.Srt Stab.lx dk (F+B) (F+2*B)/\Stab.Cross dk F (F+B) (F+2*B)):=by have H:=Aa I;rw[H];rw[H]at G;exact On (Aa a3) (Aa bi) (Aa M).rest om (VB _) G (.inr rfl));go_wp2_with fail;rw[Aa E,Aa bb];refine(Aa bo dk F (F+B) (F+2*B) _ om om om G (Aa ak).cx (Aa ak).ps (Aa Z).1 (Aa Z).2.1 (Aa Z).2.2).mono ?_;rintro e w3 ⟨rfl,av,ay,Y,aj,g3⟩;have a7:=Ab ((Aa ak).next ay g3);have bg:=Ab ((Aa bd).trans (Y.wider (VH _) om G));(have bv:Hid (Part av O N (2*B) (t+1)):=by have H:=Aa I;rw[H]at Y aj G;exact(Aa M).step G Y aj);(have b0:Hid (F+2*B=(t+1)*(2*B)):=by have:=Aa I;unfold Hid;rw[ZD t (2*B),<-this]);clear ay Y aj g3 Z;go_wp2;go_roundw;(case rel=>exact⟨t+1,F+2*B,av,b0,G,rfl,by go_num,Aa a7,Aa bg,Aa bv⟩);case measure=>simp[intOf];omega);. have a4:¬(F:Int)+2*(B:Int)<=(N:Int):=om;by_cases hm:F+B<N;(. have b8:(F:Int)+(B:Int)<(N:Int):=om;(have bb:Hid ((F:Int)+(B:Int)=((F+B:Nat):Int)):=by unfold Hid;omega);(have Z:Hid (Stab.Srt Stab.lx dk F (F+B)/\Stab.Srt Stab.lx dk (F+B) N/\Stab.Cross dk F (F+B) N):=by have H:=Aa I;rw[H];rw[H]at G hm;exact On (Aa a3) (Aa bi) (Aa M).rest hm om (VB _) (.inl rfl));go_wp2_with fail;rw[Aa bb];refine(Aa bo dk F (F+B) N _ om om hm (VB _) (Aa ak).cx (Aa ak).ps (Aa Z).1 (Aa Z).2.1 (Aa Z).2.2).mono ?_;rintro e w3 ⟨rfl,av,ay,Y,aj,g3⟩;have a7:=Ab ((Aa ak).next ay g3);have bg:=Ab ((Aa bd).trans (Y.wider (VH _) ap (VB _)));(have aw:Hid (Jq av N (2*B)/\Cuts av N (2*B)):=by have H:=Aa I;rw[H]at Y aj;exact(Aa M).last om om Y aj);clear ay Y aj g3 Z M I;go_wp2;go_roundw;(case rel=>exact⟨2*B,av,om,om,congrArg (Value.int .i64) om,Aa a7,Aa bg,(Aa aw).1,(Aa aw).2⟩);case measure=>simp[intOf];omega);. have b8:¬(F:Int)+(B:Int)<(N:Int):=om;(have aw:Hid (Jq dk N (2*B)/\Cuts dk N (2*B)):=by have H:=Aa I;rw[H]at G hm ap;exact(Aa M).last ap om (Stab.Moved.refl _ _ _) (MY (Aa a3) (Aa M).rest om));clear M I;go_wp2;go_roundw;(case rel=>exact⟨2*B,dk,om,om,congrArg (Value.int .i64) om,Aa ak,Aa bd,(Aa aw).1,(Aa aw).2⟩);case measure=>simp[intOf];omega);. (have bw:Hid (Stab.Srt Stab.lx O 0 N):=by have:=Aa a3 0;rw[YJ,YG om]at this;exact this);clear ba;go_wp2;go_end0;exact⟨rfl,O,(Aa U).ps,Aa au,Aa bw,(Aa U).grown⟩
theorem S5 (N E G F I Y U Z:Nat)(l:List Int)(d:Nat->Int×Int)(w:World)(aa:N<=288)(M:Cx E F I Y U Z l w)(T:PC N E l d w)(O:RW d 0 N):Calls Tryz.prog 275 #[.slice (some ⟨E,0,none⟩) N G,CF F] w fun e w'=>e=.returned (.tuple #[])/\∃d',PC N E l d' w'/\Stab.Moved 0 N d d'/\Stab.Srt Stab.lx d' 0 N/\w.grownBy w' (some E):=by have ac:=Ab (Z3n N E G F I Y U Z l d w aa M T O);clear M T O;go_enter Tryz.func275,Tryz.ntmps275;go_wp2_with fail;refine(Aa ac).mono ?_;rintro e ae ⟨rfl,h⟩;have H:=Ab h;clear h;go_wp2;go_end0;exact⟨rfl,Aa H⟩
theorem Oi (p:Option Addr)(G F:Nat)(w:World):Calls Tryz.prog 275 #[.slice p 0 G,CF F] w fun e w'=>e=.returned (.tuple #[])/\w'=w:=by(have O:∀w,Calls Tryz.prog 284 #[.slice p 0 G,.int .i64 0,.int .i64 0,CF F] w fun e w'=>e=.returned (.tuple #[])/\w'=w:=by intro w;go_enter Tryz.func284,Tryz.ntmps284;go_wp2;go_loopw [8] (fun H wr=>H=.int .i64 1/\wr=w) (fun H _=>0);(case atStart=>exact⟨rfl,rfl⟩);case round=>obtain⟨rfl,rfl⟩:=hrel;go_wp2;go_end0;exact⟨rfl,rfl⟩);(have T:∀w,Calls Tryz.prog 283 #[.slice p 0 G,.int .i64 0,CF F] w fun e w'=>e=.returned (.tuple #[])/\w'=w:=by intro w;go_enter Tryz.func283,Tryz.ntmps283;go_wp2;go_loopw [7,8] (fun E I wr=>E=.int .i64 0/\I=.int .i64 20/\wr=w) (fun E _ _=>0);(case atStart=>exact⟨rfl,rfl,rfl⟩);case round=>obtain⟨rfl,rfl,rfl⟩:=hrel;go_wp2_with fail;refine(O wr).mono ?_;rintro e M ⟨rfl,rfl⟩;go_wp2;go_loopw [6,7,8,9] (fun E I U Y wr=>E=.int .i64 20/\wr=M) (fun E _ _ _ _=>0);(case atStart=>exact⟨rfl,rfl⟩);case round=>obtain⟨rfl,rfl⟩:=hrel;go_wp2;go_end0;exact⟨rfl,rfl⟩);go_enter Tryz.func275,Tryz.ntmps275;go_wp2_with fail;refine(T w).mono ?_;rintro e M ⟨rfl,rfl⟩;go_wp2;go_end0;exact⟨rfl,rfl⟩
structure WRow (w:World)(g:Nat)(xs:List Int):Prop where
 lt:g<w.heap.size
 at_:∀j,j<xs.length->w.cell? ⟨g,j,none⟩=some (.int .i64 (xs.getD j 0))/\w.frozen? ⟨g,j,none⟩=false
theorem WRow.row {w:World}{E:Nat}{xs:List Int}(F:WRow w E xs):RowIn .i64 w (some ⟨E,0,none⟩) xs:=.inr ⟨E,0,rfl,F.lt,fun j G=>by rw[WG];exact(F.at_ j G).1⟩
theorem WRow.grown {w w':World}{E:Nat}{xs:List Int}{r:Option Nat}(F:WRow w E xs)(G:w.grownBy w' r)(I:some E≠r):WRow w' E xs:=by refine⟨VG F.lt G.size,fun j H=> ?_⟩;have e:=G.block E F.lt I;exact⟨by rw[World.cell?_of_block (w:=w) (a:=⟨E,j,none⟩) e];exact(F.at_ j H).1,by rw[World.frozen?_of_block (w:=w) (a:=⟨E,j,none⟩) e];exact(F.at_ j H).2⟩
theorem WRow.below {w w':World}{B E:Nat}{xs:List Int}(G:WRow w E xs)(F:Below B w w')(I:E<B):WRow w' E xs:=
 ⟨VG G.lt F.size,fun j H=>⟨by rw[F.cell (p:=⟨E,j,none⟩) I];exact(G.at_ j H).1,by rw[F.frozen (p:=⟨E,j,none⟩) I];exact(G.at_ j H).2⟩⟩
theorem WRow.own {w:World}{B F n H:Nat}{xs:List Int}(E:w.ownsRow B 3 1 (.slice (some ⟨F,0,none⟩) n H) n (iv xs)):WRow w F xs:=by refine⟨(E.lt F rfl).2,fun j G=>⟨?_,E.frozenAt j⟩⟩;(have hn:xs.length=n:=by have:=E.1;simpa using this);rw[E.cellAt j om];simp[List.getD,G]
theorem WRow.set {w:World}{G:Nat}{xs:List Int}(E:WRow w G xs)(i:Nat)(H:i<xs.length)(v:Int):WRow (w.setCell ⟨G,i,none⟩ (.int .i64 v)) G (xs.set i v):=by refine⟨by simpa using E.lt,fun j F=> ?_⟩;rw[XS]at F;refine⟨?_,by simp[(E.at_ j F).2]⟩;by_cases e:i=j;subst e;rw[World.cell?_setCell_same _ _ _ (E.at_ i F).1];simp[List.getD,H];rw[World.cell?_setCell_other _ _ _ _ (by intro E;injection E;omega),(E.at_ j F).1];simp[List.getD,e]
theorem WRow.other {w:World}{F:Nat}{xs:List Int}(E:WRow w F xs){a:Addr}(H:a.block≠F)(v:Value):WRow (w.setCell a v) F xs:=by refine⟨by simpa using E.lt,fun j G=>⟨?_,by simp[(E.at_ j G).2]⟩⟩;rw[World.cell?_setCell_other _ _ _ _ (by intro E;subst E;exact H rfl)];exact(E.at_ j G).1
theorem WRow.drew {w:World}{F:Nat}{xs:List Int}(E:WRow w F xs):WRow w.drew F xs:=⟨E.lt,E.at_⟩
abbrev ni (P:List Nat):List Int:=P.map fun p:Nat=>(p:Int)
def dOf (l:List Int)(P:List Nat)(k:Nat):Int×Int:=(l.getD (P.getD k 0) 0,(P.getD k 0:Nat))
theorem Z3u (l:List Int)(P:List Nat):(Stab.seg (dOf l P) 0 P.length).map (fun x=>x.2.toNat)=P:=by apply XK;simp[Stab.seg];intro i F E;simp[Stab.seg,dOf,List.getD,E]
theorem Z3x {l:List Int}{N af:Nat}{w':World}{d':Nat->Int×Int}(Y:N=(wpl l l.length).length)(H:PC N af l d' w')(O:Stab.Moved 0 N (dOf l (wpl l l.length)) d')(U:Stab.Srt Stab.lx d' 0 N)(P:List Nat)(E:P=(Stab.seg d' 0 N).map fun x=>x.2.toNat):RiseOf l P:=by(have ah:P.length=N:=by rw[E];simp[Stab.seg]);(have F:∀i (h:i<P.length),P[i]=(d' i).2.toNat:=by intro i h;simp[E,Stab.seg]);refine⟨?_, ?_⟩;have:=O.perm.map (fun x:Int×Int=>x.2.toNat);rw[<-E,Y,Z3u]at this;exact this;rw[YE];intro i j hi Z T;have aa:i<N:=om;have G:j<N:=om;obtain⟨_,p,M,ai,ac⟩:=H i aa;obtain⟨_,q,I,ag,ae⟩:=H j G;have h:=U i j (VH _) T G;unfold Stab.lx at h;rw[F i hi,F j Z,M,I,WM,WM];rw[M,I,ac,ae]at h;omega
set_option maxRecDepth 100000 in
theorem FJ (a:Option Addr)(F M:Nat)(l:List Int)(w:World)(ac:l.length=F)(bz:F<=288)(G:RowIn .i64 w a l):Calls Tryz.prog 258 #[.slice a F M] w fun e w'=>∃v P,e=.returned v/\RiseOf l P/\Below w.heap.size w w'/\((P= []/\v=.slice none 0 0)\/∃g c,v=.slice (some ⟨g,0,none⟩) P.length c/\P.length<=c/\c<=maxLen/\w.heap.size<=g/\WRow w' g (ni P)):=by obtain⟨b0,hi,bm,bu,bq⟩:=info_parts Bv;have ah:=Ab ac;have ao:=Ab G;have bk:(w.alloc (.cells #[.slice a F M] 76)).cell? ⟨w.heap.size,0,none⟩=some (.slice a F M):=oS;clear G;have bo:=Ab ((Below.refl w.heap.size w).alloc (VB _) (.cells #[.slice a F M] 76));go_enter Tryz.func258,Tryz.ntmps258;go_wp2;go_loopw [3,4,5,8] (fun vo _ _ i wr=>∃k:Nat,k<=F/\i=.int .i64 k/\wr.ownsRow (w.heap.size+1) 3 1 vo (wpl l k).length (i64s (wpl l k))/\(wpl l k= []->vo=.slice none 0 0)/\Below (w.heap.size+1) (w.alloc (.cells #[.slice a F M] 76)) wr) (fun _ _ _ i _=>F-(intOf i).toNat);(case atStart=>exact⟨0,VH _,rfl,⟨rfl,.inl ⟨rfl,rfl⟩⟩,fun _=>rfl,Below.refl _ _⟩);case round=>obtain⟨k,a8,rfl,H,a3,T⟩:=hrel;have ag:=Ab a3;clear a3;have Z:=Ab H;have O:=Ab T;have bv:=T.size;simp only[World.size_alloc]at bv;by_cases co:k<F;(. have av:k<l.length:=om;(obtain⟨b,o,rfl,hb,G⟩:∃b o,a=some ⟨b,o,none⟩/\b<w.heap.size/\Row .i64 w b o l:=by rcases Aa ao with rfl|h;simp at av;exact h);have c1:=((Aa O).cell (p:=⟨b,o+k,none⟩) oO).trans ((World.cell?_alloc_past _ _ _ hb).trans (G k av));have cp:=Pt l k;have I:Hid (wpl l (k+1)=wpl l k++(if 0<l.getD k 0 then [k]else [])):=rfl;clear H T G;generalize l.getD k 0=x at*;by_cases a2:0<x;(. rw[if_pos a2]at I;go_wp2_with (at_builtin;refine wpList_append_own _ rfl _ _ 76 rfl (w.heap.size+1) 3 b0 (.int .i64 0) 1 8 Tryz.underlying76 hi bm bu bq rfl od _ _ _ rfl ((Aa Z).alloc _) ⟨wr.heap.size,0,none⟩ 1 1 [.int .i64 (k:Int)] rfl rfl (by intro j u E;match j,E with|0,E=>simp at E;subst E;simp[Addr.add]) (by intro u ba;simp at ba;subst ba;rfl) ou om oO ?_);intro v' cj aw bb _;have bg:=Ab aw;have b8:=Ab (((Aa O).alloc om _).grown bb oO (fun k a8=>((Aa Z).lt k a8).1));clear aw bb;go_wp2;go_roundw;(case rel=>refine⟨k+1,om,by go_num, ?_,fun h=>by rw[Aa I]at h;simp at h,Aa b8⟩;(have e:i64s (wpl l (k+1))=i64s (wpl l k)++ [.int .i64 (k:Int)]:=by rw[Aa I];simp[i64s]);(have e2:(wpl l (k+1)).length=(wpl l k).length+1:=by rw[Aa I,VE];rfl);rw[e,e2];exact Aa bg);case measure=>simp[intOf];omega);. rw[if_neg a2,XA]at I;go_wp2;go_roundw;(case rel=>exact⟨k+1,om,by go_num,by rw[Aa I];exact Aa Z,by rw[Aa I];exact Aa ag,Aa O⟩);case measure=>simp[intOf];omega);. obtain rfl:k=F:=om;have a6:Hid (Below w.heap.size w wr):=(Aa bo).trans ((Aa O).mono om);by_cases aa:wpl l k= [];(. have ai:=Aa ag aa;subst ai;have bi:Hid (RiseOf l []):=⟨by rw[Aa ah,aa],.nil⟩;clear H T;go_wp2_with fail;refine(Oi none 0 w.heap.size wr).mono ?_;rintro e af ⟨rfl,rfl⟩;go_wp2;go_ret;exact⟨_,[],rfl,Aa bi,Aa a6,.inl ⟨rfl,rfl⟩⟩);. (have ck:0<(wpl l k).length:=by cases h:wpl l k with|nil=>exact absurd h aa|cons=>simp);(obtain⟨g,c,ai,a9,az,bw,b9⟩:∃g c,u3=.slice (some ⟨g,0,none⟩) (wpl l k).length c/\w.heap.size+1<=g/\g<wr.heap.size/\(wpl l k).length<=c/\c<=maxLen:=by rcases H.2 with h|⟨g,c,cur,Y,bj,au,bc,b7,cn,cg⟩;omega;. refine⟨g,c,Y,bj, ?_,bc,b7⟩;rcases ZQ g wr.heap.size with h|h;exact h;. rw[ZN h]at au;cases au);subst ai;have ce:=Pt l k;(obtain⟨b,o,rfl,hb,G⟩:∃b o,a=some ⟨b,o,none⟩/\b<w.heap.size/\Row .i64 w b o l:=by rcases Aa ao with rfl|h;simp at ac;omega;exact h);(have a5:Cx g w.heap.size b o k M l wr:=by refine⟨((Aa O).cell (p:=⟨w.heap.size,0,none⟩) oS).trans bk,fun j E=>((Aa O).cell (p:=⟨b,o+j,none⟩) oO).trans ((World.cell?_alloc_past _ _ _ hb).trans (G j E)),ac,bz, ?_, ?_,az,om,om⟩;omega;omega);(have ay:PC (wpl l k).length g l (dOf l (wpl l k)) wr:=by intro j E;refine⟨⟨?_,H.frozenAt j⟩,(wpl l k).getD j 0,rfl, ?_,rfl⟩;rw[H.cellAt j om];simp[dOf,List.getD,E];(have Y:(wpl l k).getD j 0∈wpl l k:=by simp[List.getD,E]);have:=JY l k _ Y;omega);(have ar:RW (dOf l (wpl l k)) 0 (wpl l k).length:=by intro i j _ b4 E;have Y:=(YE.1 (AX l k)) i j om E b4;(have b5:(wpl l k).getD i 0=(wpl l k)[i]' om:=by simp[List.getD,show i<(wpl l k).length by omega]);(have e2:(wpl l k).getD j 0=(wpl l k)[j]'E:=by simp[List.getD,E]);unfold dOf;simp only[];rw[b5,e2];omega);have bh:=Ab (S5 (wpl l k).length g c w.heap.size b o k M l _ wr om a5 ay ar);have a7:=Ab a9;clear H T a5 ay ar G Z O ag a9;generalize a1:(wpl l k).length=N at*;have bd:=Ab a1;clear a1;go_wp2_with fail;refine(Aa bh).mono ?_;rintro e af ⟨rfl,d',aj,al,a4,ae⟩;obtain⟨P,U⟩:∃P,P=(Stab.seg d' 0 N).map fun x=>x.2.toNat:=⟨_,rfl⟩;(have ak:P.length=N:=by rw[U];simp[Stab.seg]);(have bn:Hid (RiseOf l P):=by refine Z3x (by rw[Aa ah,Aa bd]) aj ?_ a4 P U;rw[Aa ah];exact al);(have b3:Hid (WRow af g (ni P)):=by refine⟨VG az ae.size,fun j E=> ?_⟩;(have ap:j<N:=by simpa[ak]using E);obtain⟨⟨c0,f0⟩,p,cd,ci,cm⟩:=aj j ap;refine⟨?_,f0⟩;rw[c0];(have:(ni P).getD j 0=(d' j).2:=by simp[U,Stab.seg,List.getD,ap,cd]);rw[this]);have bf:Hid (Below w.heap.size w af):=(Aa a6).grown ae om (fun j h=>by cases h;have:=Aa a7;omega);have ax:=Ab ak;clear aj al a4 ae U ak;go_wp2;go_ret;refine⟨_,P,rfl,Aa bn,Aa bf,.inr ⟨g,c, ?_, ?_,b9, ?_,Aa b3⟩⟩;rw[Aa ax];rfl;rw[Aa ax];exact bw;have:=Aa a7;omega
end Go.Proofs.YtleocpdblhbimaaGreatDoor
