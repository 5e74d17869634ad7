import Derived.Test.YtleocpdblhbimaaGreatDoorQ42
import Derived.Test.YtleocpdblhbimaaGreatDoorQ11
set_option linter.unusedSimpArgs false
set_option maxHeartbeats 4000000
namespace Go.Proofs.YtleocpdblhbimaaGreatDoor
open Go.RowKit
set_option linter.unusedVariables false
theorem Iy (F:Value)(I:Hid (F=typeHandle Tryz.prog 230))(N G E H:Nat)(M:N<=288)(O:E≠G):∀L,Q0 F N G E H L
 |0=>fun d a m b w ai ag aa _ _ _ _ _ _ _ _=>by omega
 |L+1=>fun d a m b w ai ag aa hb Y Z T U ac ae hc=>by
  by_cases af:m=a+1
  . exact A3 F I N G E H d a m b w (Ab af) M aa hb Y Z O T U ae hc
  . by_cases aj:b=m+1
    . exact Xa F I N G E H d a m b w (Ab aj) M (by omega) aa hb Y Z O T U ac hc
    . by_cases ah:(a+b)/2<m
      . exact Lh F I N G E H L (Ab (Iy F I N G E H M O L)) d a m b ((a+b)/2) ((a+b)/2+m-b) ((a+b)/2) w M (by omega) (by omega) (by omega) hb Y Z O (Ab rfl) (Ab (.inl ⟨ah,by omega,rfl⟩)) T U ac ae hc
      . exact Lh F I N G E H L (Ab (Iy F I N G E H M O L)) d a m b ((a+b)/2) a m w M (by omega) (by omega) (by omega) hb Y Z O (Ab rfl) (Ab (.inr ⟨by omega,rfl,rfl⟩)) T U ac ae hc
set_option maxRecDepth 100000 in
theorem Md (M:Value)(a9:Hid (M=typeHandle Tryz.prog 230))(N G H O:Nat)(d:Nat->Int×Int)(a b:Nat)(w:World)(bd:N<=288)(bz:a<=b)(bv:b<=N)(a5:G<w.heap.size)(au:H<w.heap.size)(a4:H≠G)
 (ax:w.cell? ⟨H,0,none⟩=some (.slice (some ⟨G,0,none⟩) N O)) (a2:PS N G d w) (a6:RW d a b):
 Calls Tryz.prog 225 #[.agg #[LF H,SF M N G O],.int .i64 a,.int .i64 b] w fun e w'=>e=.returned (.tuple #[])/\∃d',PS N G d' w'/\Stab.Moved a b d d'/\Stab.Srt Stab.lx d' a b/\w.grownBy w' (some G):=by
 have ah:Hid (MSt M N G H O w (w.alloc (.cells #[LF H,SF M N G O] 277)) d):=⟨a2.alloc a5 _,Bt (Bp _ _) _,by simp,by simp,by rw[World.cell?_alloc_past _ _ _ au];exact ax,a5⟩
 have bn:=Ab a6;clear a2 ax a6;go_enter Tryz.func225,Tryz.ntmps225
 go_wp2;go_loopw [6] (fun ap wr=>∃(i:Nat) (F:Nat->Int×Int),a<i/\(i<=b\/ (i=a+1/\F=d))/\ap=.int .i64 i/\MSt M N G H O w wr F/\Stab.Moved a i d F/\Stab.Srt Stab.lx F a i) (fun ap _=>b+2-(intOf ap).toNat)
 case atStart=>exact⟨a+1,d,by omega,.inr ⟨rfl,rfl⟩,by go_num,Aa ah,Stab.Moved.refl _ _ _,fun i j Z aa bm=>by omega⟩
 case round=>
  obtain⟨i,F,b0,ai,rfl,I,Y,af⟩:=hrel;have ar:=Ab I;have bu:=Ab Y;have bf:=Ab af;have ca:=I.c0;have cb:=I.c1
  by_cases bg:i<b
  . have bk:Hid (∀k,a<=k->k<i->(F k).2<(F i).2):=fun k Z aa=>by
     obtain⟨bj,bb,e2,e3⟩:=Y.mem Z aa;rw[Y.out i (by omega),<-e3];exact Aa bn bj i bb e2 bg
    clear ai I Y af ah;go_wp2;go_loopw [7] (fun aj wr=>∃j:Nat,a<=j/\j<=i/\aj=.int .i64 j/\MSt M N G H O w wr (Stab.rot F j i (i+1))/\(j<i->Stab.lx (F i) (F j))) (fun aj _=>(intOf aj).toNat)
    case atStart=>exact⟨i,by omega,VB _,rfl,by rw[Stab.rot_left];exact Aa ar,fun M=>by omega⟩
    case round=>
     obtain⟨j,ay,ao,rfl,I,a1⟩:=hrel;have U:=Ab I;have ba:=Ab a1;have b5:=I.c0;have b4:=I.c1
     have ae:((a<j->Stab.lx (F (j-1)) (F i))->Hid (Stab.Moved a (i+1) d (Stab.rot F j i (i+1))/\Stab.Srt Stab.lx (Stab.rot F j i (i+1)) a (i+1))):=fun hl=>
      Ab ⟨((Aa bu).wider (VB _) (by omega) (by omega)).trans ((Stab.moved_rot F j i (i+1) ao (by omega)).wider ay (by omega) (VB _)),Stab.ins_last ay ao (Aa bf) hl (Aa ba)⟩
     clear I a1
     by_cases bw:a<j
     . have bi:(a:Int)<(j:Int):=by omega
       have E:Hid ((j:Int)-1=((j-1:Nat):Int)):=by unfold Hid;omega
       have a3:Stab.rot F j i (i+1) j=F i:=by
        unfold Stab.rot;rw[if_pos (by omega)]
        congr 1;omega
       have a8:Stab.rot F j i (i+1) (j-1)=F (j-1):=by
        unfold Stab.rot;rw[if_neg (by omega),if_neg (by omega)]
       have a7:=Stab.cross_less (Aa bk (j-1) (by omega) (by omega));have bq:=Ab a3;have bh:=Ab a8;have ag:=Ab a7;have av:=Ab (Stab.rot_down F j i (by omega) ao);have al:=Ab ae;clear a3 a8 a7 ae;generalize Stab.rot F j i (i+1)=D at*;go_wp2_with fail
       rw[Aa E];refine(Pe N G H O D _ j (j-1) (by omega) (by omega) bd (Aa U).ps (Aa U).box).mono ?_;rintro e b3 ⟨rfl,q,rfl⟩;rw[Aa bq,Aa bh]
       cases ac:decide ((F i).1<(F (j-1)).1)with
       |true=>
        have bc:=Ab ((Aa ag).1 ac);have bo:=Ou N G O D (wr.drewN q) j (j-1) (by omega) (by omega) ((Aa U).ps.drewN q);rw[<-Aa a9,<-Aa E]at bo;have aw:=Ab (PS.sw ((Aa U).ps.drewN q) j (j-1) (by omega) (by omega));have az:=Ab (Bf (Fa (Bp wr (some G)) q) (Pi (wr.drewN q) G D j (j-1)));rw[Aa av]at aw;have ak:=Ab ((Aa U).next au a4 (Aa aw) (Aa az));clear ac aw az ag al av;generalize swW (wr.drewN q) G D j (j-1)=w3 at*;go_wp2;go_roundw
        case rel=>exact⟨j-1,by omega,by omega,congrArg (Value.int .i64) (by omega),Aa ak,fun _=>Aa bc⟩
        case measure=>simp[intOf];omega
       |false=>
        have T:=Aa al (fun _=>(Aa ag).2 ac);have ak:Hid (MSt M N G H O w (wr.drewN q) D):=(Aa U).next au a4 ((Aa U).ps.drewN q) (Fa (Bp _ _) q);clear ac ag al av;go_wp2;go_roundw
        case rel=>exact⟨i+1,D,by omega,.inl (by omega),by go_num,Aa ak,(Aa T).1,(Aa T).2⟩
        case measure=>simp[intOf];omega
     . have bi:¬(a:Int)<(j:Int):=by omega
       have T:=ae (fun M=>by omega);clear ae;generalize Stab.rot F j i (i+1)=D at*;go_wp2;go_roundw
       case rel=>exact⟨i+1,D,by omega,.inl (by omega),by go_num,Aa U,(Aa T).1,(Aa T).2⟩
       case measure=>simp[intOf];omega
  . have T:Hid (Stab.Moved a b d F/\Stab.Srt Stab.lx F a b):=by
     rcases ai with Z|⟨Z,aa⟩
     . have e:i=b:=by omega
       rw[<-e];exact⟨Y,af⟩
     . rw[aa];exact⟨Stab.Moved.refl _ _ _,fun i j Z aa bm=>by omega⟩
    clear ai I Y af ah;go_wp2;go_end0
    exact⟨rfl,F,(Aa ar).ps,(Aa T).1,(Aa T).2,(Aa ar).grown⟩
set_option maxRecDepth 100000 in
theorem EY (Z:Value)(a5:Hid (Z=typeHandle Tryz.prog 230))(N H U ae:Nat)(d:Nat->Int×Int)(w:World)(ba:N<=288)(av:H<w.heap.size)(ah:U<w.heap.size)(al:U≠H)
 (bo:w.cell? ⟨U,0,none⟩=some (.slice (some ⟨H,0,none⟩) N ae)) (bk:PS N H d w) (bh:RW d 0 N):
 Calls Tryz.prog 197 #[.agg #[LF U,SF Z N H ae],.int .i64 N] w fun e w'=>e=.returned (.tuple #[])/\∃d',PS N H d' w'/\Stab.Moved 0 N d d'/\Stab.Srt Stab.lx d' 0 N/\w.grownBy w' (some H):=by
 have bm:Hid (MSt Z N H U ae w (w.alloc (.cells #[LF U,SF Z N H ae] 277)) d):=⟨bk.alloc av _,Bt (Bp _ _) _,by simp,by simp,by rw[World.cell?_alloc_past _ _ _ ah];exact bo,av⟩
 have b8:=Ab bh;have bv:Hid (Part d d N 20 0):=⟨fun s Z=>by omega,fun _ _=>rfl,fun s i j hi cg hn=>bh i j (VH _) (by omega) hn⟩
 have bn:=Ab (Iy Z a5 N H U ae ba al N);clear bk bo bh;go_enter Tryz.func197,Tryz.ntmps197
 go_wp2;go_loopw [5,6] (fun aj a9 wr=>∃(t F:Nat) (dk:Nat->Int×Int),Hid (F=t*20)/\F<=N/\aj=.int .i64 F/\a9=.int .i64 ((F:Int)+20)/\MSt Z N H U ae w wr dk/\Stab.Moved 0 N d dk/\Part dk d N 20 t) (fun aj _ _=>N+1-(intOf aj).toNat)
 case atStart=>exact⟨0,0,d,Ab rfl,VH _,rfl,rfl,Aa bm,Stab.Moved.refl _ _ _,Aa bv⟩
 case round=>
  obtain⟨t,F,dk,O,ap,rfl,rfl,T,ai,ak⟩:=hrel;have M:=Ab T;have aw:=Ab ai;have aa:=Ab ak;have ca:=T.c0;have cb:=T.c1
  have bc:Hid (∀e,e<=N->RW dk F e):=fun e cn i j bj b0 ce=>by
   rw[Aa O]at bj;rw[ak.rest i bj,ak.rest j (by omega)];exact Aa b8 i j (VH _) b0 (by omega)
  clear T ai ak bm bv
  by_cases G:F+20<=N
  . have a4:(F:Int)+20<=(N:Int):=by omega
    have E:Hid ((F:Int)+20=((F+20:Nat):Int)):=by unfold Hid;omega
    go_wp2_with fail
    rw[Aa E];refine(Md Z a5 N H U ae dk F (F+20) _ ba (by omega) G (VG av (Aa M).grown.size) (VG ah (Aa M).grown.size) al (Aa M).box (Aa M).ps (Aa bc (F+20) G)).mono ?_;rintro e bz ⟨rfl,d',ax,m2,ao,g2⟩;have a1:=Ab ((Aa M).next ah al ax g2);have a3:=Ab ((Aa aw).trans (m2.wider (VH _) (by omega) G))
    have b5:Hid (Part d' d N 20 (t+1)):=by
     have I:=Aa O;rw[I]at m2 ao G;exact(Aa aa).step G m2 ao
    have bw:Hid (F+20=(t+1)*20):=by have:=Aa O;unfold Hid;omega
    clear ax m2 ao g2;go_wp2;go_roundw
    case rel=>exact⟨t+1,F+20,d',bw,G,rfl,by go_num,Aa a1,Aa a3,Aa b5⟩
    case measure=>simp[intOf];omega
  . have a4:¬(F:Int)+20<=(N:Int):=by omega
    go_wp2_with fail
    refine(Md Z a5 N H U ae dk F N _ ba ap (VB _) (VG av (Aa M).grown.size) (VG ah (Aa M).grown.size) al (Aa M).box (Aa M).ps (Aa bc N (VB _))).mono ?_;rintro e bz ⟨rfl,d',ax,m2,ao,g2⟩;have a1:=Ab ((Aa M).next ah al ax g2);have a3:=Ab ((Aa aw).trans (m2.wider (VH _) ap (VB _)))
    have bg:Hid (Jq d' N 20/\Cuts d' N 20):=by
     have I:=Aa O;rw[I]at m2 ao;exact(Aa aa).last (by omega) (by omega) m2 ao
    clear ax m2 ao g2 M aw aa bc ca cb O ap G a4;go_wp2;go_loopw [4,5,6,7] (fun a8 _ _ _ wr=>∃(B:Nat) (Y:Nat->Int×Int),0<B/\B<=1000/\a8=.int .i64 B/\MSt Z N H U ae w wr Y/\Stab.Moved 0 N d Y/\Jq Y N B/\Cuts Y N B) (fun a8 _ _ _ _=>N-(intOf a8).toNat)
    case atStart=>exact⟨20,d',by omega,by omega,rfl,Aa a1,Aa a3,(Aa bg).1,(Aa bg).2⟩
    case round=>
     obtain⟨B,Y,cd,cj,rfl,T,ai,bu,bf⟩:=hrel;have M:=Ab T;have aw:=Ab ai;have a2:=Ab bu;have bq:=Ab bf;have ca:=T.c0;have cb:=T.c1;have bi:Hid (Part Y Y N (2*B) 0):=⟨fun s Z=>by omega,fun _ _=>rfl,bf.double⟩
     clear T ai bu bf a1 a3 bg
     by_cases cm:B<N
     . go_wp2;go_loopw [5,6] (fun aj a9 wr=>∃(t F:Nat) (dk:Nat->Int×Int),Hid (F=t*(2*B))/\F<=N/\aj=.int .i64 F/\a9=.int .i64 ((F:Int)+2*(B:Int))/\MSt Z N H U ae w wr dk/\Stab.Moved 0 N d dk/\Part dk Y N (2*B) t) (fun aj _ _=>N+1-(intOf aj).toNat)
       case atStart=>exact⟨0,0,Y,Ab (YJ _).symm,VH _,rfl,by go_num,Aa M,Aa aw,Aa bi⟩
       case round=>
        obtain⟨t,F,dk,O,ap,rfl,rfl,T,ai,ak⟩:=hrel;have ac:=Ab T;have a6:=Ab ai;have aa:=Ab ak;have ck:=T.c0;have ci:=T.c1;clear T ai ak bi
        by_cases G:F+2*B<=N
        . have a4:(F:Int)+2*(B:Int)<=(N:Int):=by omega
          have E:Hid ((F:Int)+2*(B:Int)=((F+2*B:Nat):Int)):=by unfold Hid;omega
          have a7:Hid ((F:Int)+(B:Int)=((F+B:Nat):Int)):=by unfold Hid;omega
          have af:Hid (Stab.Srt Stab.lx dk F (F+B)/\Stab.Srt Stab.lx dk (F+B) (F+2*B)/\Stab.Cross dk F (F+B) (F+2*B)):=by
           have I:=Aa O;rw[I];rw[I]at G;exact On (Aa a2) (Aa bq) (Aa aa).rest (by omega) (VB _) G (.inr rfl)
          go_wp2_with fail
          rw[Aa E,Aa a7];refine(Aa bn dk F (F+B) (F+2*B) _ (by omega) (by omega) (by omega) G (VG av (Aa ac).grown.size) (VG ah (Aa ac).grown.size) (Aa ac).box (Aa ac).ps (Aa af).1 (Aa af).2.1 (Aa af).2.2).mono ?_;rintro e w3 ⟨rfl,au,ay,ag,ar,g3⟩;have bb:=Ab ((Aa ac).next ah al ay g3);have bd:=Ab ((Aa a6).trans (ag.wider (VH _) (by omega) G))
          have b7:Hid (Part au Y N (2*B) (t+1)):=by
           have I:=Aa O;rw[I]at ag ar G;exact(Aa aa).step G ag ar
          have b9:Hid (F+2*B=(t+1)*(2*B)):=by have:=Aa O;unfold Hid;rw[ZD t (2*B),<-this]
          clear ay ag ar g3 af;go_wp2;go_roundw
          case rel=>exact⟨t+1,F+2*B,au,b9,G,rfl,by go_num,Aa bb,Aa bd,Aa b7⟩
          case measure=>simp[intOf];omega
        . have a4:¬(F:Int)+2*(B:Int)<=(N:Int):=by omega
          by_cases hm:F+B<N
          . have b4:(F:Int)+(B:Int)<(N:Int):=by omega
            have a7:Hid ((F:Int)+(B:Int)=((F+B:Nat):Int)):=by unfold Hid;omega
            have af:Hid (Stab.Srt Stab.lx dk F (F+B)/\Stab.Srt Stab.lx dk (F+B) N/\Stab.Cross dk F (F+B) N):=by
             have I:=Aa O;rw[I];rw[I]at G hm;exact On (Aa a2) (Aa bq) (Aa aa).rest hm (by omega) (VB _) (.inl rfl)
            go_wp2_with fail
            rw[Aa a7];refine(Aa bn dk F (F+B) N _ (by omega) (by omega) hm (VB _) (VG av (Aa ac).grown.size) (VG ah (Aa ac).grown.size) (Aa ac).box (Aa ac).ps (Aa af).1 (Aa af).2.1 (Aa af).2.2).mono ?_;rintro e w3 ⟨rfl,au,ay,ag,ar,g3⟩;have bb:=Ab ((Aa ac).next ah al ay g3);have bd:=Ab ((Aa a6).trans (ag.wider (VH _) ap (VB _)))
            have az:Hid (Jq au N (2*B)/\Cuts au N (2*B)):=by
             have I:=Aa O;rw[I]at ag ar;exact(Aa aa).last (by omega) (by omega) ag ar
            clear ay ag ar g3 af aa O;go_wp2;go_roundw
            case rel=>exact⟨2*B,au,by omega,by omega,congrArg (Value.int .i64) (by omega),Aa bb,Aa bd,(Aa az).1,(Aa az).2⟩
            case measure=>simp[intOf];omega
          . have b4:¬(F:Int)+(B:Int)<(N:Int):=by omega
            have az:Hid (Jq dk N (2*B)/\Cuts dk N (2*B)):=by
             have I:=Aa O;rw[I]at G hm ap;exact(Aa aa).last ap (by omega) (Stab.Moved.refl _ _ _) (MY (Aa a2) (Aa aa).rest (by omega))
            clear aa O;go_wp2;go_roundw
            case rel=>exact⟨2*B,dk,by omega,by omega,congrArg (Value.int .i64) (by omega),Aa ac,Aa a6,(Aa az).1,(Aa az).2⟩
            case measure=>simp[intOf];omega
     . have b3:Hid (Stab.Srt Stab.lx Y 0 N):=by
        have:=Aa a2 0
        rw[YJ,YG (by omega)]at this;exact this
       clear bi;go_wp2;go_end0
       exact⟨rfl,Y,(Aa M).ps,Aa aw,Aa b3,(Aa M).grown⟩
end Go.Proofs.YtleocpdblhbimaaGreatDoor
