import Derived.Test.YtleocpdblhbimaaGreatDoorQ42
import Derived.Test.YtleocpdblhbimaaGreatDoorQ11
set_option linter.unusedSimpArgs false
set_option linter.unusedVariables false
set_option maxHeartbeats 4000000
namespace Go.Proofs.YtleocpdblhbimaaGreatDoor
open Go.RowKit
theorem Iy (E:Value)(O:Hid (E=typeHandle Tryz.prog 230))(N G F H:Nat)(M:N<=288)(I:F≠G):∀L,Q0 E N G F H L
 |0=>fun d a m b w ag ah aa _ _ _ _ _ _ _ _=>by omega
 |L+1=>fun d a m b w ag ah aa hb Z T Y U ae ac hc=>by
  by_cases ai:m=a+1
  . exact A3 E O N G F H d a m b w (Ab ai) M aa hb Z T I Y U ac hc
  . by_cases af:b=m+1
    . exact Xa E O N G F H d a m b w (Ab af) M (by omega) aa hb Z T I Y U ae hc
    . by_cases aj:(a+b)/2<m
      . exact Lh E O N G F H L (Ab (Iy E O N G F H M I L)) d a m b ((a+b)/2) ((a+b)/2+m-b) ((a+b)/2) w M (by omega) (by omega) (by omega) hb Z T I (Ab rfl) (Ab (.inl ⟨aj,by omega,rfl⟩)) Y U ae ac hc
      . exact Lh E O N G F H L (Ab (Iy E O N G F H M I L)) d a m b ((a+b)/2) a m w M (by omega) (by omega) (by omega) hb Z T I (Ab rfl) (Ab (.inr ⟨by omega,rfl,rfl⟩)) Y U ae ac hc
set_option maxRecDepth 100000 in
theorem Md (O:Value)(bh:Hid (O=typeHandle Tryz.prog 230))(N G I M:Nat)(d:Nat->Int×Int)(a b:Nat)(w:World)(bd:N<=288)(b4:a<=b)(bz:b<=N)(a8:G<w.heap.size)(al:I<w.heap.size)(ay:I≠G)
 (a3:w.cell? ⟨I,0,none⟩=some (.slice (some ⟨G,0,none⟩) N M)) (a2:PS N G d w) (a6:RW d a b):
 Calls Tryz.prog 225 #[.agg #[LF I,SF O N G M],.int .i64 a,.int .i64 b] w fun e w'=>e=.returned (.tuple #[])/\∃d',PS N G d' w'/\Stab.Moved a b d d'/\Stab.Srt Stab.lx d' a b/\w.grownBy w' (some G):=by
 have ah:Hid (MSt O N G I M w (w.alloc (.cells #[LF I,SF O N G M] 277)) d):=⟨a2.alloc a8 _,Bt (Bp _ _) _,by simp,by simp,by rw[World.cell?_alloc_past _ _ _ al];exact a3,a8⟩
 have bu:=Ab a6;clear a2 a3 a6;go_enter Tryz.func225,Tryz.ntmps225
 go_wp2;go_loopw [6] (fun ak wr=>∃(i:Nat) (F:Nat->Int×Int),a<i/\(i<=b\/ (i=a+1/\F=d))/\ak=.int .i64 i/\MSt O N G I M w wr F/\Stab.Moved a i d F/\Stab.Srt Stab.lx F a i) (fun ak _=>b+2-(intOf ak).toNat)
 case atStart=>exact⟨a+1,d,by omega,.inr ⟨rfl,rfl⟩,by go_num,Aa ah,Stab.Moved.refl _ _ _,fun i j aa Z bq=>by omega⟩
 case round=>
  obtain⟨i,F,bw,ao,rfl,H,Y,ag⟩:=hrel;have aj:=Ab H;have bo:=Ab Y;have bk:=Ab ag;have ca:=H.c0;have cb:=H.c1
  by_cases bb:i<b
  . have bi:Hid (∀k,a<=k->k<i->(F k).2<(F i).2):=fun k aa Z=>by
     obtain⟨bc,bf,e2,e3⟩:=Y.mem aa Z;rw[Y.out i (by omega),<-e3];exact Aa bu bc i bf e2 bb
    clear ao H Y ag ah;go_wp2;go_loopw [7] (fun av wr=>∃j:Nat,a<=j/\j<=i/\av=.int .i64 j/\MSt O N G I M w wr (Stab.rot F j i (i+1))/\(j<i->Stab.lx (F i) (F j))) (fun av _=>(intOf av).toNat)
    case atStart=>exact⟨i,by omega,VB _,rfl,by rw[Stab.rot_left];exact Aa aj,fun O=>by omega⟩
    case round=>
     obtain⟨j,az,aw,rfl,H,a5⟩:=hrel;have U:=Ab H;have a9:=Ab a5;have b3:=H.c0;have b5:=H.c1
     have ae:((a<j->Stab.lx (F (j-1)) (F i))->Hid (Stab.Moved a (i+1) d (Stab.rot F j i (i+1))/\Stab.Srt Stab.lx (Stab.rot F j i (i+1)) a (i+1))):=fun hl=>
      Ab ⟨((Aa bo).wider (VB _) (by omega) (by omega)).trans ((Stab.moved_rot F j i (i+1) aw (by omega)).wider az (by omega) (VB _)),Stab.ins_last az aw (Aa bk) hl (Aa a9)⟩
     clear H a5
     by_cases b0:a<j
     . have bj:(a:Int)<(j:Int):=by omega
       have E:Hid ((j:Int)-1=((j-1:Nat):Int)):=by unfold Hid;omega
       have a4:Stab.rot F j i (i+1) j=F i:=by
        unfold Stab.rot;rw[if_pos (by omega)]
        congr 1;omega
       have a1:Stab.rot F j i (i+1) (j-1)=F (j-1):=by
        unfold Stab.rot;rw[if_neg (by omega),if_neg (by omega)]
       have a7:=Stab.cross_less (Aa bi (j-1) (by omega) (by omega));have ba:=Ab a4;have bm:=Ab a1;have ac:=Ab a7;have ar:=Ab (Stab.rot_down F j i (by omega) aw);have ap:=Ab ae;clear a4 a1 a7 ae;generalize Stab.rot F j i (i+1)=D at*;go_wp2_with fail
       rw[Aa E];refine(Pe N G I M D _ j (j-1) (by omega) (by omega) bd (Aa U).ps (Aa U).box).mono ?_;rintro e bv ⟨rfl,q,rfl⟩;rw[Aa ba,Aa bm]
       cases af:decide ((F i).1<(F (j-1)).1)with
       |true=>
        have bn:=Ab ((Aa ac).1 af);have bg:=Ou N G M D (wr.drewN q) j (j-1) (by omega) (by omega) ((Aa U).ps.drewN q);rw[<-Aa bh,<-Aa E]at bg;have au:=Ab (PS.sw ((Aa U).ps.drewN q) j (j-1) (by omega) (by omega));have ax:=Ab (Bf (Fa (Bp wr (some G)) q) (Pi (wr.drewN q) G D j (j-1)));rw[Aa ar]at au;have ai:=Ab ((Aa U).next al ay (Aa au) (Aa ax));clear af au ax ac ap ar;generalize swW (wr.drewN q) G D j (j-1)=w3 at*;go_wp2;go_roundw
        case rel=>exact⟨j-1,by omega,by omega,congrArg (Value.int .i64) (by omega),Aa ai,fun _=>Aa bn⟩
        case measure=>simp[intOf];omega
       |false=>
        have T:=Aa ap (fun _=>(Aa ac).2 af);have ai:Hid (MSt O N G I M w (wr.drewN q) D):=(Aa U).next al ay ((Aa U).ps.drewN q) (Fa (Bp _ _) q);clear af ac ap ar;go_wp2;go_roundw
        case rel=>exact⟨i+1,D,by omega,.inl (by omega),by go_num,Aa ai,(Aa T).1,(Aa T).2⟩
        case measure=>simp[intOf];omega
     . have bj:¬(a:Int)<(j:Int):=by omega
       have T:=ae (fun O=>by omega);clear ae;generalize Stab.rot F j i (i+1)=D at*;go_wp2;go_roundw
       case rel=>exact⟨i+1,D,by omega,.inl (by omega),by go_num,Aa U,(Aa T).1,(Aa T).2⟩
       case measure=>simp[intOf];omega
  . have T:Hid (Stab.Moved a b d F/\Stab.Srt Stab.lx F a b):=by
     rcases ao with aa|⟨aa,Z⟩
     . have e:i=b:=by omega
       rw[<-e];exact⟨Y,ag⟩
     . rw[Z];exact⟨Stab.Moved.refl _ _ _,fun i j aa Z bq=>by omega⟩
    clear ao H Y ag ah;go_wp2;go_end0
    exact⟨rfl,F,(Aa aj).ps,(Aa T).1,(Aa T).2,(Aa aj).grown⟩
set_option maxRecDepth 100000 in
theorem EY (Z:Value)(bf:Hid (Z=typeHandle Tryz.prog 230))(N I aa ae:Nat)(d:Nat->Int×Int)(w:World)(bd:N<=288)(aw:I<w.heap.size)(ah:aa<w.heap.size)(ar:aa≠I)
 (bq:w.cell? ⟨aa,0,none⟩=some (.slice (some ⟨I,0,none⟩) N ae)) (bk:PS N I d w) (a8:RW d 0 N):
 Calls Tryz.prog 197 #[.agg #[LF aa,SF Z N I ae],.int .i64 N] w fun e w'=>e=.returned (.tuple #[])/\∃d',PS N I d' w'/\Stab.Moved 0 N d d'/\Stab.Srt Stab.lx d' 0 N/\w.grownBy w' (some I):=by
 have bm:Hid (MSt Z N I aa ae w (w.alloc (.cells #[LF aa,SF Z N I ae] 277)) d):=⟨bk.alloc aw _,Bt (Bp _ _) _,by simp,by simp,by rw[World.cell?_alloc_past _ _ _ ah];exact bq,aw⟩
 have b8:=Ab a8;have bn:Hid (Part d d N 20 0):=⟨fun s Z=>by omega,fun _ _=>rfl,fun s i j hi cd hn=>a8 i j (VH _) (by omega) hn⟩
 have bv:=Ab (Iy Z bf N I aa ae bd ar N);clear bk bq a8;go_enter Tryz.func197,Tryz.ntmps197
 go_wp2;go_loopw [5,6] (fun aj ba wr=>∃(t F:Nat) (dk:Nat->Int×Int),Hid (F=t*20)/\F<=N/\aj=.int .i64 F/\ba=.int .i64 ((F:Int)+20)/\MSt Z N I aa ae w wr dk/\Stab.Moved 0 N d dk/\Part dk d N 20 t) (fun aj _ _=>N+1-(intOf aj).toNat)
 case atStart=>exact⟨0,0,d,Ab rfl,VH _,rfl,rfl,Aa bm,Stab.Moved.refl _ _ _,Aa bn⟩
 case round=>
  obtain⟨t,F,dk,O,al,rfl,rfl,T,ai,ap⟩:=hrel;have M:=Ab T;have av:=Ab ai;have Y:=Ab ap;have ca:=T.c0;have cb:=T.c1
  have bi:Hid (∀e,e<=N->RW dk F e):=fun e ce i j bu b4 cj=>by
   rw[Aa O]at bu;rw[ap.rest i bu,ap.rest j (by omega)];exact Aa b8 i j (VH _) b4 (by omega)
  clear T ai ap bm bn
  by_cases G:F+20<=N
  . have a4:(F:Int)+20<=(N:Int):=by omega
    have E:Hid ((F:Int)+20=((F+20:Nat):Int)):=by unfold Hid;omega
    go_wp2_with fail
    rw[Aa E];refine(Md Z bf N I aa ae dk F (F+20) _ bd (by omega) G (VG aw (Aa M).grown.size) (VG ah (Aa M).grown.size) ar (Aa M).box (Aa M).ps (Aa bi (F+20) G)).mono ?_;rintro e b0 ⟨rfl,d',ax,m2,ak,g2⟩;have a3:=Ab ((Aa M).next ah ar ax g2);have a1:=Ab ((Aa av).trans (m2.wider (VH _) (by omega) G))
    have b3:Hid (Part d' d N 20 (t+1)):=by
     have H:=Aa O;rw[H]at m2 ak G;exact(Aa Y).step G m2 ak
    have b5:Hid (F+20=(t+1)*20):=by have:=Aa O;unfold Hid;omega
    clear ax m2 ak g2;go_wp2;go_roundw
    case rel=>exact⟨t+1,F+20,d',b5,G,rfl,by go_num,Aa a3,Aa a1,Aa b3⟩
    case measure=>simp[intOf];omega
  . have a4:¬(F:Int)+20<=(N:Int):=by omega
    go_wp2_with fail
    refine(Md Z bf N I aa ae dk F N _ bd al (VB _) (VG aw (Aa M).grown.size) (VG ah (Aa M).grown.size) ar (Aa M).box (Aa M).ps (Aa bi N (VB _))).mono ?_;rintro e b0 ⟨rfl,d',ax,m2,ak,g2⟩;have a3:=Ab ((Aa M).next ah ar ax g2);have a1:=Ab ((Aa av).trans (m2.wider (VH _) al (VB _)))
    have a9:Hid (Jq d' N 20/\Cuts d' N 20):=by
     have H:=Aa O;rw[H]at m2 ak;exact(Aa Y).last (by omega) (by omega) m2 ak
    clear ax m2 ak g2 M av Y bi ca cb O al G a4;go_wp2;go_loopw [4,5,6,7] (fun a6 _ _ _ wr=>∃(B:Nat) (U:Nat->Int×Int),0<B/\B<=1000/\a6=.int .i64 B/\MSt Z N I aa ae w wr U/\Stab.Moved 0 N d U/\Jq U N B/\Cuts U N B) (fun a6 _ _ _ _=>N-(intOf a6).toNat)
    case atStart=>exact⟨20,d',by omega,by omega,rfl,Aa a3,Aa a1,(Aa a9).1,(Aa a9).2⟩
    case round=>
     obtain⟨B,U,cn,ci,rfl,T,ai,bo,a7⟩:=hrel;have M:=Ab T;have av:=Ab ai;have a2:=Ab bo;have bj:=Ab a7;have ca:=T.c0;have cb:=T.c1;have a5:Hid (Part U U N (2*B) 0):=⟨fun s Z=>by omega,fun _ _=>rfl,a7.double⟩
     clear T ai bo a7 a3 a1 a9
     by_cases cm:B<N
     . go_wp2;go_loopw [5,6] (fun aj ba wr=>∃(t F:Nat) (dk:Nat->Int×Int),Hid (F=t*(2*B))/\F<=N/\aj=.int .i64 F/\ba=.int .i64 ((F:Int)+2*(B:Int))/\MSt Z N I aa ae w wr dk/\Stab.Moved 0 N d dk/\Part dk U N (2*B) t) (fun aj _ _=>N+1-(intOf aj).toNat)
       case atStart=>exact⟨0,0,U,Ab (YJ _).symm,VH _,rfl,by go_num,Aa M,Aa av,Aa a5⟩
       case round=>
        obtain⟨t,F,dk,O,al,rfl,rfl,T,ai,ap⟩:=hrel;have ac:=Ab T;have bg:=Ab ai;have Y:=Ab ap;have ck:=T.c0;have cg:=T.c1;clear T ai ap a5
        by_cases G:F+2*B<=N
        . have a4:(F:Int)+2*(B:Int)<=(N:Int):=by omega
          have E:Hid ((F:Int)+2*(B:Int)=((F+2*B:Nat):Int)):=by unfold Hid;omega
          have bb:Hid ((F:Int)+(B:Int)=((F+B:Nat):Int)):=by unfold Hid;omega
          have ag:Hid (Stab.Srt Stab.lx dk F (F+B)/\Stab.Srt Stab.lx dk (F+B) (F+2*B)/\Stab.Cross dk F (F+B) (F+2*B)):=by
           have H:=Aa O;rw[H];rw[H]at G;exact On (Aa a2) (Aa bj) (Aa Y).rest (by omega) (VB _) G (.inr rfl)
          go_wp2_with fail
          rw[Aa E,Aa bb];refine(Aa bv dk F (F+B) (F+2*B) _ (by omega) (by omega) (by omega) G (VG aw (Aa ac).grown.size) (VG ah (Aa ac).grown.size) (Aa ac).box (Aa ac).ps (Aa ag).1 (Aa ag).2.1 (Aa ag).2.2).mono ?_;rintro e w3 ⟨rfl,au,ay,af,ao,g3⟩;have bc:=Ab ((Aa ac).next ah ar ay g3);have bh:=Ab ((Aa bg).trans (af.wider (VH _) (by omega) G))
          have b9:Hid (Part au U N (2*B) (t+1)):=by
           have H:=Aa O;rw[H]at af ao G;exact(Aa Y).step G af ao
          have b7:Hid (F+2*B=(t+1)*(2*B)):=by have:=Aa O;unfold Hid;rw[ZD t (2*B),<-this]
          clear ay af ao g3 ag;go_wp2;go_roundw
          case rel=>exact⟨t+1,F+2*B,au,b7,G,rfl,by go_num,Aa bc,Aa bh,Aa b9⟩
          case measure=>simp[intOf];omega
        . have a4:¬(F:Int)+2*(B:Int)<=(N:Int):=by omega
          by_cases hm:F+B<N
          . have bz:(F:Int)+(B:Int)<(N:Int):=by omega
            have bb:Hid ((F:Int)+(B:Int)=((F+B:Nat):Int)):=by unfold Hid;omega
            have ag:Hid (Stab.Srt Stab.lx dk F (F+B)/\Stab.Srt Stab.lx dk (F+B) N/\Stab.Cross dk F (F+B) N):=by
             have H:=Aa O;rw[H];rw[H]at G hm;exact On (Aa a2) (Aa bj) (Aa Y).rest hm (by omega) (VB _) (.inl rfl)
            go_wp2_with fail
            rw[Aa bb];refine(Aa bv dk F (F+B) N _ (by omega) (by omega) hm (VB _) (VG aw (Aa ac).grown.size) (VG ah (Aa ac).grown.size) (Aa ac).box (Aa ac).ps (Aa ag).1 (Aa ag).2.1 (Aa ag).2.2).mono ?_;rintro e w3 ⟨rfl,au,ay,af,ao,g3⟩;have bc:=Ab ((Aa ac).next ah ar ay g3);have bh:=Ab ((Aa bg).trans (af.wider (VH _) al (VB _)))
            have az:Hid (Jq au N (2*B)/\Cuts au N (2*B)):=by
             have H:=Aa O;rw[H]at af ao;exact(Aa Y).last (by omega) (by omega) af ao
            clear ay af ao g3 ag Y O;go_wp2;go_roundw
            case rel=>exact⟨2*B,au,by omega,by omega,congrArg (Value.int .i64) (by omega),Aa bc,Aa bh,(Aa az).1,(Aa az).2⟩
            case measure=>simp[intOf];omega
          . have bz:¬(F:Int)+(B:Int)<(N:Int):=by omega
            have az:Hid (Jq dk N (2*B)/\Cuts dk N (2*B)):=by
             have H:=Aa O;rw[H]at G hm al;exact(Aa Y).last al (by omega) (Stab.Moved.refl _ _ _) (MY (Aa a2) (Aa Y).rest (by omega))
            clear Y O;go_wp2;go_roundw
            case rel=>exact⟨2*B,dk,by omega,by omega,congrArg (Value.int .i64) (by omega),Aa ac,Aa bg,(Aa az).1,(Aa az).2⟩
            case measure=>simp[intOf];omega
     . have bw:Hid (Stab.Srt Stab.lx U 0 N):=by
        have:=Aa a2 0
        rw[YJ,YG (by omega)]at this;exact this
       clear a5;go_wp2;go_end0
       exact⟨rfl,U,(Aa M).ps,Aa av,Aa bw,(Aa M).grown⟩
end Go.Proofs.YtleocpdblhbimaaGreatDoor
