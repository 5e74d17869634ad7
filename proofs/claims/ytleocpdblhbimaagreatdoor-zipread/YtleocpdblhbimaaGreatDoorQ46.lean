import Derived.Test.YtleocpdblhbimaaGreatDoorQ45
import Derived.Test.YtleocpdblhbimaaGreatDoorQ12
set_option linter.unusedSimpArgs false
set_option maxHeartbeats 4000000
namespace Go.Proofs.YtleocpdblhbimaaGreatDoor
open Go.RowKit
set_option linter.unusedVariables false
theorem Iy (E:Value)(M:Hid (E=typeHandle Tryz.prog 230))(N G F H:Nat)(I:N<=288)(O:F≠G):∀L,Q0 E N G F H L
 |0=>fun d a m b w ai ae ab _ _ _ _ _ _ _ _=>by omega
 |L+1=>fun d a m b w ai ae ab hb T Y U Z ac aa hc=>by
  by_cases af:m=a+1
  . exact A3 E M N G F H d a m b w (Ab af) I ab hb T Y O U Z aa hc
  . by_cases ag:b=m+1
    . exact Xa E M N G F H d a m b w (Ab ag) I (by omega) ab hb T Y O U Z ac hc
    . by_cases ah:(a+b)/2<m
      . exact Lh E M N G F H L (Ab (Iy E M N G F H I O L)) d a m b ((a+b)/2) ((a+b)/2+m-b) ((a+b)/2) w I (by omega) (by omega) (by omega) hb T Y O (Ab rfl) (Ab (.inl ⟨ah,by omega,rfl⟩)) U Z ac aa hc
      . exact Lh E M N G F H L (Ab (Iy E M N G F H I O L)) d a m b ((a+b)/2) a m w I (by omega) (by omega) (by omega) hb T Y O (Ab rfl) (Ab (.inr ⟨by omega,rfl,rfl⟩)) U Z ac aa hc
set_option maxRecDepth 100000 in
theorem Md (O:Value)(bb:Hid (O=typeHandle Tryz.prog 230))(N G H M:Nat)(d:Nat->Int×Int)(a b:Nat)(w:World)(ba:N<=288)(bo:a<=b)(bk:b<=N)(av:G<w.heap.size)(ap:H<w.heap.size)(ay:H≠G)
 (a0:w.cell? ⟨H,0,none⟩=some (.slice (some ⟨G,0,none⟩) N M)) (a1:PS N G d w) (a2:RW d a b):
 Calls Tryz.prog 225 #[.agg #[LF H,SF O N G M],.int .i64 a,.int .i64 b] w fun e w'=>e=.returned (.tuple #[])/\∃d',PS N G d' w'/\Stab.Moved a b d d'/\Stab.Srt Stab.lx d' a b/\w.grownBy w' (some G):=by
 have ai:Hid (MSt O N G H M w (w.alloc (.cells #[LF H,SF O N G M] 277)) d):=⟨a1.alloc av _,Bt (Bp _ _) _,by simp,by simp,by rw[World.cell?_alloc_past _ _ _ ap];exact a0,av⟩
 have a3:=Ab a2;clear a1 a0 a2;go_enter Tryz.func225,Tryz.ntmps225
 go_wp2;go_loopw [6] (fun ah wr=>∃(i:Nat) (F:Nat->Int×Int),a<i/\(i<=b\/ (i=a+1/\F=d))/\ah=.int .i64 i/\MSt O N G H M w wr F/\Stab.Moved a i d F/\Stab.Srt Stab.lx F a i) (fun ah _=>b+2-(intOf ah).toNat)
 case atStart=>exact⟨a+1,d,by omega,.inr ⟨rfl,rfl⟩,by go_num,Aa ai,Stab.Moved.refl _ _ _,fun i j Z aa bg=>by omega⟩
 case round=>
  obtain⟨i,F,bn,am,rfl,I,Y,ac⟩:=hrel;have an:=Ab I;have a8:=Ab Y;have bf:=Ab ac;have ca:=I.c0;have cb:=I.c1
  by_cases a9:i<b
  . have bc:Hid (∀k,a<=k->k<i->(F k).2<(F i).2):=fun k Z aa=>by
     obtain⟨bd,a6,e2,e3⟩:=Y.mem Z aa;rw[Y.out i (by omega),<-e3];exact Aa a3 bd i a6 e2 a9
    clear am I Y ac ai;go_wp2;go_loopw [7] (fun al wr=>∃j:Nat,a<=j/\j<=i/\al=.int .i64 j/\MSt O N G H M w wr (Stab.rot F j i (i+1))/\(j<i->Stab.lx (F i) (F j))) (fun al _=>(intOf al).toNat)
    case atStart=>exact⟨i,by omega,VB _,rfl,by rw[Stab.rot_left];exact Aa an,fun O=>by omega⟩
    case round=>
     obtain⟨j,as,ak,rfl,I,au⟩:=hrel;have T:=Ab I;have bh:=Ab au;have bq:=I.c0;have bm:=I.c1
     have ab:((a<j->Stab.lx (F (j-1)) (F i))->Hid (Stab.Moved a (i+1) d (Stab.rot F j i (i+1))/\Stab.Srt Stab.lx (Stab.rot F j i (i+1)) a (i+1))):=fun hl=>
      Ab ⟨((Aa a8).wider (VB _) (by omega) (by omega)).trans ((Stab.moved_rot F j i (i+1) ak (by omega)).wider as (by omega) (VB _)),Stab.ins_last as ak (Aa bf) hl (Aa bh)⟩
     clear I au
     by_cases bt:a<j
     . have a4:(a:Int)<(j:Int):=by omega
       have E:Hid ((j:Int)-1=((j-1:Nat):Int)):=by unfold Hid;omega
       have aw:Stab.rot F j i (i+1) j=F i:=by
        unfold Stab.rot;rw[if_pos (by omega)]
        congr 1;omega
       have ar:Stab.rot F j i (i+1) (j-1)=F (j-1):=by
        unfold Stab.rot;rw[if_neg (by omega),if_neg (by omega)]
       have ax:=Stab.cross_less (Aa bc (j-1) (by omega) (by omega));have a5:=Ab aw;have be:=Ab ar;have af:=Ab ax;have ao:=Ab (Stab.rot_down F j i (by omega) ak);have aq:=Ab ab;clear aw ar ax ab;generalize Stab.rot F j i (i+1)=D at*;go_wp2_with fail
       rw[Aa E];refine(Pe N G H M D _ j (j-1) (by omega) (by omega) ba (Aa T).ps (Aa T).box).mono ?_;rintro e bj ⟨rfl,q,rfl⟩;rw[Aa a5,Aa be]
       cases ae:decide ((F i).1<(F (j-1)).1)with
       |true=>
        have bi:=Ab ((Aa af).1 ae);have a7:=Ou N G M D (wr.drewN q) j (j-1) (by omega) (by omega) ((Aa T).ps.drewN q);rw[<-Aa bb,<-Aa E]at a7;have ag:=Ab (PS.sw ((Aa T).ps.drewN q) j (j-1) (by omega) (by omega));have az:=Ab (Bf (Fa (Bp wr (some G)) q) (Pi (wr.drewN q) G D j (j-1)));rw[Aa ao]at ag;have aj:=Ab ((Aa T).next ap ay (Aa ag) (Aa az));clear ae ag az af aq ao;generalize swW (wr.drewN q) G D j (j-1)=w3 at*;go_wp2;go_roundw
        case rel=>exact⟨j-1,by omega,by omega,congrArg (Value.int .i64) (by omega),Aa aj,fun _=>Aa bi⟩
        case measure=>simp[intOf];omega
       |false=>
        have U:=Aa aq (fun _=>(Aa af).2 ae);have aj:Hid (MSt O N G H M w (wr.drewN q) D):=(Aa T).next ap ay ((Aa T).ps.drewN q) (Fa (Bp _ _) q);clear ae af aq ao;go_wp2;go_roundw
        case rel=>exact⟨i+1,D,by omega,.inl (by omega),by go_num,Aa aj,(Aa U).1,(Aa U).2⟩
        case measure=>simp[intOf];omega
     . have a4:¬(a:Int)<(j:Int):=by omega
       have U:=ab (fun O=>by omega);clear ab;generalize Stab.rot F j i (i+1)=D at*;go_wp2;go_roundw
       case rel=>exact⟨i+1,D,by omega,.inl (by omega),by go_num,Aa T,(Aa U).1,(Aa U).2⟩
       case measure=>simp[intOf];omega
  . have U:Hid (Stab.Moved a b d F/\Stab.Srt Stab.lx F a b):=by
     rcases am with Z|⟨Z,aa⟩
     . have e:i=b:=by omega
       rw[<-e];exact⟨Y,ac⟩
     . rw[aa];exact⟨Stab.Moved.refl _ _ _,fun i j Z aa bg=>by omega⟩
    clear am I Y ac ai;go_wp2;go_end0
    exact⟨rfl,F,(Aa an).ps,(Aa U).1,(Aa U).2,(Aa an).grown⟩
set_option maxRecDepth 100000 in
theorem EY (U:Value)(a8:Hid (U=typeHandle Tryz.prog 230))(N H aa ac:Nat)(d:Nat->Int×Int)(w:World)(a7:N<=288)(ap:H<w.heap.size)(ae:aa<w.heap.size)(am:aa≠H)
 (bj:w.cell? ⟨aa,0,none⟩=some (.slice (some ⟨H,0,none⟩) N ac)) (bg:PS N H d w) (a3:RW d 0 N):
 Calls Tryz.prog 197 #[.agg #[LF aa,SF U N H ac],.int .i64 N] w fun e w'=>e=.returned (.tuple #[])/\∃d',PS N H d' w'/\Stab.Moved 0 N d d'/\Stab.Srt Stab.lx d' 0 N/\w.grownBy w' (some H):=by
 have bd:Hid (MSt U N H aa ac w (w.alloc (.cells #[LF aa,SF U N H ac] 277)) d):=⟨bg.alloc ap _,Bt (Bp _ _) _,by simp,by simp,by rw[World.cell?_alloc_past _ _ _ ae];exact bj,ap⟩
 have bt:=Ab a3;have be:Hid (Part d d N 20 0):=⟨fun s U=>by omega,fun _ _=>rfl,fun s i j hi b4 hn=>a3 i j (VH _) (by omega) hn⟩
 have bc:=Ab (Iy U a8 N H aa ac a7 am N);clear bg bj a3;go_enter Tryz.func197,Tryz.ntmps197
 go_wp2;go_loopw [5,6] (fun ak bb wr=>∃(t F:Nat) (dk:Nat->Int×Int),Hid (F=t*20)/\F<=N/\ak=.int .i64 F/\bb=.int .i64 ((F:Int)+20)/\MSt U N H aa ac w wr dk/\Stab.Moved 0 N d dk/\Part dk d N 20 t) (fun ak _ _=>N+1-(intOf ak).toNat)
 case atStart=>exact⟨0,0,d,Ab rfl,VH _,rfl,rfl,Aa bd,Stab.Moved.refl _ _ _,Aa be⟩
 case round=>
  obtain⟨t,F,dk,T,an,rfl,rfl,O,ah,al⟩:=hrel;have M:=Ab O;have ao:=Ab ah;have Z:=Ab al;have ca:=O.c0;have cb:=O.c1
  have az:Hid (∀e,e<=N->RW dk F e):=fun e bz i j bf bn b0=>by
   rw[Aa T]at bf;rw[al.rest i bf,al.rest j (by omega)];exact Aa bt i j (VH _) bn (by omega)
  clear O ah al bd be
  by_cases G:F+20<=N
  . have ay:(F:Int)+20<=(N:Int):=by omega
    have E:Hid ((F:Int)+20=((F+20:Nat):Int)):=by unfold Hid;omega
    go_wp2_with fail
    rw[Aa E];refine(Md U a8 N H aa ac dk F (F+20) _ a7 (by omega) G (VG ap (Aa M).grown.size) (VG ae (Aa M).grown.size) am (Aa M).box (Aa M).ps (Aa az (F+20) G)).mono ?_;rintro e bu ⟨rfl,d',as,m2,aj,g2⟩;have aw:=Ab ((Aa M).next ae am as g2);have av:=Ab ((Aa ao).trans (m2.wider (VH _) (by omega) G))
    have bw:Hid (Part d' d N 20 (t+1)):=by
     have I:=Aa T;rw[I]at m2 aj G;exact(Aa Z).step G m2 aj
    have bq:Hid (F+20=(t+1)*20):=by have:=Aa T;unfold Hid;omega
    clear as m2 aj g2;go_wp2;go_roundw
    case rel=>exact⟨t+1,F+20,d',bq,G,rfl,by go_num,Aa aw,Aa av,Aa bw⟩
    case measure=>simp[intOf];omega
  . have ay:¬(F:Int)+20<=(N:Int):=by omega
    go_wp2_with fail
    refine(Md U a8 N H aa ac dk F N _ a7 an (VB _) (VG ap (Aa M).grown.size) (VG ae (Aa M).grown.size) am (Aa M).box (Aa M).ps (Aa az N (VB _))).mono ?_;rintro e bu ⟨rfl,d',as,m2,aj,g2⟩;have aw:=Ab ((Aa M).next ae am as g2);have av:=Ab ((Aa ao).trans (m2.wider (VH _) an (VB _)))
    have a4:Hid (Jq d' N 20/\Cuts d' N 20):=by
     have I:=Aa T;rw[I]at m2 aj;exact(Aa Z).last (by omega) (by omega) m2 aj
    clear as m2 aj g2 M ao Z az ca cb T an G ay;go_wp2;go_loopw [4,5,6,7] (fun a5 _ _ _ wr=>∃(B:Nat) (Y:Nat->Int×Int),0<B/\B<=1000/\a5=.int .i64 B/\MSt U N H aa ac w wr Y/\Stab.Moved 0 N d Y/\Jq Y N B/\Cuts Y N B) (fun a5 _ _ _ _=>N-(intOf a5).toNat)
    case atStart=>exact⟨20,d',by omega,by omega,rfl,Aa aw,Aa av,(Aa a4).1,(Aa a4).2⟩
    case round=>
     obtain⟨B,Y,b3,b8,rfl,O,ah,bh,a1⟩:=hrel;have M:=Ab O;have ao:=Ab ah;have ax:=Ab bh;have bi:=Ab a1;have ca:=O.c0;have cb:=O.c1;have a2:Hid (Part Y Y N (2*B) 0):=⟨fun s U=>by omega,fun _ _=>rfl,a1.double⟩
     clear O ah bh a1 aw av a4
     by_cases b9:B<N
     . go_wp2;go_loopw [5,6] (fun ak bb wr=>∃(t F:Nat) (dk:Nat->Int×Int),Hid (F=t*(2*B))/\F<=N/\ak=.int .i64 F/\bb=.int .i64 ((F:Int)+2*(B:Int))/\MSt U N H aa ac w wr dk/\Stab.Moved 0 N d dk/\Part dk Y N (2*B) t) (fun ak _ _=>N+1-(intOf ak).toNat)
       case atStart=>exact⟨0,0,Y,Ab (YJ _).symm,VH _,rfl,by go_num,Aa M,Aa ao,Aa a2⟩
       case round=>
        obtain⟨t,F,dk,T,an,rfl,rfl,O,ah,al⟩:=hrel;have ab:=Ab O;have a9:=Ab ah;have Z:=Ab al;have b5:=O.c0;have b7:=O.c1;clear O ah al a2
        by_cases G:F+2*B<=N
        . have ay:(F:Int)+2*(B:Int)<=(N:Int):=by omega
          have E:Hid ((F:Int)+2*(B:Int)=((F+2*B:Nat):Int)):=by unfold Hid;omega
          have a6:Hid ((F:Int)+(B:Int)=((F+B:Nat):Int)):=by unfold Hid;omega
          have ag:Hid (Stab.Srt Stab.lx dk F (F+B)/\Stab.Srt Stab.lx dk (F+B) (F+2*B)/\Stab.Cross dk F (F+B) (F+2*B)):=by
           have I:=Aa T;rw[I];rw[I]at G;exact On (Aa ax) (Aa bi) (Aa Z).rest (by omega) (VB _) G (.inr rfl)
          go_wp2_with fail
          rw[Aa E,Aa a6];refine(Aa bc dk F (F+B) (F+2*B) _ (by omega) (by omega) (by omega) G (VG ap (Aa ab).grown.size) (VG ae (Aa ab).grown.size) (Aa ab).box (Aa ab).ps (Aa ag).1 (Aa ag).2.1 (Aa ag).2.2).mono ?_;rintro e w3 ⟨rfl,aq,ar,af,ai,g3⟩;have a0:=Ab ((Aa ab).next ae am ar g3);have ba:=Ab ((Aa a9).trans (af.wider (VH _) (by omega) G))
          have bo:Hid (Part aq Y N (2*B) (t+1)):=by
           have I:=Aa T;rw[I]at af ai G;exact(Aa Z).step G af ai
          have bk:Hid (F+2*B=(t+1)*(2*B)):=by have:=Aa T;unfold Hid;rw[ZD t (2*B),<-this]
          clear ar af ai g3 ag;go_wp2;go_roundw
          case rel=>exact⟨t+1,F+2*B,aq,bk,G,rfl,by go_num,Aa a0,Aa ba,Aa bo⟩
          case measure=>simp[intOf];omega
        . have ay:¬(F:Int)+2*(B:Int)<=(N:Int):=by omega
          by_cases hm:F+B<N
          . have bv:(F:Int)+(B:Int)<(N:Int):=by omega
            have a6:Hid ((F:Int)+(B:Int)=((F+B:Nat):Int)):=by unfold Hid;omega
            have ag:Hid (Stab.Srt Stab.lx dk F (F+B)/\Stab.Srt Stab.lx dk (F+B) N/\Stab.Cross dk F (F+B) N):=by
             have I:=Aa T;rw[I];rw[I]at G hm;exact On (Aa ax) (Aa bi) (Aa Z).rest hm (by omega) (VB _) (.inl rfl)
            go_wp2_with fail
            rw[Aa a6];refine(Aa bc dk F (F+B) N _ (by omega) (by omega) hm (VB _) (VG ap (Aa ab).grown.size) (VG ae (Aa ab).grown.size) (Aa ab).box (Aa ab).ps (Aa ag).1 (Aa ag).2.1 (Aa ag).2.2).mono ?_;rintro e w3 ⟨rfl,aq,ar,af,ai,g3⟩;have a0:=Ab ((Aa ab).next ae am ar g3);have ba:=Ab ((Aa a9).trans (af.wider (VH _) an (VB _)))
            have au:Hid (Jq aq N (2*B)/\Cuts aq N (2*B)):=by
             have I:=Aa T;rw[I]at af ai;exact(Aa Z).last (by omega) (by omega) af ai
            clear ar af ai g3 ag Z T;go_wp2;go_roundw
            case rel=>exact⟨2*B,aq,by omega,by omega,congrArg (Value.int .i64) (by omega),Aa a0,Aa ba,(Aa au).1,(Aa au).2⟩
            case measure=>simp[intOf];omega
          . have bv:¬(F:Int)+(B:Int)<(N:Int):=by omega
            have au:Hid (Jq dk N (2*B)/\Cuts dk N (2*B)):=by
             have I:=Aa T;rw[I]at G hm an;exact(Aa Z).last an (by omega) (Stab.Moved.refl _ _ _) (MY (Aa ax) (Aa Z).rest (by omega))
            clear Z T;go_wp2;go_roundw
            case rel=>exact⟨2*B,dk,by omega,by omega,congrArg (Value.int .i64) (by omega),Aa ab,Aa a9,(Aa au).1,(Aa au).2⟩
            case measure=>simp[intOf];omega
     . have bm:Hid (Stab.Srt Stab.lx Y 0 N):=by
        have:=Aa ax 0
        rw[YJ,YG (by omega)]at this;exact this
       clear a2;go_wp2;go_end0
       exact⟨rfl,Y,(Aa M).ps,Aa ao,Aa bm,(Aa M).grown⟩
end Go.Proofs.YtleocpdblhbimaaGreatDoor
