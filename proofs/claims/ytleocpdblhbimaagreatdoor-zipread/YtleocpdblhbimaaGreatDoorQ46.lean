import Derived.Test.YtleocpdblhbimaaGreatDoorQ45
import Derived.Test.YtleocpdblhbimaaGreatDoorQ12
set_option linter.unusedSimpArgs false
set_option maxHeartbeats 4000000
namespace Go.Proofs.YtleocpdblhbimaaGreatDoor
open Go.RowKit
set_option linter.unusedVariables false
theorem Iy (h:Value)(hh:Hid (h=typeHandle Tryz.prog 230))(N bp bx cap:Nat)(hN:N<=288)(hne:bx≠bp):∀L,Q0 h N bp bx cap L
 |0=>fun d a m b w hL ham hmb _ _ _ _ _ _ _ _=>by omega
 |L+1=>fun d a m b w hL ham hmb hb hbp hbx hbox hP sL sR hc=>by
  by_cases h1:m=a+1
  . exact A3 h hh N bp bx cap d a m b w (Ab h1) hN hmb hb hbp hbx hne hbox hP sR hc
  . by_cases h2:b=m+1
    . exact Xa h hh N bp bx cap d a m b w (Ab h2) hN (by omega) hmb hb hbp hbx hne hbox hP sL hc
    . by_cases h3:(a+b)/2<m
      . exact Lh h hh N bp bx cap L (Ab (Iy h hh N bp bx cap hN hne L)) d a m b ((a+b)/2) ((a+b)/2+m-b) ((a+b)/2) w hN (by omega) (by omega) (by omega) hb hbp hbx hne (Ab rfl) (Ab (.inl ⟨h3,by omega,rfl⟩)) hbox hP sL sR hc
      . exact Lh h hh N bp bx cap L (Ab (Iy h hh N bp bx cap hN hne L)) d a m b ((a+b)/2) a m w hN (by omega) (by omega) (by omega) hb hbp hbx hne (Ab rfl) (Ab (.inr ⟨by omega,rfl,rfl⟩)) hbox hP sL sR hc
set_option maxRecDepth 100000 in
theorem Md (h:Value)(hh:Hid (h=typeHandle Tryz.prog 230))(N bp bx cap:Nat)(d:Nat->Int×Int)(a b:Nat)(w:World)(hN:N<=288)(hab:a<=b)(hb:b<=N)(hbp:bp<w.heap.size)(hbx:bx<w.heap.size)(hne:bx≠bp)
 (hbox:w.cell? ⟨bx,0,none⟩=some (.slice (some ⟨bp,0,none⟩) N cap)) (hP:PS N bp d w) (hr:RW d a b):
 Calls Tryz.prog 225 #[.agg #[LF bx,SF h N bp cap],.int .i64 a,.int .i64 b] w fun e w'=>e=.returned (.tuple #[])/\∃d',PS N bp d' w'/\Stab.Moved a b d d'/\Stab.Srt Stab.lx d' a b/\w.grownBy w' (some bp):=by
 have S0:Hid (MSt h N bp bx cap w (w.alloc (.cells #[LF bx,SF h N bp cap] 277)) d):=⟨hP.alloc hbp _,Bt (Bp _ _) _,by simp,by simp,by rw[World.cell?_alloc_past _ _ _ hbx];exact hbox,hbp⟩
 have HR:=Ab hr;clear hP hbox hr;go_enter Tryz.func225,Tryz.ntmps225
 go_wp2;go_loopw [6] (fun vi wr=>∃(i:Nat) (di:Nat->Int×Int),a<i/\(i<=b\/ (i=a+1/\di=d))/\vi=.int .i64 i/\MSt h N bp bx cap w wr di/\Stab.Moved a i d di/\Stab.Srt Stab.lx di a i) (fun vi _=>b+2-(intOf vi).toNat)
 case atStart=>exact⟨a+1,d,by omega,.inr ⟨rfl,rfl⟩,by go_num,Aa S0,Stab.Moved.refl _ _ _,fun i j h1 h2 h3=>by omega⟩
 case round=>
  obtain⟨i,di,hai,hib,rfl,hS,hM,hs⟩:=hrel;have HS:=Ab hS;have HM:=Ab hM;have HSr:=Ab hs;have ca:=hS.c0;have cb:=hS.c1
  by_cases hlt:i<b
  . have HCr:Hid (∀k,a<=k->k<i->(di k).2<(di i).2):=fun k h1 h2=>by
     obtain⟨k',e1,e2,e3⟩:=hM.mem h1 h2;rw[hM.out i (by omega),<-e3];exact Aa HR k' i e1 e2 hlt
    clear hib hS hM hs S0;go_wp2;go_loopw [7] (fun vj wr=>∃j:Nat,a<=j/\j<=i/\vj=.int .i64 j/\MSt h N bp bx cap w wr (Stab.rot di j i (i+1))/\(j<i->Stab.lx (di i) (di j))) (fun vj _=>(intOf vj).toNat)
    case atStart=>exact⟨i,by omega,VB _,rfl,by rw[Stab.rot_left];exact Aa HS,fun h=>by omega⟩
    case round=>
     obtain⟨j,haj,hji,rfl,hS,hlo⟩:=hrel;have HS2:=Ab hS;have HLO:=Ab hlo;have ca2:=hS.c0;have cb2:=hS.c1
     have hE:((a<j->Stab.lx (di (j-1)) (di i))->Hid (Stab.Moved a (i+1) d (Stab.rot di j i (i+1))/\Stab.Srt Stab.lx (Stab.rot di j i (i+1)) a (i+1))):=fun hl=>
      Ab ⟨((Aa HM).wider (VB _) (by omega) (by omega)).trans ((Stab.moved_rot di j i (i+1) hji (by omega)).wider haj (by omega) (VB _)),Stab.ins_last haj hji (Aa HSr) hl (Aa HLO)⟩
     clear hS hlo
     by_cases hja:a<j
     . have hjaI:(a:Int)<(j:Int):=by omega
       have E:Hid ((j:Int)-1=((j-1:Nat):Int)):=by unfold Hid;omega
       have eD1:Stab.rot di j i (i+1) j=di i:=by
        unfold Stab.rot;rw[if_pos (by omega)]
        congr 1;omega
       have eD2:Stab.rot di j i (i+1) (j-1)=di (j-1):=by
        unfold Stab.rot;rw[if_neg (by omega),if_neg (by omega)]
       have hx:=Stab.cross_less (Aa HCr (j-1) (by omega) (by omega));have ED1:=Ab eD1;have ED2:=Ab eD2;have HX:=Ab hx;have HRD:=Ab (Stab.rot_down di j i (by omega) hji);have HE:=Ab hE;clear eD1 eD2 hx hE;generalize Stab.rot di j i (i+1)=D at*;go_wp2_with fail
       rw[Aa E];refine(Pe N bp bx cap D _ j (j-1) (by omega) (by omega) hN (Aa HS2).ps (Aa HS2).box).mono ?_;rintro e w2 ⟨rfl,q,rfl⟩;rw[Aa ED1,Aa ED2]
       cases hd:decide ((di i).1<(di (j-1)).1)with
       |true=>
        have HX2:=Ab ((Aa HX).1 hd);have hrun:=Ou N bp cap D (wr.drewN q) j (j-1) (by omega) (by omega) ((Aa HS2).ps.drewN q);rw[<-Aa hh,<-Aa E]at hrun;have HSW:=Ab (PS.sw ((Aa HS2).ps.drewN q) j (j-1) (by omega) (by omega));have HGS:=Ab (Bf (Fa (Bp wr (some bp)) q) (Pi (wr.drewN q) bp D j (j-1)));rw[Aa HRD]at HSW;have HS3:=Ab ((Aa HS2).next hbx hne (Aa HSW) (Aa HGS));clear hd HSW HGS HX HE HRD;generalize swW (wr.drewN q) bp D j (j-1)=w3 at*;go_wp2;go_roundw
        case rel=>exact⟨j-1,by omega,by omega,congrArg (Value.int .i64) (by omega),Aa HS3,fun _=>Aa HX2⟩
        case measure=>simp[intOf];omega
       |false=>
        have HF:=Aa HE (fun _=>(Aa HX).2 hd);have HS3:Hid (MSt h N bp bx cap w (wr.drewN q) D):=(Aa HS2).next hbx hne ((Aa HS2).ps.drewN q) (Fa (Bp _ _) q);clear hd HX HE HRD;go_wp2;go_roundw
        case rel=>exact⟨i+1,D,by omega,.inl (by omega),by go_num,Aa HS3,(Aa HF).1,(Aa HF).2⟩
        case measure=>simp[intOf];omega
     . have hjaI:¬(a:Int)<(j:Int):=by omega
       have HF:=hE (fun h=>by omega);clear hE;generalize Stab.rot di j i (i+1)=D at*;go_wp2;go_roundw
       case rel=>exact⟨i+1,D,by omega,.inl (by omega),by go_num,Aa HS2,(Aa HF).1,(Aa HF).2⟩
       case measure=>simp[intOf];omega
  . have HF:Hid (Stab.Moved a b d di/\Stab.Srt Stab.lx di a b):=by
     rcases hib with h1|⟨h1,h2⟩
     . have e:i=b:=by omega
       rw[<-e];exact⟨hM,hs⟩
     . rw[h2];exact⟨Stab.Moved.refl _ _ _,fun i j h1 h2 h3=>by omega⟩
    clear hib hS hM hs S0;go_wp2;go_end0
    exact⟨rfl,di,(Aa HS).ps,(Aa HF).1,(Aa HF).2,(Aa HS).grown⟩
set_option maxRecDepth 100000 in
theorem EY (h:Value)(hh:Hid (h=typeHandle Tryz.prog 230))(N bp bx cap:Nat)(d:Nat->Int×Int)(w:World)(hN:N<=288)(hbp:bp<w.heap.size)(hbx:bx<w.heap.size)(hne:bx≠bp)
 (hbox:w.cell? ⟨bx,0,none⟩=some (.slice (some ⟨bp,0,none⟩) N cap)) (hP:PS N bp d w) (hr:RW d 0 N):
 Calls Tryz.prog 197 #[.agg #[LF bx,SF h N bp cap],.int .i64 N] w fun e w'=>e=.returned (.tuple #[])/\∃d',PS N bp d' w'/\Stab.Moved 0 N d d'/\Stab.Srt Stab.lx d' 0 N/\w.grownBy w' (some bp):=by
 have S0:Hid (MSt h N bp bx cap w (w.alloc (.cells #[LF bx,SF h N bp cap] 277)) d):=⟨hP.alloc hbp _,Bt (Bp _ _) _,by simp,by simp,by rw[World.cell?_alloc_past _ _ _ hbx];exact hbox,hbp⟩
 have HR:=Ab hr;have HC0:Hid (Part d d N 20 0):=⟨fun s h=>by omega,fun _ _=>rfl,fun s i j hi hj hn=>hr i j (VH _) (by omega) hn⟩
 have HMG:=Ab (Iy h hh N bp bx cap hN hne N);clear hP hbox hr;go_enter Tryz.func197,Tryz.ntmps197
 go_wp2;go_loopw [5,6] (fun va vb wr=>∃(t α:Nat) (dk:Nat->Int×Int),Hid (α=t*20)/\α<=N/\va=.int .i64 α/\vb=.int .i64 ((α:Int)+20)/\MSt h N bp bx cap w wr dk/\Stab.Moved 0 N d dk/\Part dk d N 20 t) (fun va _ _=>N+1-(intOf va).toNat)
 case atStart=>exact⟨0,0,d,Ab rfl,VH _,rfl,rfl,Aa S0,Stab.Moved.refl _ _ _,Aa HC0⟩
 case round=>
  obtain⟨t,α,dk,hα,hαN,rfl,rfl,hS,hM,hPt⟩:=hrel;have HS:=Ab hS;have HM:=Ab hM;have HPt:=Ab hPt;have ca:=hS.c0;have cb:=hS.c1
  have HRi:Hid (∀e,e<=N->RW dk α e):=fun e he i j h1 h2 h3=>by
   rw[Aa hα]at h1;rw[hPt.rest i h1,hPt.rest j (by omega)];exact Aa HR i j (VH _) h2 (by omega)
  clear hS hM hPt S0 HC0
  by_cases hlt:α+20<=N
  . have hltI:(α:Int)+20<=(N:Int):=by omega
    have E:Hid ((α:Int)+20=((α+20:Nat):Int)):=by unfold Hid;omega
    go_wp2_with fail
    rw[Aa E];refine(Md h hh N bp bx cap dk α (α+20) _ hN (by omega) hlt (VG hbp (Aa HS).grown.size) (VG hbx (Aa HS).grown.size) hne (Aa HS).box (Aa HS).ps (Aa HRi (α+20) hlt)).mono ?_;rintro e w2 ⟨rfl,d',p2,m2,s2,g2⟩;have HS2:=Ab ((Aa HS).next hbx hne p2 g2);have HM2:=Ab ((Aa HM).trans (m2.wider (VH _) (by omega) hlt))
    have HP2:Hid (Part d' d N 20 (t+1)):=by
     have ha:=Aa hα;rw[ha]at m2 s2 hlt;exact(Aa HPt).step hlt m2 s2
    have hα2:Hid (α+20=(t+1)*20):=by have:=Aa hα;unfold Hid;omega
    clear p2 m2 s2 g2;go_wp2;go_roundw
    case rel=>exact⟨t+1,α+20,d',hα2,hlt,rfl,by go_num,Aa HS2,Aa HM2,Aa HP2⟩
    case measure=>simp[intOf];omega
  . have hltI:¬(α:Int)+20<=(N:Int):=by omega
    go_wp2_with fail
    refine(Md h hh N bp bx cap dk α N _ hN hαN (VB _) (VG hbp (Aa HS).grown.size) (VG hbx (Aa HS).grown.size) hne (Aa HS).box (Aa HS).ps (Aa HRi N (VB _))).mono ?_;rintro e w2 ⟨rfl,d',p2,m2,s2,g2⟩;have HS2:=Ab ((Aa HS).next hbx hne p2 g2);have HM2:=Ab ((Aa HM).trans (m2.wider (VH _) hαN (VB _)))
    have HB2:Hid (Jq d' N 20/\Cuts d' N 20):=by
     have ha:=Aa hα;rw[ha]at m2 s2;exact(Aa HPt).last (by omega) (by omega) m2 s2
    clear p2 m2 s2 g2 HS HM HPt HRi ca cb hα hαN hlt hltI;go_wp2;go_loopw [4,5,6,7] (fun vB _ _ _ wr=>∃(B:Nat) (dB:Nat->Int×Int),0<B/\B<=1000/\vB=.int .i64 B/\MSt h N bp bx cap w wr dB/\Stab.Moved 0 N d dB/\Jq dB N B/\Cuts dB N B) (fun vB _ _ _ _=>N-(intOf vB).toNat)
    case atStart=>exact⟨20,d',by omega,by omega,rfl,Aa HS2,Aa HM2,(Aa HB2).1,(Aa HB2).2⟩
    case round=>
     obtain⟨B,dB,hB0,hB1,rfl,hS,hM,hbl,hcu⟩:=hrel;have HS:=Ab hS;have HM:=Ab hM;have HBl:=Ab hbl;have HCu:=Ab hcu;have ca:=hS.c0;have cb:=hS.c1;have HP0:Hid (Part dB dB N (2*B) 0):=⟨fun s h=>by omega,fun _ _=>rfl,hcu.double⟩
     clear hS hM hbl hcu HS2 HM2 HB2
     by_cases hBN:B<N
     . go_wp2;go_loopw [5,6] (fun va vb wr=>∃(t α:Nat) (dk:Nat->Int×Int),Hid (α=t*(2*B))/\α<=N/\va=.int .i64 α/\vb=.int .i64 ((α:Int)+2*(B:Int))/\MSt h N bp bx cap w wr dk/\Stab.Moved 0 N d dk/\Part dk dB N (2*B) t) (fun va _ _=>N+1-(intOf va).toNat)
       case atStart=>exact⟨0,0,dB,Ab (YJ _).symm,VH _,rfl,by go_num,Aa HS,Aa HM,Aa HP0⟩
       case round=>
        obtain⟨t,α,dk,hα,hαN,rfl,rfl,hS,hM,hPt⟩:=hrel;have HS1:=Ab hS;have HM1:=Ab hM;have HPt:=Ab hPt;have ca1:=hS.c0;have cb1:=hS.c1;clear hS hM hPt HP0
        by_cases hlt:α+2*B<=N
        . have hltI:(α:Int)+2*(B:Int)<=(N:Int):=by omega
          have E:Hid ((α:Int)+2*(B:Int)=((α+2*B:Nat):Int)):=by unfold Hid;omega
          have E2:Hid ((α:Int)+(B:Int)=((α+B:Nat):Int)):=by unfold Hid;omega
          have HRu:Hid (Stab.Srt Stab.lx dk α (α+B)/\Stab.Srt Stab.lx dk (α+B) (α+2*B)/\Stab.Cross dk α (α+B) (α+2*B)):=by
           have ha:=Aa hα;rw[ha];rw[ha]at hlt;exact On (Aa HBl) (Aa HCu) (Aa HPt).rest (by omega) (VB _) hlt (.inr rfl)
          go_wp2_with fail
          rw[Aa E,Aa E2];refine(Aa HMG dk α (α+B) (α+2*B) _ (by omega) (by omega) (by omega) hlt (VG hbp (Aa HS1).grown.size) (VG hbx (Aa HS1).grown.size) (Aa HS1).box (Aa HS1).ps (Aa HRu).1 (Aa HRu).2.1 (Aa HRu).2.2).mono ?_;rintro e w3 ⟨rfl,d3,p3,m3,s3,g3⟩;have HS3:=Ab ((Aa HS1).next hbx hne p3 g3);have HM3:=Ab ((Aa HM1).trans (m3.wider (VH _) (by omega) hlt))
          have HP3:Hid (Part d3 dB N (2*B) (t+1)):=by
           have ha:=Aa hα;rw[ha]at m3 s3 hlt;exact(Aa HPt).step hlt m3 s3
          have hα3:Hid (α+2*B=(t+1)*(2*B)):=by have:=Aa hα;unfold Hid;rw[ZD t (2*B),<-this]
          clear p3 m3 s3 g3 HRu;go_wp2;go_roundw
          case rel=>exact⟨t+1,α+2*B,d3,hα3,hlt,rfl,by go_num,Aa HS3,Aa HM3,Aa HP3⟩
          case measure=>simp[intOf];omega
        . have hltI:¬(α:Int)+2*(B:Int)<=(N:Int):=by omega
          by_cases hm:α+B<N
          . have hmI:(α:Int)+(B:Int)<(N:Int):=by omega
            have E2:Hid ((α:Int)+(B:Int)=((α+B:Nat):Int)):=by unfold Hid;omega
            have HRu:Hid (Stab.Srt Stab.lx dk α (α+B)/\Stab.Srt Stab.lx dk (α+B) N/\Stab.Cross dk α (α+B) N):=by
             have ha:=Aa hα;rw[ha];rw[ha]at hlt hm;exact On (Aa HBl) (Aa HCu) (Aa HPt).rest hm (by omega) (VB _) (.inl rfl)
            go_wp2_with fail
            rw[Aa E2];refine(Aa HMG dk α (α+B) N _ (by omega) (by omega) hm (VB _) (VG hbp (Aa HS1).grown.size) (VG hbx (Aa HS1).grown.size) (Aa HS1).box (Aa HS1).ps (Aa HRu).1 (Aa HRu).2.1 (Aa HRu).2.2).mono ?_;rintro e w3 ⟨rfl,d3,p3,m3,s3,g3⟩;have HS3:=Ab ((Aa HS1).next hbx hne p3 g3);have HM3:=Ab ((Aa HM1).trans (m3.wider (VH _) hαN (VB _)))
            have HB3:Hid (Jq d3 N (2*B)/\Cuts d3 N (2*B)):=by
             have ha:=Aa hα;rw[ha]at m3 s3;exact(Aa HPt).last (by omega) (by omega) m3 s3
            clear p3 m3 s3 g3 HRu HPt hα;go_wp2;go_roundw
            case rel=>exact⟨2*B,d3,by omega,by omega,congrArg (Value.int .i64) (by omega),Aa HS3,Aa HM3,(Aa HB3).1,(Aa HB3).2⟩
            case measure=>simp[intOf];omega
          . have hmI:¬(α:Int)+(B:Int)<(N:Int):=by omega
            have HB3:Hid (Jq dk N (2*B)/\Cuts dk N (2*B)):=by
             have ha:=Aa hα;rw[ha]at hlt hm hαN;exact(Aa HPt).last hαN (by omega) (Stab.Moved.refl _ _ _) (MY (Aa HBl) (Aa HPt).rest (by omega))
            clear HPt hα;go_wp2;go_roundw
            case rel=>exact⟨2*B,dk,by omega,by omega,congrArg (Value.int .i64) (by omega),Aa HS1,Aa HM1,(Aa HB3).1,(Aa HB3).2⟩
            case measure=>simp[intOf];omega
     . have HF:Hid (Stab.Srt Stab.lx dB 0 N):=by
        have:=Aa HBl 0
        rw[YJ,YG (by omega)]at this;exact this
       clear HP0;go_wp2;go_end0
       exact⟨rfl,dB,(Aa HS).ps,Aa HM,Aa HF,(Aa HS).grown⟩
end Go.Proofs.YtleocpdblhbimaaGreatDoor
