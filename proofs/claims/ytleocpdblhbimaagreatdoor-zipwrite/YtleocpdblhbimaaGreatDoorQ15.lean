import Derived.Test.YtleocpdblhbimaaGreatDoorQ14
import Derived.Laws.Externs
import Derived.BigCall
import Derived.BigGuard
set_option linter.unusedSimpArgs false
set_option maxHeartbeats 4000000
namespace Go.Proofs.YtleocpdblhbimaaGreatDoor
open Go.RowKit
set_option linter.unusedVariables false
theorem Ik (h:Value)(hh:Hid (h=typeHandle Tryz.prog 230))(N bp bx cap:Nat)(hN:N<=288)(hne:bx≠bp):∀L,I4 h N bp bx cap L
 |0=>fun d a m b w hL ham hmb _ _ _ _ _ _ _ _=>by omega
 |L+1=>fun d a m b w hL ham hmb hb hbp hbx hbox hP sL sR hc=>by
  by_cases h1:m=a+1
  . exact Yl h hh N bp bx cap d a m b w (Ab h1) hN hmb hb hbp hbx hne hbox hP sR hc
  . by_cases h2:b=m+1
    . exact Vq h hh N bp bx cap d a m b w (Ab h2) hN (by omega) hmb hb hbp hbx hne hbox hP sL hc
    . by_cases h3:(a+b)/2<m
      . exact Kz h hh N bp bx cap L (Ab (Ik h hh N bp bx cap hN hne L)) d a m b ((a+b)/2) ((a+b)/2+m-b) ((a+b)/2) w hN (by omega) (by omega) (by omega) hb hbp hbx hne (Ab rfl) (Ab (.inl ⟨h3,by omega,rfl⟩)) hbox hP sL sR hc
      . exact Kz h hh N bp bx cap L (Ab (Ik h hh N bp bx cap hN hne L)) d a m b ((a+b)/2) a m w hN (by omega) (by omega) (by omega) hb hbp hbx hne (Ab rfl) (Ab (.inr ⟨by omega,rfl,rfl⟩)) hbox hP sL sR hc
set_option maxRecDepth 100000 in
theorem Lt (h:Value)(hh:Hid (h=typeHandle Tryz.prog 230))(N bp bx cap:Nat)(d:Nat->Int×Int)(a b:Nat)(w:World)(hN:N<=288)(hab:a<=b)(hb:b<=N)(hbp:bp<w.heap.size)(hbx:bx<w.heap.size)(hne:bx≠bp)
 (hbox:w.cell? ⟨bx,0,none⟩=some (.slice (some ⟨bp,0,none⟩) N cap)) (hP:PS N bp d w) (hr:NR d a b):
 Calls Tryz.prog 225 #[.agg #[LF bx,SF h N bp cap],.int .i64 a,.int .i64 b] w fun e w'=>e=.returned (.tuple #[])/\∃d',PS N bp d' w'/\Stab.Moved a b d d'/\Stab.Srt Stab.lx d' a b/\w.grownBy w' (some bp):=by
 have S0:Hid (MSt h N bp bx cap w (w.alloc (.cells #[LF bx,SF h N bp cap] 277)) d):=⟨hP.alloc hbp _,Bk (Bi _ _) _,by simp,by simp,by rw[World.cell?_alloc_past _ _ _ hbx];exact hbox,hbp⟩
 have HR:=Ab hr;clear hP hbox hr;go_enter Tryz.func225,Tryz.ntmps225
 go_wp2;go_loopw [6] (fun vi wr=>∃(i:Nat) (di:Nat->Int×Int),a<i/\(i<=b\/ (i=a+1/\di=d))/\vi=.int .i64 i/\MSt h N bp bx cap w wr di/\Stab.Moved a i d di/\Stab.Srt Stab.lx di a i) (fun vi _=>b+2-(intOf vi).toNat)
 case atStart=>exact⟨a+1,d,by omega,.inr ⟨rfl,rfl⟩,by go_num,Aa S0,Stab.Moved.refl _ _ _,fun i j h1 h2 h3=>by omega⟩
 case round=>
  obtain⟨i,di,hai,hib,rfl,hS,hM,hs⟩:=hrel;have HS:=Ab hS;have HM:=Ab hM;have HSr:=Ab hs;have ca:=hS.c0;have cb:=hS.c1
  by_cases hlt:i<b
  . have HCr:Hid (∀k,a<=k->k<i->(di k).2<(di i).2):=fun k h1 h2=>by
     obtain⟨k',e1,e2,e3⟩:=hM.mem h1 h2;rw[hM.out i (by omega),<-e3];exact Aa HR k' i e1 e2 hlt
    clear hib hS hM hs S0;go_wp2;go_loopw [7] (fun vj wr=>∃j:Nat,a<=j/\j<=i/\vj=.int .i64 j/\MSt h N bp bx cap w wr (Stab.rot di j i (i+1))/\(j<i->Stab.lx (di i) (di j))) (fun vj _=>(intOf vj).toNat)
    case atStart=>exact⟨i,by omega,VC _,rfl,by rw[Stab.rot_left];exact Aa HS,fun h=>by omega⟩
    case round=>
     obtain⟨j,haj,hji,rfl,hS,hlo⟩:=hrel;have HS2:=Ab hS;have HLO:=Ab hlo;have ca2:=hS.c0;have cb2:=hS.c1
     have hE:((a<j->Stab.lx (di (j-1)) (di i))->Hid (Stab.Moved a (i+1) d (Stab.rot di j i (i+1))/\Stab.Srt Stab.lx (Stab.rot di j i (i+1)) a (i+1))):=fun hl=>
      Ab ⟨((Aa HM).wider (VC _) (by omega) (by omega)).trans ((Stab.moved_rot di j i (i+1) hji (by omega)).wider haj (by omega) (VC _)),Stab.ins_last haj hji (Aa HSr) hl (Aa HLO)⟩
     clear hS hlo
     by_cases hja:a<j
     . have hjaI:(a:Int)<(j:Int):=by omega
       have E:Hid ((j:Int)-1=((j-1:Nat):Int)):=by unfold Hid;omega
       have eD1:Stab.rot di j i (i+1) j=di i:=by
        unfold Stab.rot;rw[if_pos (by omega)]
        congr 1;omega
       have eD2:Stab.rot di j i (i+1) (j-1)=di (j-1):=by
        unfold Stab.rot;rw[if_neg (by omega),if_neg (by omega)]
       have hx:=Stab.cross_less (Aa HCr (j-1) (by omega) (by omega));have ED1:=Ab eD1;have ED2:=Ab eD2;have HX:=Ab hx;have HRD:=Ab (Stab.rot_down di j i (by omega) hji);have HE:=Ab hE;clear eD1 eD2 hx hE;generalize Stab.rot di j i (i+1)=D at*;go_wp2_with fail
       rw[Aa E];refine(Pc N bp bx cap D _ j (j-1) (by omega) (by omega) hN (Aa HS2).ps (Aa HS2).box).mono ?_;rintro e w2 ⟨rfl,q,rfl⟩;rw[Aa ED1,Aa ED2]
       cases hd:decide ((di i).1<(di (j-1)).1)with
       |true=>
        have HX2:=Ab ((Aa HX).1 hd);have hrun:=Oo N bp cap D (wr.drewN q) j (j-1) (by omega) (by omega) ((Aa HS2).ps.drewN q);rw[<-Aa hh,<-Aa E]at hrun;have HSW:=Ab (PS.sw ((Aa HS2).ps.drewN q) j (j-1) (by omega) (by omega));have HGS:=Ab (Bc (Ep (Bi wr (some bp)) q) (Pg (wr.drewN q) bp D j (j-1)));rw[Aa HRD]at HSW;have HS3:=Ab ((Aa HS2).next hbx hne (Aa HSW) (Aa HGS));clear hd HSW HGS HX HE HRD;generalize swW (wr.drewN q) bp D j (j-1)=w3 at*;go_wp2;go_roundw
        case rel=>exact⟨j-1,by omega,by omega,congrArg (Value.int .i64) (by omega),Aa HS3,fun _=>Aa HX2⟩
        case measure=>simp[intOf];omega
       |false=>
        have HF:=Aa HE (fun _=>(Aa HX).2 hd);have HS3:Hid (MSt h N bp bx cap w (wr.drewN q) D):=(Aa HS2).next hbx hne ((Aa HS2).ps.drewN q) (Ep (Bi _ _) q);clear hd HX HE HRD;go_wp2;go_roundw
        case rel=>exact⟨i+1,D,by omega,.inl (by omega),by go_num,Aa HS3,(Aa HF).1,(Aa HF).2⟩
        case measure=>simp[intOf];omega
     . have hjaI:¬(a:Int)<(j:Int):=by omega
       have HF:=hE (fun h=>by omega);clear hE;generalize Stab.rot di j i (i+1)=D at*;go_wp2;go_roundw
       case rel=>exact⟨i+1,D,by omega,.inl (by omega),by go_num,Aa HS2,(Aa HF).1,(Aa HF).2⟩
       case measure=>simp[intOf];omega
  . have HF:Hid (Stab.Moved a b d di/\Stab.Srt Stab.lx di a b):=by
     rcases hib with h1|⟨h1,h2⟩
     . have e:i=b:=by omega
       rw[<-e];exact⟨hM,hs⟩
     . rw[h2];exact⟨Stab.Moved.refl _ _ _,fun i j h1 h2 h3=>by omega⟩
    clear hib hS hM hs S0;go_wp2;go_end0
    exact⟨rfl,di,(Aa HS).ps,(Aa HF).1,(Aa HF).2,(Aa HS).grown⟩
set_option maxRecDepth 100000 in
theorem BZ (h:Value)(hh:Hid (h=typeHandle Tryz.prog 230))(N bp bx cap:Nat)(d:Nat->Int×Int)(w:World)(hN:N<=288)(hbp:bp<w.heap.size)(hbx:bx<w.heap.size)(hne:bx≠bp)
 (hbox:w.cell? ⟨bx,0,none⟩=some (.slice (some ⟨bp,0,none⟩) N cap)) (hP:PS N bp d w) (hr:NR d 0 N):
 Calls Tryz.prog 197 #[.agg #[LF bx,SF h N bp cap],.int .i64 N] w fun e w'=>e=.returned (.tuple #[])/\∃d',PS N bp d' w'/\Stab.Moved 0 N d d'/\Stab.Srt Stab.lx d' 0 N/\w.grownBy w' (some bp):=by
 have S0:Hid (MSt h N bp bx cap w (w.alloc (.cells #[LF bx,SF h N bp cap] 277)) d):=⟨hP.alloc hbp _,Bk (Bi _ _) _,by simp,by simp,by rw[World.cell?_alloc_past _ _ _ hbx];exact hbox,hbp⟩
 have HR:=Ab hr;have HC0:Hid (Part d d N 20 0):=⟨fun s h=>by omega,fun _ _=>rfl,fun s i j hi hj hn=>hr i j (VK _) (by omega) hn⟩
 have HMG:=Ab (Ik h hh N bp bx cap hN hne N);clear hP hbox hr;go_enter Tryz.func197,Tryz.ntmps197
 go_wp2;go_loopw [5,6] (fun va vb wr=>∃(t α:Nat) (dk:Nat->Int×Int),Hid (α=t*20)/\α<=N/\va=.int .i64 α/\vb=.int .i64 ((α:Int)+20)/\MSt h N bp bx cap w wr dk/\Stab.Moved 0 N d dk/\Part dk d N 20 t) (fun va _ _=>N+1-(intOf va).toNat)
 case atStart=>exact⟨0,0,d,Ab rfl,VK _,rfl,rfl,Aa S0,Stab.Moved.refl _ _ _,Aa HC0⟩
 case round=>
  obtain⟨t,α,dk,hα,hαN,rfl,rfl,hS,hM,hPt⟩:=hrel;have HS:=Ab hS;have HM:=Ab hM;have HPt:=Ab hPt;have ca:=hS.c0;have cb:=hS.c1
  have HRi:Hid (∀e,e<=N->NR dk α e):=fun e he i j h1 h2 h3=>by
   rw[Aa hα]at h1;rw[hPt.rest i h1,hPt.rest j (by omega)];exact Aa HR i j (VK _) h2 (by omega)
  clear hS hM hPt S0 HC0
  by_cases hlt:α+20<=N
  . have hltI:(α:Int)+20<=(N:Int):=by omega
    have E:Hid ((α:Int)+20=((α+20:Nat):Int)):=by unfold Hid;omega
    go_wp2_with fail
    rw[Aa E];refine(Lt h hh N bp bx cap dk α (α+20) _ hN (by omega) hlt (VG hbp (Aa HS).grown.size) (VG hbx (Aa HS).grown.size) hne (Aa HS).box (Aa HS).ps (Aa HRi (α+20) hlt)).mono ?_;rintro e w2 ⟨rfl,d',p2,m2,s2,g2⟩;have HS2:=Ab ((Aa HS).next hbx hne p2 g2);have HM2:=Ab ((Aa HM).trans (m2.wider (VK _) (by omega) hlt))
    have HP2:Hid (Part d' d N 20 (t+1)):=by
     have ha:=Aa hα;rw[ha]at m2 s2 hlt;exact(Aa HPt).step hlt m2 s2
    have hα2:Hid (α+20=(t+1)*20):=by have:=Aa hα;unfold Hid;omega
    clear p2 m2 s2 g2;go_wp2;go_roundw
    case rel=>exact⟨t+1,α+20,d',hα2,hlt,rfl,by go_num,Aa HS2,Aa HM2,Aa HP2⟩
    case measure=>simp[intOf];omega
  . have hltI:¬(α:Int)+20<=(N:Int):=by omega
    go_wp2_with fail
    refine(Lt h hh N bp bx cap dk α N _ hN hαN (VC _) (VG hbp (Aa HS).grown.size) (VG hbx (Aa HS).grown.size) hne (Aa HS).box (Aa HS).ps (Aa HRi N (VC _))).mono ?_;rintro e w2 ⟨rfl,d',p2,m2,s2,g2⟩;have HS2:=Ab ((Aa HS).next hbx hne p2 g2);have HM2:=Ab ((Aa HM).trans (m2.wider (VK _) hαN (VC _)))
    have HB2:Hid (Jh d' N 20/\Cuts d' N 20):=by
     have ha:=Aa hα;rw[ha]at m2 s2;exact(Aa HPt).last (by omega) (by omega) m2 s2
    clear p2 m2 s2 g2 HS HM HPt HRi ca cb hα hαN hlt hltI;go_wp2;go_loopw [4,5,6,7] (fun vB _ _ _ wr=>∃(B:Nat) (dB:Nat->Int×Int),0<B/\B<=1000/\vB=.int .i64 B/\MSt h N bp bx cap w wr dB/\Stab.Moved 0 N d dB/\Jh dB N B/\Cuts dB N B) (fun vB _ _ _ _=>N-(intOf vB).toNat)
    case atStart=>exact⟨20,d',by omega,by omega,rfl,Aa HS2,Aa HM2,(Aa HB2).1,(Aa HB2).2⟩
    case round=>
     obtain⟨B,dB,hB0,hB1,rfl,hS,hM,hbl,hcu⟩:=hrel;have HS:=Ab hS;have HM:=Ab hM;have HBl:=Ab hbl;have HCu:=Ab hcu;have ca:=hS.c0;have cb:=hS.c1;have HP0:Hid (Part dB dB N (2*B) 0):=⟨fun s h=>by omega,fun _ _=>rfl,hcu.double⟩
     clear hS hM hbl hcu HS2 HM2 HB2
     by_cases hBN:B<N
     . go_wp2;go_loopw [5,6] (fun va vb wr=>∃(t α:Nat) (dk:Nat->Int×Int),Hid (α=t*(2*B))/\α<=N/\va=.int .i64 α/\vb=.int .i64 ((α:Int)+2*(B:Int))/\MSt h N bp bx cap w wr dk/\Stab.Moved 0 N d dk/\Part dk dB N (2*B) t) (fun va _ _=>N+1-(intOf va).toNat)
       case atStart=>exact⟨0,0,dB,Ab (YI _).symm,VK _,rfl,by go_num,Aa HS,Aa HM,Aa HP0⟩
       case round=>
        obtain⟨t,α,dk,hα,hαN,rfl,rfl,hS,hM,hPt⟩:=hrel;have HS1:=Ab hS;have HM1:=Ab hM;have HPt:=Ab hPt;have ca1:=hS.c0;have cb1:=hS.c1;clear hS hM hPt HP0
        by_cases hlt:α+2*B<=N
        . have hltI:(α:Int)+2*(B:Int)<=(N:Int):=by omega
          have E:Hid ((α:Int)+2*(B:Int)=((α+2*B:Nat):Int)):=by unfold Hid;omega
          have E2:Hid ((α:Int)+(B:Int)=((α+B:Nat):Int)):=by unfold Hid;omega
          have HRu:Hid (Stab.Srt Stab.lx dk α (α+B)/\Stab.Srt Stab.lx dk (α+B) (α+2*B)/\Stab.Cross dk α (α+B) (α+2*B)):=by
           have ha:=Aa hα;rw[ha];rw[ha]at hlt;exact Ok (Aa HBl) (Aa HCu) (Aa HPt).rest (by omega) (VC _) hlt (.inr rfl)
          go_wp2_with fail
          rw[Aa E,Aa E2];refine(Aa HMG dk α (α+B) (α+2*B) _ (by omega) (by omega) (by omega) hlt (VG hbp (Aa HS1).grown.size) (VG hbx (Aa HS1).grown.size) (Aa HS1).box (Aa HS1).ps (Aa HRu).1 (Aa HRu).2.1 (Aa HRu).2.2).mono ?_;rintro e w3 ⟨rfl,d3,p3,m3,s3,g3⟩;have HS3:=Ab ((Aa HS1).next hbx hne p3 g3);have HM3:=Ab ((Aa HM1).trans (m3.wider (VK _) (by omega) hlt))
          have HP3:Hid (Part d3 dB N (2*B) (t+1)):=by
           have ha:=Aa hα;rw[ha]at m3 s3 hlt;exact(Aa HPt).step hlt m3 s3
          have hα3:Hid (α+2*B=(t+1)*(2*B)):=by have:=Aa hα;unfold Hid;rw[ZE t (2*B),<-this]
          clear p3 m3 s3 g3 HRu;go_wp2;go_roundw
          case rel=>exact⟨t+1,α+2*B,d3,hα3,hlt,rfl,by go_num,Aa HS3,Aa HM3,Aa HP3⟩
          case measure=>simp[intOf];omega
        . have hltI:¬(α:Int)+2*(B:Int)<=(N:Int):=by omega
          by_cases hm:α+B<N
          . have hmI:(α:Int)+(B:Int)<(N:Int):=by omega
            have E2:Hid ((α:Int)+(B:Int)=((α+B:Nat):Int)):=by unfold Hid;omega
            have HRu:Hid (Stab.Srt Stab.lx dk α (α+B)/\Stab.Srt Stab.lx dk (α+B) N/\Stab.Cross dk α (α+B) N):=by
             have ha:=Aa hα;rw[ha];rw[ha]at hlt hm;exact Ok (Aa HBl) (Aa HCu) (Aa HPt).rest hm (by omega) (VC _) (.inl rfl)
            go_wp2_with fail
            rw[Aa E2];refine(Aa HMG dk α (α+B) N _ (by omega) (by omega) hm (VC _) (VG hbp (Aa HS1).grown.size) (VG hbx (Aa HS1).grown.size) (Aa HS1).box (Aa HS1).ps (Aa HRu).1 (Aa HRu).2.1 (Aa HRu).2.2).mono ?_;rintro e w3 ⟨rfl,d3,p3,m3,s3,g3⟩;have HS3:=Ab ((Aa HS1).next hbx hne p3 g3);have HM3:=Ab ((Aa HM1).trans (m3.wider (VK _) hαN (VC _)))
            have HB3:Hid (Jh d3 N (2*B)/\Cuts d3 N (2*B)):=by
             have ha:=Aa hα;rw[ha]at m3 s3;exact(Aa HPt).last (by omega) (by omega) m3 s3
            clear p3 m3 s3 g3 HRu HPt hα;go_wp2;go_roundw
            case rel=>exact⟨2*B,d3,by omega,by omega,congrArg (Value.int .i64) (by omega),Aa HS3,Aa HM3,(Aa HB3).1,(Aa HB3).2⟩
            case measure=>simp[intOf];omega
          . have hmI:¬(α:Int)+(B:Int)<(N:Int):=by omega
            have HB3:Hid (Jh dk N (2*B)/\Cuts dk N (2*B)):=by
             have ha:=Aa hα;rw[ha]at hlt hm hαN;exact(Aa HPt).last hαN (by omega) (Stab.Moved.refl _ _ _) (JF (Aa HBl) (Aa HPt).rest (by omega))
            clear HPt hα;go_wp2;go_roundw
            case rel=>exact⟨2*B,dk,by omega,by omega,congrArg (Value.int .i64) (by omega),Aa HS1,Aa HM1,(Aa HB3).1,(Aa HB3).2⟩
            case measure=>simp[intOf];omega
     . have HF:Hid (Stab.Srt Stab.lx dB 0 N):=by
        have:=Aa HBl 0
        rw[YI,YG (by omega)]at this;exact this
       clear HP0;go_wp2;go_end0
       exact⟨rfl,dB,(Aa HS).ps,Aa HM,Aa HF,(Aa HS).grown⟩
end Go.Proofs.YtleocpdblhbimaaGreatDoor
namespace Go.Proofs.YtleocpdblhbimaaGreatDoor
open Go.RowKit Go.Lib
set_option linter.unusedVariables false
theorem Z3z:(Tryz.prog.info? 228).map (·.desc)=some (.slice 230):=by kernel_rfl
theorem Z40:(Tryz.prog.info? 230).map (fun i=>(i.hasPointers,i.bytes))=some (false,16):=by kernel_rfl
theorem Z3w (w:World):(Extern.Rtype.kind 230).run Tryz.prog w=.ok 25 w:=by kernel_rfl
theorem Z3g:Tryz.prog.packed 228=false:=by kernel_rfl
def stW (G:Nat)(p:Option Addr)(n c:Nat)(w:World):World:=
 (w.alloc (.cells #[.slice p n c] 228)).alloc (.cells #[.pointer (some ⟨G,228,none⟩),.pointer (some ⟨w.heap.size,0,none⟩),.int .u64 151] 272)
set_option maxRecDepth 100000 in
theorem Gj (G:Nat)(hH: .pointer (some ⟨G,228,none⟩)=typeHandle Tryz.prog 228)(ie:TypeInfo)(hie:Tryz.prog.info? 230=some ie)(p:Option Addr)(n c f:Nat)(hf:Tryz.prog.funcs.findIdx? (·.name== "internal/reflectlite" ++ ".Swapper$" ++toString (swapperK n ie 25))=some f)(B:Array Value)(hB:B=if swapperK n ie 25<=2 then #[]else #[.slice p n c,typeHandle Tryz.prog 230])
 (lf:Fn) (la lb:Array Value) (w:World) (R:World->Prop) (hp:Hid (Calls Tryz.prog 197 #[.agg #[.func lf la lb,.func (.func f) #[] B],.int .i64 n] (stW G p n c w) fun e w'=>e=.returned (.tuple #[])/\R w')):
 Calls Tryz.prog 162 #[.iface 228 (.slice p n c),.func lf la lb] w fun e w'=>e=.returned (.tuple #[])/\R w':=by
 obtain⟨i,hi,hd⟩:=XG.1 Z3z;have hv:=run_valueOf_slice (P:=Tryz.prog) 228 230 i hi hd p n c w;have hs:=fun w=>run_swapper_slice (P:=Tryz.prog) 228 230 i ie hi hd hie 25 Z3w p n c f hf w
 have hl:=fun a w ha=>run_valueLen_slice (P:=Tryz.prog) 228 230 i hi hd Z3g a p n c w ha
 rw[<-hB]at hs;rw[<-hH]at hv hl;have HV:=Ab hv;have HSw:=Ab hs;have HLn:=Ab hl;clear hB hi hd hie hf hv hs hl hH;go_enter Tryz.func162,Tryz.ntmps162
 go_wp2
 rw[run_callFunc_extern Tryz.func195 (by kernel_rfl) (by kernel_rfl) (by kernel_rfl) (e:=fun args=>Extern.ReflectliteValue.unpack (args.getD 0 (.tuple #[]))) (by kernel_rfl),
  show Sem.run Tryz.prog ((fun args:Array Value=>Extern.ReflectliteValue.unpack (args.getD 0 (.tuple #[]))) #[.iface 228 (.slice p n c)]) w=_ from Aa HV]
 simp only[Result.andThen];rw[Oper.upon_value];go_wp2;rw[run_callFunc_extern Tryz.func196 (by kernel_rfl) (by kernel_rfl) (by kernel_rfl) (e:=Extern.ReflectliteSwapper.swapper "internal/reflectlite" (Extern.ReflectliteValue.valueError "Swapper")) (by kernel_rfl),Aa HSw];simp only[Result.andThen];rw[Oper.upon_value];go_wp2
 rw[run_callFunc_extern Tryz.func198 (by kernel_rfl) (by kernel_rfl) (by kernel_rfl) (e:=Extern.ReflectliteValue.method (Extern.ReflectliteValue.valueError "reflectlite.Value.Len" 0) Extern.ReflectliteValue.len) (by kernel_rfl),
  Aa HLn _ _ (by simp)]
 simp only[Result.andThen];rw[Oper.upon_value];go_wp2_with (go_at_call 197;refine(Aa hp).mono ?_;rintro e w' ⟨rfl,hR⟩)
 go_end0
 exact⟨rfl,hR⟩
end Go.Proofs.YtleocpdblhbimaaGreatDoor
namespace Go.Proofs.YtleocpdblhbimaaGreatDoor
open Go.RowKit
set_option linter.unusedVariables false
set_option maxRecDepth 100000
theorem Z66 (s:ByteArray):(s.extract 0 1).toList=s.data.toList.take 1:=by
 rw[Lib.toList_data];simp[List.extract_eq_take_drop]
theorem Dw (s:ByteArray)(b:Bool)(w:World)(hs:1<=s.size)(hb:(s.data.toList.take 1== [48])=b):Calls Tryz.prog 200 #[.string s,.string ⟨#[48]⟩] w fun e w'=>e=.returned (.bool b)/\w'=w:=by
 have h1:(⟨#[48]⟩:ByteArray).size=1:=rfl;have hh:(1:Int)<=(s.size:Int):=by omega
 have HB:Hid (((s.extract 0 1).toList== [48])=b):=by rw[Z66];exact hb
 clear hb;go_enter Tryz.func200,Tryz.ntmps200
 go_wp2;go_ret;exact⟨De (Aa HB),rfl⟩
theorem Z61 (w:World):Calls Tryz.prog 160 #[.int .u64 1,.int .u64 2] w fun e w'=>e=.returned (.tuple #[.int .u64 0,.int .u64 2])/\w'=w:=by
 go_enter Tryz.func160,Tryz.ntmps160
 go_wp2
 all_goals (go_ret2;exact⟨by rfl,rfl⟩)
theorem Z5q (w:World):Calls Tryz.prog 165 #[.string ⟨#[48]⟩,.int .i64 2] w fun e w'=>e=.returned (.string (text (List.replicate 2 false)))/\w'=w:=by
 go_enter Tryz.func165,Tryz.ntmps165
 go_wp2_with (first|(go_at_call 160;refine(Z61 _).mono ?_;rintro e w' ⟨rfl,rfl⟩)|(go_at_call 200;refine(Dw _ false _ (by decide) (by decide)).mono ?_;rintro e w' ⟨rfl,rfl⟩)|(go_at_call 200;refine(Dw _ true _ (by decide) (by decide)).mono ?_;rintro e w' ⟨rfl,rfl⟩))
 go_ret;exact⟨rfl,rfl⟩
theorem Z60 (w:World):Calls Tryz.prog 160 #[.int .u64 1,.int .u64 3] w fun e w'=>e=.returned (.tuple #[.int .u64 0,.int .u64 3])/\w'=w:=by
 go_enter Tryz.func160,Tryz.ntmps160
 go_wp2
 all_goals (go_ret2;exact⟨by rfl,rfl⟩)
theorem Z5p (w:World):Calls Tryz.prog 165 #[.string ⟨#[48]⟩,.int .i64 3] w fun e w'=>e=.returned (.string (text (List.replicate 3 false)))/\w'=w:=by
 go_enter Tryz.func165,Tryz.ntmps165
 go_wp2_with (first|(go_at_call 160;refine(Z60 _).mono ?_;rintro e w' ⟨rfl,rfl⟩)|(go_at_call 200;refine(Dw _ false _ (by decide) (by decide)).mono ?_;rintro e w' ⟨rfl,rfl⟩)|(go_at_call 200;refine(Dw _ true _ (by decide) (by decide)).mono ?_;rintro e w' ⟨rfl,rfl⟩))
 go_ret;exact⟨rfl,rfl⟩
theorem Z5z (w:World):Calls Tryz.prog 160 #[.int .u64 1,.int .u64 4] w fun e w'=>e=.returned (.tuple #[.int .u64 0,.int .u64 4])/\w'=w:=by
 go_enter Tryz.func160,Tryz.ntmps160
 go_wp2
 all_goals (go_ret2;exact⟨by rfl,rfl⟩)
theorem Z5o (w:World):Calls Tryz.prog 165 #[.string ⟨#[48]⟩,.int .i64 4] w fun e w'=>e=.returned (.string (text (List.replicate 4 false)))/\w'=w:=by
 go_enter Tryz.func165,Tryz.ntmps165
 go_wp2_with (first|(go_at_call 160;refine(Z5z _).mono ?_;rintro e w' ⟨rfl,rfl⟩)|(go_at_call 200;refine(Dw _ false _ (by decide) (by decide)).mono ?_;rintro e w' ⟨rfl,rfl⟩)|(go_at_call 200;refine(Dw _ true _ (by decide) (by decide)).mono ?_;rintro e w' ⟨rfl,rfl⟩))
 go_ret;exact⟨rfl,rfl⟩
theorem Z5y (w:World):Calls Tryz.prog 160 #[.int .u64 1,.int .u64 5] w fun e w'=>e=.returned (.tuple #[.int .u64 0,.int .u64 5])/\w'=w:=by
 go_enter Tryz.func160,Tryz.ntmps160
 go_wp2
 all_goals (go_ret2;exact⟨by rfl,rfl⟩)
theorem Z5n (w:World):Calls Tryz.prog 165 #[.string ⟨#[48]⟩,.int .i64 5] w fun e w'=>e=.returned (.string (text (List.replicate 5 false)))/\w'=w:=by
 go_enter Tryz.func165,Tryz.ntmps165
 go_wp2_with (first|(go_at_call 160;refine(Z5y _).mono ?_;rintro e w' ⟨rfl,rfl⟩)|(go_at_call 200;refine(Dw _ false _ (by decide) (by decide)).mono ?_;rintro e w' ⟨rfl,rfl⟩)|(go_at_call 200;refine(Dw _ true _ (by decide) (by decide)).mono ?_;rintro e w' ⟨rfl,rfl⟩))
 go_ret;exact⟨rfl,rfl⟩
theorem Z5x (w:World):Calls Tryz.prog 160 #[.int .u64 1,.int .u64 6] w fun e w'=>e=.returned (.tuple #[.int .u64 0,.int .u64 6])/\w'=w:=by
 go_enter Tryz.func160,Tryz.ntmps160
 go_wp2
 all_goals (go_ret2;exact⟨by rfl,rfl⟩)
theorem Z5m (w:World):Calls Tryz.prog 165 #[.string ⟨#[48]⟩,.int .i64 6] w fun e w'=>e=.returned (.string (text (List.replicate 6 false)))/\w'=w:=by
 go_enter Tryz.func165,Tryz.ntmps165
 go_wp2_with (first|(go_at_call 160;refine(Z5x _).mono ?_;rintro e w' ⟨rfl,rfl⟩)|(go_at_call 200;refine(Dw _ false _ (by decide) (by decide)).mono ?_;rintro e w' ⟨rfl,rfl⟩)|(go_at_call 200;refine(Dw _ true _ (by decide) (by decide)).mono ?_;rintro e w' ⟨rfl,rfl⟩))
 go_ret;exact⟨rfl,rfl⟩
theorem Z5w (w:World):Calls Tryz.prog 160 #[.int .u64 1,.int .u64 7] w fun e w'=>e=.returned (.tuple #[.int .u64 0,.int .u64 7])/\w'=w:=by
 go_enter Tryz.func160,Tryz.ntmps160
 go_wp2
 all_goals (go_ret2;exact⟨by rfl,rfl⟩)
theorem Z5l (w:World):Calls Tryz.prog 165 #[.string ⟨#[48]⟩,.int .i64 7] w fun e w'=>e=.returned (.string (text (List.replicate 7 false)))/\w'=w:=by
 go_enter Tryz.func165,Tryz.ntmps165
 go_wp2_with (first|(go_at_call 160;refine(Z5w _).mono ?_;rintro e w' ⟨rfl,rfl⟩)|(go_at_call 200;refine(Dw _ false _ (by decide) (by decide)).mono ?_;rintro e w' ⟨rfl,rfl⟩)|(go_at_call 200;refine(Dw _ true _ (by decide) (by decide)).mono ?_;rintro e w' ⟨rfl,rfl⟩))
 go_ret;exact⟨rfl,rfl⟩
theorem Z5v (w:World):Calls Tryz.prog 160 #[.int .u64 1,.int .u64 8] w fun e w'=>e=.returned (.tuple #[.int .u64 0,.int .u64 8])/\w'=w:=by
 go_enter Tryz.func160,Tryz.ntmps160
 go_wp2
 all_goals (go_ret2;exact⟨by rfl,rfl⟩)
theorem Z5k (w:World):Calls Tryz.prog 165 #[.string ⟨#[48]⟩,.int .i64 8] w fun e w'=>e=.returned (.string (text (List.replicate 8 false)))/\w'=w:=by
 go_enter Tryz.func165,Tryz.ntmps165
 go_wp2_with (first|(go_at_call 160;refine(Z5v _).mono ?_;rintro e w' ⟨rfl,rfl⟩)|(go_at_call 200;refine(Dw _ false _ (by decide) (by decide)).mono ?_;rintro e w' ⟨rfl,rfl⟩)|(go_at_call 200;refine(Dw _ true _ (by decide) (by decide)).mono ?_;rintro e w' ⟨rfl,rfl⟩))
 go_ret;exact⟨rfl,rfl⟩
theorem Z5u (w:World):Calls Tryz.prog 160 #[.int .u64 1,.int .u64 9] w fun e w'=>e=.returned (.tuple #[.int .u64 0,.int .u64 9])/\w'=w:=by
 go_enter Tryz.func160,Tryz.ntmps160
 go_wp2
 all_goals (go_ret2;exact⟨by rfl,rfl⟩)
theorem Z5j (w:World):Calls Tryz.prog 165 #[.string ⟨#[48]⟩,.int .i64 9] w fun e w'=>e=.returned (.string (text (List.replicate 9 false)))/\w'=w:=by
 go_enter Tryz.func165,Tryz.ntmps165
 go_wp2_with (first|(go_at_call 160;refine(Z5u _).mono ?_;rintro e w' ⟨rfl,rfl⟩)|(go_at_call 200;refine(Dw _ false _ (by decide) (by decide)).mono ?_;rintro e w' ⟨rfl,rfl⟩)|(go_at_call 200;refine(Dw _ true _ (by decide) (by decide)).mono ?_;rintro e w' ⟨rfl,rfl⟩))
 go_ret;exact⟨rfl,rfl⟩
theorem Z4r (w:World):Calls Tryz.prog 160 #[.int .u64 1,.int .u64 10] w fun e w'=>e=.returned (.tuple #[.int .u64 0,.int .u64 10])/\w'=w:=by
 go_enter Tryz.func160,Tryz.ntmps160
 go_wp2
 all_goals (go_ret2;exact⟨by rfl,rfl⟩)
theorem Z4l (w:World):Calls Tryz.prog 165 #[.string ⟨#[48]⟩,.int .i64 10] w fun e w'=>e=.returned (.string (text (List.replicate 10 false)))/\w'=w:=by
 go_enter Tryz.func165,Tryz.ntmps165
 go_wp2_with (first|(go_at_call 160;refine(Z4r _).mono ?_;rintro e w' ⟨rfl,rfl⟩)|(go_at_call 200;refine(Dw _ false _ (by decide) (by decide)).mono ?_;rintro e w' ⟨rfl,rfl⟩)|(go_at_call 200;refine(Dw _ true _ (by decide) (by decide)).mono ?_;rintro e w' ⟨rfl,rfl⟩))
 go_ret;exact⟨rfl,rfl⟩
theorem Z4q (w:World):Calls Tryz.prog 160 #[.int .u64 1,.int .u64 11] w fun e w'=>e=.returned (.tuple #[.int .u64 0,.int .u64 11])/\w'=w:=by
 go_enter Tryz.func160,Tryz.ntmps160
 go_wp2
 all_goals (go_ret2;exact⟨by rfl,rfl⟩)
theorem Z4k (w:World):Calls Tryz.prog 165 #[.string ⟨#[48]⟩,.int .i64 11] w fun e w'=>e=.returned (.string (text (List.replicate 11 false)))/\w'=w:=by
 go_enter Tryz.func165,Tryz.ntmps165
 go_wp2_with (first|(go_at_call 160;refine(Z4q _).mono ?_;rintro e w' ⟨rfl,rfl⟩)|(go_at_call 200;refine(Dw _ false _ (by decide) (by decide)).mono ?_;rintro e w' ⟨rfl,rfl⟩)|(go_at_call 200;refine(Dw _ true _ (by decide) (by decide)).mono ?_;rintro e w' ⟨rfl,rfl⟩))
 go_ret;exact⟨rfl,rfl⟩
theorem Z4p (w:World):Calls Tryz.prog 160 #[.int .u64 1,.int .u64 12] w fun e w'=>e=.returned (.tuple #[.int .u64 0,.int .u64 12])/\w'=w:=by
 go_enter Tryz.func160,Tryz.ntmps160
 go_wp2
 all_goals (go_ret2;exact⟨by rfl,rfl⟩)
theorem Z4j (w:World):Calls Tryz.prog 165 #[.string ⟨#[48]⟩,.int .i64 12] w fun e w'=>e=.returned (.string (text (List.replicate 12 false)))/\w'=w:=by
 go_enter Tryz.func165,Tryz.ntmps165
 go_wp2_with (first|(go_at_call 160;refine(Z4p _).mono ?_;rintro e w' ⟨rfl,rfl⟩)|(go_at_call 200;refine(Dw _ false _ (by decide) (by decide)).mono ?_;rintro e w' ⟨rfl,rfl⟩)|(go_at_call 200;refine(Dw _ true _ (by decide) (by decide)).mono ?_;rintro e w' ⟨rfl,rfl⟩))
 go_ret;exact⟨rfl,rfl⟩
theorem Z4o (w:World):Calls Tryz.prog 160 #[.int .u64 1,.int .u64 13] w fun e w'=>e=.returned (.tuple #[.int .u64 0,.int .u64 13])/\w'=w:=by
 go_enter Tryz.func160,Tryz.ntmps160
 go_wp2
 all_goals (go_ret2;exact⟨by rfl,rfl⟩)
theorem Z4i (w:World):Calls Tryz.prog 165 #[.string ⟨#[48]⟩,.int .i64 13] w fun e w'=>e=.returned (.string (text (List.replicate 13 false)))/\w'=w:=by
 go_enter Tryz.func165,Tryz.ntmps165
 go_wp2_with (first|(go_at_call 160;refine(Z4o _).mono ?_;rintro e w' ⟨rfl,rfl⟩)|(go_at_call 200;refine(Dw _ false _ (by decide) (by decide)).mono ?_;rintro e w' ⟨rfl,rfl⟩)|(go_at_call 200;refine(Dw _ true _ (by decide) (by decide)).mono ?_;rintro e w' ⟨rfl,rfl⟩))
 go_ret;exact⟨rfl,rfl⟩
theorem Z4n (w:World):Calls Tryz.prog 160 #[.int .u64 1,.int .u64 14] w fun e w'=>e=.returned (.tuple #[.int .u64 0,.int .u64 14])/\w'=w:=by
 go_enter Tryz.func160,Tryz.ntmps160
 go_wp2
 all_goals (go_ret2;exact⟨by rfl,rfl⟩)
theorem Z4h (w:World):Calls Tryz.prog 165 #[.string ⟨#[48]⟩,.int .i64 14] w fun e w'=>e=.returned (.string (text (List.replicate 14 false)))/\w'=w:=by
 go_enter Tryz.func165,Tryz.ntmps165
 go_wp2_with (first|(go_at_call 160;refine(Z4n _).mono ?_;rintro e w' ⟨rfl,rfl⟩)|(go_at_call 200;refine(Dw _ false _ (by decide) (by decide)).mono ?_;rintro e w' ⟨rfl,rfl⟩)|(go_at_call 200;refine(Dw _ true _ (by decide) (by decide)).mono ?_;rintro e w' ⟨rfl,rfl⟩))
 go_ret;exact⟨rfl,rfl⟩
theorem Z4m (w:World):Calls Tryz.prog 160 #[.int .u64 1,.int .u64 15] w fun e w'=>e=.returned (.tuple #[.int .u64 0,.int .u64 15])/\w'=w:=by
 go_enter Tryz.func160,Tryz.ntmps160
 go_wp2
 all_goals (go_ret2;exact⟨by rfl,rfl⟩)
theorem Z4g (w:World):Calls Tryz.prog 165 #[.string ⟨#[48]⟩,.int .i64 15] w fun e w'=>e=.returned (.string (text (List.replicate 15 false)))/\w'=w:=by
 go_enter Tryz.func165,Tryz.ntmps165
 go_wp2_with (first|(go_at_call 160;refine(Z4m _).mono ?_;rintro e w' ⟨rfl,rfl⟩)|(go_at_call 200;refine(Dw _ false _ (by decide) (by decide)).mono ?_;rintro e w' ⟨rfl,rfl⟩)|(go_at_call 200;refine(Dw _ true _ (by decide) (by decide)).mono ?_;rintro e w' ⟨rfl,rfl⟩))
 go_ret;exact⟨rfl,rfl⟩
theorem Z5s (w:World):Calls Tryz.prog 165 #[.string ⟨#[48]⟩,.int .i64 0] w fun e w'=>e=.returned (.string (text (List.replicate 0 false)))/\w'=w:=by
 go_enter Tryz.func165,Tryz.ntmps165
 go_wp2_with fail
 go_ret;exact⟨rfl,rfl⟩
theorem Z5r (w:World):Calls Tryz.prog 165 #[.string ⟨#[48]⟩,.int .i64 1] w fun e w'=>e=.returned (.string (text (List.replicate 1 false)))/\w'=w:=by
 go_enter Tryz.func165,Tryz.ntmps165
 go_wp2_with fail
 go_ret;exact⟨rfl,rfl⟩
theorem L7 (k:Nat)(hk:k<=15)(w:World):Calls Tryz.prog 165 #[.string ⟨#[48]⟩,.int .i64 (k:Int)] w fun e w'=>e=.returned (.string (text (List.replicate k false)))/\w'=w:=by
 match k,hk with
 |0,_=>exact Z5s w
 |1,_=>exact Z5r w
 |2,_=>exact Z5q w
 |3,_=>exact Z5p w
 |4,_=>exact Z5o w
 |5,_=>exact Z5n w
 |6,_=>exact Z5m w
 |7,_=>exact Z5l w
 |8,_=>exact Z5k w
 |9,_=>exact Z5j w
 |10,_=>exact Z4l w
 |11,_=>exact Z4k w
 |12,_=>exact Z4j w
 |13,_=>exact Z4i w
 |14,_=>exact Z4h w
 |15,_=>exact Z4g w
end Go.Proofs.YtleocpdblhbimaaGreatDoor
namespace Go.Proofs.YtleocpdblhbimaaGreatDoor
open Go.RowKit Go.Lib
set_option linter.unusedVariables false
set_option maxRecDepth 100000
theorem Rf (f1 f2:Value)(hf1:f1.oneCell'=true)(hf2:f2.oneCell'=true)(n:Nat)(hn:n<=1)(w:World):
 Calls Tryz.prog 225 #[.agg #[f1,f2],.int .i64 0,.int .i64 n] w fun e w'=>e=.returned (.tuple #[])/\w.grownBy w' none:=by
 go_enter Tryz.func225,Tryz.ntmps225
 go_wp2;go_loop [6] (fun vi=>vi=.int .i64 1) (fun _=>0)
 case atStart=>exact rfl
 case round=>
  obtain rfl:=hrel;have h:¬(1:Int)<(n:Int):=by omega
  go_wp2;go_end0
  exact⟨rfl,Bk (Bi _ _) _⟩
theorem Yt (lf sf:Fn)(la lb sa sb:Array Value)(n:Nat)(hn:n<=1)(w:World):
 Calls Tryz.prog 197 #[.agg #[.func lf la lb,.func sf sa sb],.int .i64 n] w fun e w'=>e=.returned (.tuple #[])/\w.grownBy w' none:=by
 go_enter Tryz.func197,Tryz.ntmps197
 go_wp2;go_loop [5,6] (fun va vb=>va=.int .i64 0/\vb=.int .i64 20) (fun _ _=>0)
 case atStart=>exact⟨rfl,rfl⟩
 case round=>
  obtain⟨rfl,rfl⟩:=hrel;have h:¬(20:Int)<=(n:Int):=by omega
  have h2:¬(20:Int)<(n:Int):=by omega
  go_wp2_with fail
  refine(Rf _ _ rfl rfl n hn _).mono ?_;rintro e w2 ⟨rfl,hg⟩;have HG:=Ab (Bc (Bk (Bi w none) _) hg);clear hg;go_wp2;go_loop [4,5,6,7] (fun vB _ _ _=>vB=.int .i64 20) (fun _ _ _ _=>0)
  case atStart=>exact rfl
  case round=>
   obtain rfl:=hrel;go_wp2;go_end0
   exact⟨rfl,Aa HG⟩
theorem swk (n:Nat)(ie:TypeInfo)(hp:ie.hasPointers=false)(hb:ie.bytes=16):swapperK n ie 25=if n=0 then 1 else if n=1 then 2 else 9:=by
 unfold swapperK;rw[hp,hb]
 by_cases h0:n=0
 . simp[h0]
 . by_cases h1:n=1
   . simp[h1]
   . simp[h0,h1]
def BI (N bp:Nat)(d:Nat->Int×Int)(w w':World):Prop:=∃d',PS N bp d' w'/\Stab.Moved 0 N d d'/\Stab.Srt Stab.lx d' 0 N/\w.grownBy w' (some bp)
theorem Qf (N bp bx cap:Nat)(p:Option Addr)(d:Nat->Int×Int)(w:World)(hN:N<=288)(hp:N=0\/p=some ⟨bp,0,none⟩)(hbp:N=0\/bp<w.heap.size)(hbx:bx<w.heap.size)(hne:bx≠bp)
 (hbox:w.cell? ⟨bx,0,none⟩=some (.slice p N cap)) (hP:PS N bp d w) (hr:NR d 0 N):
 Calls Tryz.prog 162 #[.iface 228 (.slice p N cap),LF bx] w fun e w'=>e=.returned (.tuple #[])/\BI N bp d w w':=by
 obtain⟨ie,hie,hq⟩:=XG.1 Z40;have hq1:ie.hasPointers=false:=congrArg Prod.fst hq;have hq2:ie.bytes=16:=congrArg Prod.snd hq;have hk:=swk N ie hq1 hq2;have gst:w.grownBy (stW Tryz.prog.globals.size p N cap w) none:=Bk (Bk (Bi w none) _) _
 by_cases h1:N<=1
 . have small:∀f B,Calls Tryz.prog 197 #[.agg #[LF bx,.func (.func f) #[] B],.int .i64 N] (stW Tryz.prog.globals.size p N cap w) fun e w'=>e=.returned (.tuple #[])/\BI N bp d w w':=fun f B=>by
    refine(Yt _ _ _ _ _ _ N h1 _).mono ?_;rintro e w' ⟨rfl,hg⟩;have hg2:=Bc gst hg;refine⟨rfl,d, ?_,Stab.Moved.refl _ _ _,fun i j a1 a2 a3=>by omega,⟨hg2.os,hg2.tape,hg2.output,hg2.size,fun i hi _=>hg2.block i hi (by simp)⟩⟩
    by_cases h0:N=0
    . subst h0;intro k hk;omega
    . exact hP.kept hg2 (by omega)
   by_cases h0:N=0
   . rw[if_pos h0]at hk;exact Gj _ rfl ie hie p N cap 216 (by rw[hk];kernel_rfl) _ rfl _ _ _ w _ (Ab (small _ _))
   . rw[if_neg h0,if_pos (by omega)]at hk;exact Gj _ rfl ie hie p N cap 217 (by rw[hk];kernel_rfl) _ rfl _ _ _ w _ (Ab (small _ _))
 . rw[if_neg (by omega),if_neg (by omega)]at hk
   obtain rfl:p=some ⟨bp,0,none⟩:=by
    rcases hp with h|h
    . omega
    . exact h
   have hbp':bp<w.heap.size:=by omega
   refine Gj _ rfl ie hie (some ⟨bp,0,none⟩) N cap 224 (by rw[hk];kernel_rfl) _ rfl _ _ _ w _ (Ab ?_);rw[hk];refine(BZ (typeHandle Tryz.prog 230) (Ab rfl) N bp bx cap d _ hN (VG hbp' gst.size) (VG hbx gst.size) hne (gst.cell hbox (by simp)) (hP.kept gst hbp') hr).mono ?_;rintro e w' ⟨rfl,d',p1,p2,p3,p4⟩;exact⟨rfl,d',p1,p2,p3,Bc ⟨gst.os,gst.tape,gst.output,gst.size,fun i hi _=>gst.block i hi (by simp)⟩ p4⟩
theorem QZ (a:List Bool)(t:Nat)(w:World)(hl:a.length+1+t<=16):
 Calls Tryz.prog 164 #[.string (text (a++false::List.replicate t true)),.int .u8 48] w fun e w'=>e=.returned (.int .i64 (a.length:Int))/\w'=w:=by
 have hlen:(a++false::List.replicate t true).length=a.length+1+t:=by simp;omega
 have hsz:=Cl (a++false::List.replicate t true);rw[hlen]at hsz;have HTA:=Ab (GM (a++false::List.replicate t true));have HL:=Ab hlen
 have hat:Hid (∀j,a.length<j->(hj:j<(a++false::List.replicate t true).length)->(a++false::List.replicate t true)[j]=true):=fun j h1 hj=>by
  rw[YX (by omega)];obtain⟨m,hm⟩:∃m,j-a.length=m+1:=⟨j-a.length-1,by omega⟩
  simp[hm]
 have hat0:Hid ((hj:a.length<(a++false::List.replicate t true).length)->(a++false::List.replicate t true)[a.length]=false):=fun hj=>by
  rw[YX (by omega)];simp
 generalize a++false::List.replicate t true=l at*
 have lastS:Hid (∀w,Calls Tryz.prog 199 #[.string (text l),.int .u8 48] w fun e w'=>e=.returned (.int .i64 (a.length:Int))/\w'=w):=by
  intro w;go_enter Tryz.func199,Tryz.ntmps199
  go_wp2;go_loop [5] (fun vi=>∃j:Nat,a.length<=j/\j<a.length+1+t/\vi=.int .i64 (j:Int)) (fun vi=>(RowKit.intOf vi).toNat)
  case atStart=>exact⟨a.length+t,by omega,by omega,by go_num⟩
  case round=>
   obtain⟨j,hj1,hj2,rfl⟩:=hrel;have hjl:j<l.length:=by omega
   have hjs:j<(text l).size:=by omega
   have ht:=Aa HTA j hjl hjs
   by_cases hlt:a.length<j
   . rw[Aa hat j hlt hjl]at ht;have hb:((((text l)[j]'hjs).toNat:Int)==48)=false:=by rw[ht];rfl
     clear ht;go_wp2;go_round
     case rel=>exact⟨j-1,by omega,by omega,by go_num⟩
     case measure=>simp[RowKit.intOf];omega
   . obtain rfl:j=a.length:=by omega
     rw[Aa hat0 hjl]at ht;have hb:((((text l)[a.length]'hjs).toNat:Int)==48)=true:=by rw[ht];rfl
     clear ht;go_wp2;go_ret;exact⟨rfl,rfl⟩
 go_enter Tryz.func164,Tryz.ntmps164
 go_wp2_with fail
 refine(Aa lastS _).mono ?_;rintro e w' ⟨rfl,rfl⟩;go_wp2;go_ret;exact⟨rfl,rfl⟩
end Go.Proofs.YtleocpdblhbimaaGreatDoor
