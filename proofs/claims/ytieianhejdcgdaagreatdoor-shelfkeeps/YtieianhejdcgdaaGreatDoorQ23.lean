import Derived.Test.YtieianhejdcgdaaGreatDoorQ22
import Derived.Test.YtieianhejdcgdaaGreatDoorQ19
set_option maxHeartbeats 4000000
namespace Go.Proofs.YtieianhejdcgdaaGreatDoor
open Go.RowKit
set_option linter.unusedVariables false
set_option maxRecDepth 100000 in
theorem Z23 (N bp cap bx bl ol ln lc:Nat)(l:List Int)(d:Nat->Int×Int)(w:World)(hN:N<=288)(hX:Cx bp bx bl ol ln lc l w)(hP:PC N bp l d w)(hr:Z63 d 0 N):
 Calls Tryz.prog 291 #[.slice (some ⟨bp,0,none⟩) N cap,.int .i64 N,CF bx] w fun e w'=>e=.returned (.tuple #[])/\∃d',PC N bp l d' w'/\Stab.Moved 0 N d d'/\Stab.Srt Stab.lx d' 0 N/\w.grownBy w' (some bp):=by
 have S0:Hid (CSt N bp bx bl ol ln lc l w w d):=⟨hP,Ap _ _,hX⟩
 have HR:=Ab hr;have HC0:Hid (Part d d N 20 0):=⟨fun s h=>by omega,fun _ _=>rfl,fun s i j hi hj hn=>hr i j (VM _) (by omega) hn⟩
 have HMG:=Ab (Mw N bp cap bx bl ol ln lc l hN N);clear hP hX hr;go_enter Tryz.func291,Tryz.ntmps291
 go_wp2;go_loopw [7,8] (fun va vb wr=>∃(t α:Nat) (dk:Nat->Int×Int),Hid (α=t*20)/\α<=N/\va=.int .i64 α/\vb=.int .i64 ((α:Int)+20)/\CSt N bp bx bl ol ln lc l w wr dk/\Stab.Moved 0 N d dk/\Part dk d N 20 t) (fun va _ _=>N+1-(intOf va).toNat)
 case atStart=>exact⟨0,0,d,Ab rfl,VM _,rfl,rfl,Aa S0,Stab.Moved.refl _ _ _,Aa HC0⟩
 case round=>
  obtain⟨t,α,dk,hα,hαN,rfl,rfl,hS,hM,hPt⟩:=hrel;have HS:=Ab hS;have HM:=Ab hM;have HPt:=Ab hPt
  have HRi:Hid (∀e,e<=N->Z63 dk α e):=fun e he i j h1 h2 h3=>by
   rw[Aa hα]at h1;rw[hPt.rest i h1,hPt.rest j (by omega)];exact Aa HR i j (VM _) h2 (by omega)
  clear hS hM hPt S0 HC0
  by_cases hlt:α+20<=N
  . have hltI:(α:Int)+20<=(N:Int):=by omega
    have E:Hid ((α:Int)+20=((α+20:Nat):Int)):=by unfold Hid;omega
    go_wp2_with fail
    rw[Aa E];refine(Un N bp cap bx bl ol ln lc l dk α (α+20) _ hN (by omega) hlt (Aa HS).cx (Aa HS).ps (Aa HRi (α+20) hlt)).mono ?_;rintro e w2 ⟨rfl,d',p2,m2,s2,g2⟩;have HS2:=Ab ((Aa HS).next p2 g2);have HM2:=Ab ((Aa HM).trans (m2.wider (VM _) (by omega) hlt))
    have HP2:Hid (Part d' d N 20 (t+1)):=by
     have ha:=Aa hα;rw[ha]at m2 s2 hlt;exact(Aa HPt).step hlt m2 s2
    have hα2:Hid (α+20=(t+1)*20):=by have:=Aa hα;unfold Hid;omega
    clear p2 m2 s2 g2;go_wp2;go_roundw
    case rel=>exact⟨t+1,α+20,d',hα2,hlt,rfl,by go_num,Aa HS2,Aa HM2,Aa HP2⟩
    case measure=>simp[intOf];omega
  . have hltI:¬(α:Int)+20<=(N:Int):=by omega
    go_wp2_with fail
    refine(Un N bp cap bx bl ol ln lc l dk α N _ hN hαN (VC _) (Aa HS).cx (Aa HS).ps (Aa HRi N (VC _))).mono ?_;rintro e w2 ⟨rfl,d',p2,m2,s2,g2⟩;have HS2:=Ab ((Aa HS).next p2 g2);have HM2:=Ab ((Aa HM).trans (m2.wider (VM _) hαN (VC _)))
    have HB2:Hid (Sn d' N 20/\Cuts d' N 20):=by
     have ha:=Aa hα;rw[ha]at m2 s2;exact(Aa HPt).last (by omega) (by omega) m2 s2
    clear p2 m2 s2 g2 HS HM HPt HRi hα hαN hlt hltI;go_wp2;go_loopw [6,7,8,9] (fun vB _ _ _ wr=>∃(B:Nat) (dB:Nat->Int×Int),0<B/\B<=1000/\vB=.int .i64 B/\CSt N bp bx bl ol ln lc l w wr dB/\Stab.Moved 0 N d dB/\Sn dB N B/\Cuts dB N B) (fun vB _ _ _ _=>N-(intOf vB).toNat)
    case atStart=>exact⟨20,d',by omega,by omega,rfl,Aa HS2,Aa HM2,(Aa HB2).1,(Aa HB2).2⟩
    case round=>
     obtain⟨B,dB,hB0,hB1,rfl,hS,hM,hbl,hcu⟩:=hrel;have HS:=Ab hS;have HM:=Ab hM;have HBl:=Ab hbl;have HCu:=Ab hcu;have HP0:Hid (Part dB dB N (2*B) 0):=⟨fun s h=>by omega,fun _ _=>rfl,hcu.double⟩
     clear hS hM hbl hcu HS2 HM2 HB2
     by_cases hBN:B<N
     . go_wp2;go_loopw [7,8] (fun va vb wr=>∃(t α:Nat) (dk:Nat->Int×Int),Hid (α=t*(2*B))/\α<=N/\va=.int .i64 α/\vb=.int .i64 ((α:Int)+2*(B:Int))/\CSt N bp bx bl ol ln lc l w wr dk/\Stab.Moved 0 N d dk/\Part dk dB N (2*B) t) (fun va _ _=>N+1-(intOf va).toNat)
       case atStart=>exact⟨0,0,dB,Ab (ZI _).symm,VM _,rfl,by go_num,Aa HS,Aa HM,Aa HP0⟩
       case round=>
        obtain⟨t,α,dk,hα,hαN,rfl,rfl,hS,hM,hPt⟩:=hrel;have HS1:=Ab hS;have HM1:=Ab hM;have HPt:=Ab hPt;clear hS hM hPt HP0
        by_cases hlt:α+2*B<=N
        . have hltI:(α:Int)+2*(B:Int)<=(N:Int):=by omega
          have E:Hid ((α:Int)+2*(B:Int)=((α+2*B:Nat):Int)):=by unfold Hid;omega
          have E2:Hid ((α:Int)+(B:Int)=((α+B:Nat):Int)):=by unfold Hid;omega
          have HRu:Hid (Stab.Srt Stab.lx dk α (α+B)/\Stab.Srt Stab.lx dk (α+B) (α+2*B)/\Stab.Cross dk α (α+B) (α+2*B)):=by
           have ha:=Aa hα;rw[ha];rw[ha]at hlt;exact Z1 (Aa HBl) (Aa HCu) (Aa HPt).rest (by omega) (VC _) hlt (.inr rfl)
          go_wp2_with fail
          rw[Aa E,Aa E2];refine(Aa HMG dk α (α+B) (α+2*B) _ (by omega) (by omega) (by omega) hlt (Aa HS1).cx (Aa HS1).ps (Aa HRu).1 (Aa HRu).2.1 (Aa HRu).2.2).mono ?_;rintro e w3 ⟨rfl,d3,p3,m3,s3,g3⟩;have HS3:=Ab ((Aa HS1).next p3 g3);have HM3:=Ab ((Aa HM1).trans (m3.wider (VM _) (by omega) hlt))
          have HP3:Hid (Part d3 dB N (2*B) (t+1)):=by
           have ha:=Aa hα;rw[ha]at m3 s3 hlt;exact(Aa HPt).step hlt m3 s3
          have hα3:Hid (α+2*B=(t+1)*(2*B)):=by have:=Aa hα;unfold Hid;rw[ZB t (2*B),<-this]
          clear p3 m3 s3 g3 HRu;go_wp2;go_roundw
          case rel=>exact⟨t+1,α+2*B,d3,hα3,hlt,rfl,by go_num,Aa HS3,Aa HM3,Aa HP3⟩
          case measure=>simp[intOf];omega
        . have hltI:¬(α:Int)+2*(B:Int)<=(N:Int):=by omega
          by_cases hm:α+B<N
          . have hmI:(α:Int)+(B:Int)<(N:Int):=by omega
            have E2:Hid ((α:Int)+(B:Int)=((α+B:Nat):Int)):=by unfold Hid;omega
            have HRu:Hid (Stab.Srt Stab.lx dk α (α+B)/\Stab.Srt Stab.lx dk (α+B) N/\Stab.Cross dk α (α+B) N):=by
             have ha:=Aa hα;rw[ha];rw[ha]at hlt hm;exact Z1 (Aa HBl) (Aa HCu) (Aa HPt).rest hm (by omega) (VC _) (.inl rfl)
            go_wp2_with fail
            rw[Aa E2];refine(Aa HMG dk α (α+B) N _ (by omega) (by omega) hm (VC _) (Aa HS1).cx (Aa HS1).ps (Aa HRu).1 (Aa HRu).2.1 (Aa HRu).2.2).mono ?_;rintro e w3 ⟨rfl,d3,p3,m3,s3,g3⟩;have HS3:=Ab ((Aa HS1).next p3 g3);have HM3:=Ab ((Aa HM1).trans (m3.wider (VM _) hαN (VC _)))
            have HB3:Hid (Sn d3 N (2*B)/\Cuts d3 N (2*B)):=by
             have ha:=Aa hα;rw[ha]at m3 s3;exact(Aa HPt).last (by omega) (by omega) m3 s3
            clear p3 m3 s3 g3 HRu HPt hα;go_wp2;go_roundw
            case rel=>exact⟨2*B,d3,by omega,by omega,congrArg (Value.int .i64) (by omega),Aa HS3,Aa HM3,(Aa HB3).1,(Aa HB3).2⟩
            case measure=>simp[intOf];omega
          . have hmI:¬(α:Int)+(B:Int)<(N:Int):=by omega
            have HB3:Hid (Sn dk N (2*B)/\Cuts dk N (2*B)):=by
             have ha:=Aa hα;rw[ha]at hlt hm hαN;exact(Aa HPt).last hαN (by omega) (Stab.Moved.refl _ _ _) (Z2s (Aa HBl) (Aa HPt).rest (by omega))
            clear HPt hα;go_wp2;go_roundw
            case rel=>exact⟨2*B,dk,by omega,by omega,congrArg (Value.int .i64) (by omega),Aa HS1,Aa HM1,(Aa HB3).1,(Aa HB3).2⟩
            case measure=>simp[intOf];omega
     . have HF:Hid (Stab.Srt Stab.lx dB 0 N):=by
        have:=Aa HBl 0
        rw[ZI,Nat.min_eq_right (by omega)]at this;exact this
       clear HP0;go_wp2;go_end0
       exact⟨rfl,dB,(Aa HS).ps,Aa HM,Aa HF,(Aa HS).grown⟩
theorem P9 (N bp cap bx bl ol ln lc:Nat)(l:List Int)(d:Nat->Int×Int)(w:World)(hN:N<=288)(hX:Cx bp bx bl ol ln lc l w)(hP:PC N bp l d w)(hr:Z63 d 0 N):
 Calls Tryz.prog 283 #[.slice (some ⟨bp,0,none⟩) N cap,CF bx] w fun e w'=>e=.returned (.tuple #[])/\∃d',PC N bp l d' w'/\Stab.Moved 0 N d d'/\Stab.Srt Stab.lx d' 0 N/\w.grownBy w' (some bp):=by
 have HC:=Ab (Z23 N bp cap bx bl ol ln lc l d w hN hX hP hr);clear hX hP hr;go_enter Tryz.func283,Tryz.ntmps283
 go_wp2_with fail
 refine(Aa HC).mono ?_;rintro e w2 ⟨rfl,h⟩;have H:=Ab h;clear h;go_wp2;go_end0
 exact⟨rfl,Aa H⟩
theorem Oe (p:Option Addr)(cap bx:Nat)(w:World):
 Calls Tryz.prog 283 #[.slice p 0 cap,CF bx] w fun e w'=>e=.returned (.tuple #[])/\w'=w:=by
 have hI:∀w,Calls Tryz.prog 292 #[.slice p 0 cap,.int .i64 0,.int .i64 0,CF bx] w fun e w'=>e=.returned (.tuple #[])/\w'=w:=by
  intro w;go_enter Tryz.func292,Tryz.ntmps292
  go_wp2;go_loopw [8] (fun vi wr=>vi=.int .i64 1/\wr=w) (fun vi _=>0)
  case atStart=>exact⟨rfl,rfl⟩
  case round=>
   obtain⟨rfl,rfl⟩:=hrel;go_wp2;go_end0
   exact⟨rfl,rfl⟩
 have hS:∀w,Calls Tryz.prog 291 #[.slice p 0 cap,.int .i64 0,CF bx] w fun e w'=>e=.returned (.tuple #[])/\w'=w:=by
  intro w;go_enter Tryz.func291,Tryz.ntmps291
  go_wp2;go_loopw [7,8] (fun va vb wr=>va=.int .i64 0/\vb=.int .i64 20/\wr=w) (fun va _ _=>0)
  case atStart=>exact⟨rfl,rfl,rfl⟩
  case round=>
   obtain⟨rfl,rfl,rfl⟩:=hrel;go_wp2_with fail
   refine(hI wr).mono ?_;rintro e w2 ⟨rfl,rfl⟩;go_wp2;go_loopw [6,7,8,9] (fun va vb vc vd wr=>va=.int .i64 20/\wr=w2) (fun va _ _ _ _=>0)
   case atStart=>exact⟨rfl,rfl⟩
   case round=>
    obtain⟨rfl,rfl⟩:=hrel;go_wp2;go_end0
    exact⟨rfl,rfl⟩
 go_enter Tryz.func283,Tryz.ntmps283
 go_wp2_with fail
 refine(hS w).mono ?_;rintro e w2 ⟨rfl,rfl⟩;go_wp2;go_end0
 exact⟨rfl,rfl⟩
structure WRow (w:World)(g:Nat)(xs:List Int):Prop where
 lt:g<w.heap.size
 at_:∀j,j<xs.length->w.cell? ⟨g,j,none⟩=some (.int .i64 (xs.getD j 0))/\w.frozen? ⟨g,j,none⟩=false
theorem WRow.row {w:World}{g:Nat}{xs:List Int}(h:WRow w g xs):RowIn .i64 w (some ⟨g,0,none⟩) xs:=.inr ⟨g,0,rfl,h.lt,fun j hj=>by rw[WI];exact(h.at_ j hj).1⟩
theorem WRow.grown {w w':World}{g:Nat}{xs:List Int}{r:Option Nat}(h:WRow w g xs)(hg:w.grownBy w' r)(hne:some g≠r):WRow w' g xs:=by
 refine⟨VK h.lt hg.size,fun j hj=> ?_⟩;have e:=hg.block g h.lt hne;exact⟨by rw[World.cell?_of_block (w:=w) (a:=⟨g,j,none⟩) e];exact(h.at_ j hj).1,by rw[World.frozen?_of_block (w:=w) (a:=⟨g,j,none⟩) e];exact(h.at_ j hj).2⟩
theorem WRow.below {w w':World}{B g:Nat}{xs:List Int}(h:WRow w g xs)(hB:Below B w w')(hb:g<B):WRow w' g xs:=
 ⟨VK h.lt hB.size,fun j hj=>⟨by rw[hB.cell (p:=⟨g,j,none⟩) hb];exact(h.at_ j hj).1,by rw[hB.frozen (p:=⟨g,j,none⟩) hb];exact(h.at_ j hj).2⟩⟩
theorem WRow.own {w:World}{B g n cap:Nat}{xs:List Int}(h:w.ownsRow B 3 1 (.slice (some ⟨g,0,none⟩) n cap) n (iv xs)):WRow w g xs:=by
 refine⟨(h.lt g rfl).2,fun j hj=>⟨?_,h.frozenAt j⟩⟩;have hn:xs.length=n:=by have:=h.1;simpa using this
 rw[h.cellAt j (by omega)];simp[List.getD,hj]
theorem WRow.set {w:World}{g:Nat}{xs:List Int}(h:WRow w g xs)(i:Nat)(hi:i<xs.length)(v:Int):WRow (w.setCell ⟨g,i,none⟩ (.int .i64 v)) g (xs.set i v):=by
 refine⟨by simpa using h.lt,fun j hj=> ?_⟩;rw[YA]at hj;refine⟨?_,by simp[(h.at_ j hj).2]⟩
 by_cases e:i=j
 . subst e;rw[World.cell?_setCell_same _ _ _ (h.at_ i hj).1];simp[List.getD,hi]
 . rw[World.cell?_setCell_other _ _ _ _ (by intro h;injection h;omega),(h.at_ j hj).1];simp[List.getD,e]
theorem WRow.other {w:World}{g:Nat}{xs:List Int}(h:WRow w g xs){a:Addr}(ha:a.block≠g)(v:Value):WRow (w.setCell a v) g xs:=by
 refine⟨by simpa using h.lt,fun j hj=>⟨?_,by simp[(h.at_ j hj).2]⟩⟩;rw[World.cell?_setCell_other _ _ _ _ (by intro h;subst h;exact ha rfl)];exact(h.at_ j hj).1
theorem WRow.drew {w:World}{g:Nat}{xs:List Int}(h:WRow w g xs):WRow w.drew g xs:=⟨h.lt,h.at_⟩
abbrev ni (P:List Nat):List Int:=P.map fun p:Nat=>(p:Int)
def dOf (l:List Int)(P:List Nat)(k:Nat):Int×Int:=(l.getD (P.getD k 0) 0,(P.getD k 0:Nat))
theorem Z2a (l:List Int)(P:List Nat):(Stab.seg (dOf l P) 0 P.length).map (fun x=>x.2.toNat)=P:=by
 apply XF
 . simp[Stab.seg]
 . intro i h1 h2;simp[Stab.seg,dOf,List.getD,h2]
theorem Z2f {l:List Int}{N bp:Nat}{w':World}{d':Nat->Int×Int}(hN:N=(wpl l l.length).length)(hP:PC N bp l d' w')(hM:Stab.Moved 0 N (dOf l (wpl l l.length)) d')(hS:Stab.Srt Stab.lx d' 0 N)(P:List Nat)(hE:P=(Stab.seg d' 0 N).map fun x=>x.2.toNat):RiseOf l P:=by
 have hlen:P.length=N:=by rw[hE];simp[Stab.seg]
 have hget:∀i (h:i<P.length),P[i]=(d' i).2.toNat:=by
  intro i h;simp[hE,Stab.seg]
 refine⟨?_, ?_⟩
 . have:=hM.perm.map (fun x:Int×Int=>x.2.toNat)
   rw[<-hE,hN,Z2a]at this;exact this
 . rw[YP];intro i j hi hj hij;have hi':i<N:=by omega
   have hj':j<N:=by omega
   obtain⟨_,p,p1,p2,p3⟩:=hP i hi';obtain⟨_,q,q1,q2,q3⟩:=hP j hj';have h:=hS i j (VM _) hij hj';unfold Stab.lx at h;rw[hget i hi,hget j hj,p1,q1,WL,WL];rw[p1,q1,p3,q3]at h;omega
set_option maxRecDepth 100000 in
theorem DQ (a:Option Addr)(len cap:Nat)(l:List Int)(w:World)(hl:l.length=len)(hlen:len<=288)(hR:RowIn .i64 w a l):
 Calls Tryz.prog 266 #[.slice a len cap] w fun e w'=>∃v P,e=.returned v/\RiseOf l P/\Below w.heap.size w w'/\((P= []/\v=.slice none 0 0)\/∃g c,v=.slice (some ⟨g,0,none⟩) P.length c/\P.length<=c/\c<=maxLen/\w.heap.size<=g/\WRow w' g (ni P)):=by
 obtain⟨i0,hi,hz0,hz1,hz2⟩:=info_parts Cn;have HL:=Ab hl;have HR:=Ab hR;have hbox:(w.alloc (.cells #[.slice a len cap] 81)).cell? ⟨w.heap.size,0,none⟩=some (.slice a len cap):=by simp
 clear hR;have HB0:=Ab ((Below.refl w.heap.size w).alloc (VC _) (.cells #[.slice a len cap] 81));go_enter Tryz.func266,Tryz.ntmps266
 go_wp2;go_loopw [3,4,5,8] (fun vo _ _ i wr=>∃k:Nat,k<=len/\i=.int .i64 k/\wr.ownsRow (w.heap.size+1) 3 1 vo (wpl l k).length (i64s (wpl l k))/\(wpl l k= []->vo=.slice none 0 0)/\Below (w.heap.size+1) (w.alloc (.cells #[.slice a len cap] 81)) wr) (fun _ _ _ i _=>len-(intOf i).toNat)
 case atStart=>exact⟨0,VM _,rfl,⟨rfl,.inl ⟨rfl,rfl⟩⟩,fun _=>rfl,Below.refl _ _⟩
 case round=>
  obtain⟨k,hk,rfl,hO,hV,hB⟩:=hrel;have HV:=Ab hV;clear hV;have HO:=Ab hO;have HB:=Ab hB;have hzr:=hB.size;simp only[World.size_alloc]at hzr
  by_cases hlt:k<len
  . have hlk:k<l.length:=by omega
    obtain⟨b,o,rfl,hb,hR⟩:∃b o,a=some ⟨b,o,none⟩/\b<w.heap.size/\Row .i64 w b o l:=by
     rcases Aa HR with rfl|h
     . simp at hlk
     . exact h
    have c1:=((Aa HB).cell (p:=⟨b,o+k,none⟩) (by simp;omega)).trans ((World.cell?_alloc_past _ _ _ hb).trans (hR k hlk));have hpl:=Pt l k;have HN:Hid (wpl l (k+1)=wpl l k++(if 0<l.getD k 0 then [k]else [])):=rfl;clear hO hB hR;generalize l.getD k 0=x at*
    by_cases hx:0<x
    . rw[if_pos hx]at HN;go_wp2_with (at_builtin;refine wpList_append_own _ rfl _ _ 81 rfl (w.heap.size+1) 3 i0 (.int .i64 0) 1 8 Tryz.underlying81 hi hz0 hz1 hz2 rfl (by decide) _ _ _ rfl ((Aa HO).alloc _) ⟨wr.heap.size,0,none⟩ 1 1 [.int .i64 (k:Int)] rfl rfl (by intro j u hj;match j,hj with|0,hj=>simp at hj;subst hj;simp[Addr.add]) (by intro u hu;simp at hu;subst hu;rfl) (by unfold maxLen;omega) (by omega) (by simp;omega) ?_)
      intro v' w1 hO1 hgrow _;have HO1:=Ab hO1;have HB1:=Ab (((Aa HB).alloc (by omega) _).grown hgrow (by simp;omega) (fun k hk=>((Aa HO).lt k hk).1));clear hO1 hgrow;go_wp2;go_roundw
      case rel=>
       refine⟨k+1,by omega,by go_num, ?_,fun h=>by rw[Aa HN]at h;simp at h,Aa HB1⟩;have e:i64s (wpl l (k+1))=i64s (wpl l k)++ [.int .i64 (k:Int)]:=by rw[Aa HN];simp[i64s]
       have e2:(wpl l (k+1)).length=(wpl l k).length+1:=by rw[Aa HN,VB];rfl
       rw[e,e2];exact Aa HO1
      case measure=>simp[intOf];omega
    . rw[if_neg hx,WO]at HN;go_wp2;go_roundw
      case rel=>exact⟨k+1,by omega,by go_num,by rw[Aa HN];exact Aa HO,by rw[Aa HN];exact Aa HV,Aa HB⟩
      case measure=>simp[intOf];omega
  . obtain rfl:k=len:=by omega
    have HBW:Hid (Below w.heap.size w wr):=(Aa HB0).trans ((Aa HB).mono (by omega))
    by_cases hN:wpl l k= []
    . have hv:=Aa HV hN;subst hv;have HP:Hid (RiseOf l []):=⟨by rw[Aa HL,hN],.nil⟩
      clear hO hB;go_wp2_with fail
      refine(Oe none 0 w.heap.size wr).mono ?_;rintro e w2 ⟨rfl,rfl⟩;go_wp2;go_ret;exact⟨_,[],rfl,Aa HP,Aa HBW,.inl ⟨rfl,rfl⟩⟩
    . have hpos:0<(wpl l k).length:=by cases h:wpl l k with|nil=>exact absurd h hN|cons=>simp
      obtain⟨g,c,hv,hg,hgl,hcc,hcm⟩:∃g c,u3=.slice (some ⟨g,0,none⟩) (wpl l k).length c/\w.heap.size+1<=g/\g<wr.heap.size/\(wpl l k).length<=c/\c<=maxLen:=by
       rcases hO.2 with h|⟨g,c,cur,h1,h2,h3,h4,h5,h6,h7⟩
       . omega
       . refine⟨g,c,h1,h2, ?_,h4,h5⟩
         rcases YO g wr.heap.size with h|h
         . exact h
         . rw[XX h]at h3;cases h3
      subst hv;have hle:=Pt l k
      obtain⟨b,o,rfl,hb,hR⟩:∃b o,a=some ⟨b,o,none⟩/\b<w.heap.size/\Row .i64 w b o l:=by
       rcases Aa HR with rfl|h
       . simp at hl;omega
       . exact h
      have hX:Cx g w.heap.size b o k cap l wr:=by
       refine⟨((Aa HB).cell (p:=⟨w.heap.size,0,none⟩) (by simp)).trans hbox,fun j hj=>((Aa HB).cell (p:=⟨b,o+j,none⟩) (by simp;omega)).trans ((World.cell?_alloc_past _ _ _ hb).trans (hR j hj)),hl,hlen, ?_, ?_,hgl,by omega,by omega⟩
       . omega
       . omega
      have hPC:PC (wpl l k).length g l (dOf l (wpl l k)) wr:=by
       intro j hj;refine⟨⟨?_,hO.frozenAt j⟩,(wpl l k).getD j 0,rfl, ?_,rfl⟩
       . rw[hO.cellAt j (by omega)];simp[dOf,List.getD,hj]
       . have h1:(wpl l k).getD j 0∈wpl l k:=by simp[List.getD,hj]
         have:=IE l k _ h1
         omega
      have hri:Z63 (dOf l (wpl l k)) 0 (wpl l k).length:=by
       intro i j _ hij hj;have h1:=(YP.1 (Y2 l k)) i j (by omega) hj hij;have e1:(wpl l k).getD i 0=(wpl l k)[i]'(by omega):=by simp[List.getD,show i<(wpl l k).length by omega]
       have e2:(wpl l k).getD j 0=(wpl l k)[j]'hj:=by simp[List.getD,hj]
       unfold dOf;simp only[];rw[e1,e2];omega
      have HS:=Ab (P9 (wpl l k).length g c w.heap.size b o k cap l _ wr (by omega) hX hPC hri);have HGG:=Ab hg;clear hO hB hX hPC hri hR HO HB HV hg;generalize hNN:(wpl l k).length=N at*;have HNN:=Ab hNN;clear hNN;go_wp2_with fail
      refine(Aa HS).mono ?_;rintro e w2 ⟨rfl,d',hP',hM,hSr,hgr⟩;obtain⟨P,hE⟩:∃P,P=(Stab.seg d' 0 N).map fun x=>x.2.toNat:=⟨_,rfl⟩
      have hPl:P.length=N:=by rw[hE];simp[Stab.seg]
      have HRi:Hid (RiseOf l P):=by
       refine Z2f (by rw[Aa HL,Aa HNN]) hP' ?_ hSr P hE;rw[Aa HL];exact hM
      have HWR:Hid (WRow w2 g (ni P)):=by
       refine⟨VK hgl hgr.size,fun j hj=> ?_⟩;have hj':j<N:=by simpa[hPl]using hj
       obtain⟨⟨c0,f0⟩,p,p1,p2,p3⟩:=hP' j hj';refine⟨?_,f0⟩;rw[c0]
       have:(ni P).getD j 0=(d' j).2:=by
        simp[hE,Stab.seg,List.getD,hj',p1]
       rw[this]
      have HB2:Hid (Below w.heap.size w w2):=(Aa HBW).grown hgr (by omega) (fun j h=>by cases h;have:=Aa HGG;omega);have HPL:=Ab hPl;clear hP' hM hSr hgr hE hPl;go_wp2;go_ret;refine⟨_,P,rfl,Aa HRi,Aa HB2,.inr ⟨g,c, ?_, ?_,hcm, ?_,Aa HWR⟩⟩
      . rw[Aa HPL];rfl
      . rw[Aa HPL];exact hcc
      . have:=Aa HGG;omega
theorem Lt (xs:List Int)(i j:Nat)(v:Int):(xs.set i v).getD j 0=if i=j/\i<xs.length then v else xs.getD j 0:=by
 simp only[List.getD];rw[ZH]
 by_cases e:i=j
 . subst e
   by_cases h:i<xs.length
   . simp[h]
   . simp[h]
 . simp[e]
theorem Km (xs:List Int)(p:Nat):(Sp xs p).length=xs.length:=by simp[Sp]
theorem Bo:∀(ps:List Nat) (xs:List Int),(Cj xs ps).length=xs.length
 | [],xs=>rfl
 |p::ps,xs=>by
  show (Cj (Sp xs p) ps).length=_
  rw[Bo ps,Km]
theorem GM (xs:List Int)(ps:List Nat)(p:Nat):Cj xs (ps++ [p])=Sp (Cj xs ps) p:=by simp[Cj]
theorem GN {xs:List Int}{c:Int}(h:∀j,0<=xs.getD j 0/\xs.getD j 0<=c)(p:Nat):∀j,0<=(Sp xs p).getD j 0/\(Sp xs p).getD j 0<=c+1:=by
 intro j;have h1:=h j;have h2:=h p;unfold Sp;rw[Lt]
 split<;>omega
theorem Kl:∀(ps:List Nat) {xs:List Int} {c:Int},(∀j,0<=xs.getD j 0/\xs.getD j 0<=c)->∀j,0<=(Cj xs ps).getD j 0/\(Cj xs ps).getD j 0<=c+ps.length
 | [],xs,c,h=>by simpa[Cj]using h
 |p::ps,xs,c,h=>by
  intro j;have:=Kl ps (GN h p) j
  simp only[VH];show 0<=(Cj (Sp xs p) ps).getD j 0/\(Cj (Sp xs p) ps).getD j 0<=_
  omega
theorem Iu (g n c:Nat)(xs:List Int)(a:Option Addr)(m c2:Nat)(ps:List Nat)(w:World)(hn:xs.length=n)(hm:ps.length=m)(hn1:n<=288)(hm1:m<=288)(hW:WRow w g xs)(hR:RowIn .i64 w a (ni ps))(hne:∀b o,a=some ⟨b,o,none⟩->b≠g)
 (hlt:∀p∈ps,p<n) (hb:∀j,0<=xs.getD j 0/\xs.getD j 0<=100000):
 Calls Tryz.prog 267 #[.slice (some ⟨g,0,none⟩) n c,.slice a m c2] w fun e w'=>e=.returned (.tuple #[])/\WRow w' g (Cj xs ps)/\w.grownBy w' (some g):=by
 have HW:=Ab hW;have HR:=Ab hR;have HL:=Ab hlt;have HBd:=Ab hb;clear hW hR hlt hb;go_enter Tryz.func267,Tryz.ntmps267
 go_wp2;go_loopw [5,8] (fun _ i wr=>∃k:Nat,k<=m/\i=.int .i64 k/\WRow wr g (Cj xs (ps.take k))/\w.grownBy wr (some g)) (fun _ i _=>m-(intOf i).toNat)
 case atStart=>exact⟨0,VM _,rfl,Aa HW,Ap _ _⟩
 case round=>
  obtain⟨k,hk,rfl,hWk,hg⟩:=hrel;have HWk:=Ab hWk;have HG:=Ab hg
  by_cases hlt:k<m
  . have hkp:k<ps.length:=by omega
    obtain⟨b,o,rfl,hb,hRw⟩:∃b o,a=some ⟨b,o,none⟩/\b<w.heap.size/\Row .i64 w b o (ni ps):=by
     rcases Aa HR with h|h
     . simp at h;subst h;simp at hkp
     . exact h
    have hbg:=hne b o rfl;obtain⟨p,hp⟩:∃p,p=ps[k]:=⟨_,rfl⟩
    have hpn:p<n:=by rw[hp];exact Aa HL _ (WR _)
    have c1:=hg.cell (hRw k (by simpa using hkp)) (by simpa using hbg);have e1:(ni ps).getD k 0=(p:Int):=by simp[List.getD,hkp,hp]
    rw[e1]at c1;have hlen:(Cj xs (ps.take k)).length=n:=by rw[Bo,hn]
    have c2:=(hWk.at_ p (by omega)).1;have f2:=(hWk.at_ p (by omega)).2;have hbd:=Kl (ps.take k) (Aa HBd) p;have hle:(ps.take k).length<=288:=by simp;omega
    have HU:Hid (Cj xs (ps.take (k+1))=(Cj xs (ps.take k)).set p ((Cj xs (ps.take k)).getD p 0+1)):=by
     rw[WU hkp,GM,<-hp];exact rfl
    have HST:=Ab (hWk.set p (by omega) ((Cj xs (ps.take k)).getD p 0+1));have HGS:=Ab (Aj hg (Ad wr g p (.int .i64 ((Cj xs (ps.take k)).getD p 0+1))));have hpI:(p:Int)<(n:Int):=by omega
    rw[<-Aa HU]at HST;clear hWk hg hRw hp e1;generalize (Cj xs (ps.take k)).getD p 0=x at*;go_wp2;go_roundw
    case rel=>exact⟨k+1,by omega,by go_num,Aa HST,Aa HGS⟩
    case measure=>simp[intOf];omega
  . obtain rfl:k=m:=by omega
    have HF:Hid (WRow wr g (Cj xs ps)):=by rw[VP (by omega)]at HWk;exact HWk
    clear hWk hg;go_wp2;go_end0
    exact⟨rfl,Aa HF,Aa HG⟩
def part (f:Nat->Int)(m:Nat):Nat->List Int
 |0=>List.replicate m 0
 |k+1=>(part f m k).set k (f k)
theorem Au (f:Nat->Int)(m:Nat):∀k,(part f m k).length=m
 |0=>by simp[part]
 |k+1=>by rw[part,YA,Au f m k]
theorem A9 (f:Nat->Int)(m:Nat):∀k j,j<m->(part f m k).getD j 0=if j<k then f j else 0
 |0,j,hj=>by simp[part,List.getD,hj]
 |k+1,j,hj=>by
  rw[part,Lt,Au,A9 f m k j hj]
  by_cases e:k=j
  . subst e;rw[if_pos ⟨rfl,hj⟩,if_pos (by omega)]
  . rw[if_neg (by omega)]
    by_cases h:j<k
    . rw[if_pos h,if_pos (by omega)]
    . rw[if_neg h,if_neg (by omega)]
theorem Wn (f:Nat->Int)(m:Nat)(xs:List Int)(hl:xs.length=m)(h:∀j,j<m->xs.getD j 0=f j):part f m m=xs:=by
 apply XF
 . rw[Au,hl]
 . intro i h1 h2;rw[Au]at h1;have e1:=A9 f m m i h1;rw[if_pos h1,<-h i h1]at e1;simpa[List.getD,Au,h1,h2]using e1
theorem Qz (n:Nat):(madeCells #[Value.int .i64 0] n).toList=iv (List.replicate n 0):=by
 rw[toList_madeCells_one];simp
set_option maxRecDepth 100000 in
theorem Vp (a:Option Addr)(len cap:Nat)(l:List Int)(a2:Option Addr)(m c2:Nat)(P:List Nat)(w:World)(hl:l.length=len)(hm:P.length=m)(hm1:m<=288)(hl1:len<=288)(hR:RowIn .i64 w a l)(hR2:RowIn .i64 w a2 (ni P))(hlt:∀p∈P,p<len):
 Calls Tryz.prog 269 #[.slice a len cap,.slice a2 m c2] w fun e w'=>∃g,e=.returned (.slice (some ⟨g,0,none⟩) m m)/\WRow w' g (P.map fun p=>l.getD p 0)/\Below w.heap.size w w'/\w.heap.size<=g:=by
 obtain⟨i0,hi,hz0,hz1,hz2⟩:=info_parts Cn;have HR:=Ab hR;have HR2:=Ab hR2;have HL:=Ab hlt;clear hR hR2 hlt;go_enter Tryz.func269,Tryz.ntmps269
 go_wp2_with (at_make;refine wpList_make_full _ rfl _ _ 81 rfl w.heap.size 3 i0 (.int .i64 0) 1 Tryz.underlying81 hi hz0 hz1 _ _ _ _ m rfl rfl rfl rfl (by rw[hz2];omega) (by unfold maxLen;omega) (by simp) ?_)
 intro w1 hown hgrow;have e0:(madeCells #[Value.int .i64 0] m).toList=iv (part (fun k=>l.getD (P.getD k 0) 0) m 0):=Qz m;rw[e0]at hown;have hW:=WRow.own hown;have HW:=Ab hW;have HB:=Ab ((Below.refl w.heap.size w).grown hgrow (VC _) (fun j h=>by cases h));clear hown hgrow e0 hW;generalize hgg:w.heap.size=g at*;have HGG:=Ab hgg;clear hgg;go_wp2;go_loopw [6,7,13] (fun _ _ i wr=>∃k:Nat,k<=m/\i=.int .i64 k/\WRow wr g (part (fun k=>l.getD (P.getD k 0) 0) m k)/\Below g w wr) (fun _ _ i _=>m-(intOf i).toNat)
 case atStart=>exact⟨0,VM _,rfl,Aa HW,Aa HB⟩
 case round=>
  obtain⟨k,hk,rfl,hWk,hB⟩:=hrel;have HWk:=Ab hWk;have HBk:=Ab hB
  by_cases hlt:k<m
  . have hkp:k<P.length:=by omega
    obtain⟨b2,o2,rfl,hb2,hRw2⟩:∃b o,a2=some ⟨b,o,none⟩/\b<w.heap.size/\Row .i64 w b o (ni P):=by
     rcases Aa HR2 with h|h
     . simp at h;subst h;simp at hkp
     . exact h
    obtain⟨p,hp⟩:∃p,p=P[k]:=⟨_,rfl⟩
    have hpn:p<len:=by rw[hp];exact Aa HL _ (WR _)
    obtain⟨b,o,rfl,hb,hRw⟩:∃b o,a=some ⟨b,o,none⟩/\b<w.heap.size/\Row .i64 w b o l:=by
     rcases Aa HR with rfl|h
     . simp at hl;omega
     . exact h
    rw[Aa HGG]at hb hb2;have c1:=(hB.cell (p:=⟨b2,o2+k,none⟩) hb2).trans (hRw2 k (by simpa using hkp));have e1:(ni P).getD k 0=(p:Int):=by simp[List.getD,hkp,hp]
    have e2:P.getD k 0=p:=by simp[List.getD,hkp,hp]
    rw[e1]at c1;have c2:=(hB.cell (p:=⟨b,o+p,none⟩) hb).trans (hRw p (by omega));have hlen:=Au (fun k=>l.getD (P.getD k 0) 0) m k;have c3:=(hWk.at_ k (by omega)).1;have f3:=(hWk.at_ k (by omega)).2;have HU:Hid (part (fun k=>l.getD (P.getD k 0) 0) m (k+1)=(part (fun k=>l.getD (P.getD k 0) 0) m k).set k (l.getD p 0)):=by rw[part,e2];exact rfl
    have HST:=Ab (hWk.set k (by omega) (l.getD p 0));have HBS:=Ab (hB.setCell (p:=⟨g,k,none⟩) (VC _) (.int .i64 (l.getD p 0)));have hpI:(p:Int)<(len:Int):=by omega
    rw[<-Aa HU]at HST;clear hWk hB hRw hRw2 hp e1 e2;generalize (part (fun k=>l.getD (P.getD k 0) 0) m k).getD k 0=y at*;generalize l.getD p 0=x at*;go_wp2;go_roundw
    case rel=>exact⟨k+1,by omega,by go_num,Aa HST,Aa HBS⟩
    case measure=>simp[intOf];omega
  . obtain rfl:k=m:=by omega
    have HF:Hid (WRow wr g (P.map fun p=>l.getD p 0)):=by
     rw[Wn (fun k=>l.getD (P.getD k 0) 0) k (P.map fun p=>l.getD p 0) (by simp[hm]) (fun j hj=>by simp[List.getD,hm,hj])]at HWk;exact HWk
    clear hWk hB;go_wp2;go_ret;exact⟨g,rfl,Aa HF,by rw[Aa HGG];exact Aa HBk,by rw[Aa HGG];exact VC _⟩
theorem Eo:∀xs:List Int,(prs xs).length=xs.length/2
 | []=>rfl
 | [x]=>by simp[prs]
 |x::y::t=>by
  rw[prs,VH,Eo t];simp only[VH];omega
theorem Ox:∀(xs:List Int) (j:Nat),j<xs.length/2->(prs xs).getD j 0=xs.getD (2*j) 0+xs.getD (2*j+1) 0
 | [],j,h=>by simp at h
 | [x],j,h=>by simp at h
 |x::y::t,0,h=>by simp[prs]
 |x::y::t,j+1,h=>by
  have:=Ox t j (by simp only[VH]at h;omega)
  rw[prs];simp only[List.getD_cons_succ];rw[this,show 2*(j+1)=2*j+1+1 by omega];simp only[List.getD_cons_succ]
set_option maxRecDepth 100000 in
theorem LA (a:Option Addr)(n c:Nat)(xs:List Int)(w:World)(hn:xs.length=n)(hn1:n<=1000)(hR:RowIn .i64 w a xs)(hb:∀j,0<=xs.getD j 0/\xs.getD j 0<=1000000000000):
 Calls Tryz.prog 286 #[.slice a n c] w fun e w'=>∃g,e=.returned (.slice (some ⟨g,0,none⟩) (n/2) (n/2))/\WRow w' g (prs xs)/\Below w.heap.size w w'/\w.heap.size<=g:=by
 obtain⟨i0,hi,hz0,hz1,hz2⟩:=info_parts Cn;have HR:=Ab hR;have HBd:=Ab hb;have HE:Hid ((n:Int)/2=((n/2:Nat):Int)):=by unfold Hid;omega
 have HF0:Hid (part (fun k=>xs.getD (2*k) 0+xs.getD (2*k+1) 0) (n/2) (n/2)=prs xs):=Wn _ _ _ (by rw[Eo,hn]) (fun j hj=>Ox xs j (by rw[hn];exact hj));have hm2:2*(n/2)<=n:=by omega
 clear hR hb;generalize n/2=m at*;go_enter Tryz.func286,Tryz.ntmps286
 go_wp2_with (at_make;rw[Aa HE];refine wpList_make_full _ rfl _ _ 81 rfl w.heap.size 3 i0 (.int .i64 0) 1 Tryz.underlying81 hi hz0 hz1 _ _ _ _ m rfl rfl rfl rfl (by rw[hz2];omega) (by unfold maxLen;omega) (by simp) ?_)
 intro w1 hown hgrow;have e0:(madeCells #[Value.int .i64 0] m).toList=iv (part (fun k=>xs.getD (2*k) 0+xs.getD (2*k+1) 0) m 0):=Qz m;rw[e0]at hown;have hW:=WRow.own hown;have HW:=Ab hW;have HB:=Ab ((Below.refl w.heap.size w).grown hgrow (VC _) (fun j h=>by cases h));clear hown hgrow e0 hW;generalize hgg:w.heap.size=g at*;have HGG:=Ab hgg;clear hgg;go_wp2;go_loopw [4,11] (fun _ i wr=>∃k:Nat,k<=m/\i=.int .i64 k/\WRow wr g (part (fun k=>xs.getD (2*k) 0+xs.getD (2*k+1) 0) m k)/\Below g w wr) (fun _ i _=>m-(intOf i).toNat)
 case atStart=>exact⟨0,VM _,rfl,Aa HW,Aa HB⟩
 case round=>
  obtain⟨k,hk,rfl,hWk,hB⟩:=hrel;have HWk:=Ab hWk;have HBk:=Ab hB
  by_cases hlt:k<m
  . obtain⟨b,o,rfl,hb,hRw⟩:∃b o,a=some ⟨b,o,none⟩/\b<w.heap.size/\Row .i64 w b o xs:=by
     rcases Aa HR with rfl|h
     . simp at hn;omega
     . exact h
    rw[Aa HGG]at hb;obtain⟨s,hs⟩:∃s,s=2*k:=⟨_,rfl⟩
    obtain⟨t,ht⟩:∃t,t=2*k+1:=⟨_,rfl⟩
    have c1:=(hB.cell (p:=⟨b,o+s,none⟩) hb).trans (hRw s (by omega));have c2:=(hB.cell (p:=⟨b,o+t,none⟩) hb).trans (hRw t (by omega));have hlen:=Au (fun k=>xs.getD (2*k) 0+xs.getD (2*k+1) 0) m k;have c3:=(hWk.at_ k (by omega)).1;have f3:=(hWk.at_ k (by omega)).2;have b1:=Aa HBd s;have b2:=Aa HBd t;have HU:Hid (part (fun k=>xs.getD (2*k) 0+xs.getD (2*k+1) 0) m (k+1)=(part (fun k=>xs.getD (2*k) 0+xs.getD (2*k+1) 0) m k).set k (xs.getD s 0+xs.getD t 0)):=by rw[hs,ht];exact rfl
    have HST:=Ab (hWk.set k (by omega) (xs.getD s 0+xs.getD t 0));have HBS:=Ab (hB.setCell (p:=⟨g,k,none⟩) (VC _) (.int .i64 (xs.getD s 0+xs.getD t 0)));rw[<-Aa HU]at HST;have ea:(2*(k:Int)).toNat=s:=by omega
    have pa:(0:Int)<=2*(k:Int):=by omega
    have ba:2*(k:Int)<(n:Int):=by omega
    have ra:IntKind.i64.wrap (2*(k:Int))=2*(k:Int):=by rw[IntKind.wrap_i64];omega
    have ec:(2*(k:Int)+1).toNat=t:=by omega
    have pc:(0:Int)<=2*(k:Int)+1:=by omega
    have bc:2*(k:Int)+1<(n:Int):=by omega
    have rc:IntKind.i64.wrap (2*(k:Int)+1)=2*(k:Int)+1:=by rw[IntKind.wrap_i64];omega
    have hkm:(k:Int)<(m:Int):=by omega
    clear hWk hB hRw hs ht;generalize (part (fun k=>xs.getD (2*k) 0+xs.getD (2*k+1) 0) m k).getD k 0=z at*;generalize xs.getD s 0=x at*;generalize xs.getD t 0=y at*;have rs:IntKind.i64.wrap (x+y)=x+y:=by rw[IntKind.wrap_i64];omega
    go_wp2_with fail
    go_big_region
    clear c1 c2 c3 f3;have HBD:=Ab (Af (Aa HBS) 1);go_wp2;go_roundw
    case rel=>exact⟨k+1,by omega,by go_num,(Aa HST).drew,Aa HBD⟩
    case measure=>simp[intOf];omega
  . obtain rfl:k=m:=by omega
    have HF:Hid (WRow wr g (prs xs)):=by rw[Aa HF0]at HWk;exact HWk
    clear hWk hB;go_wp2;go_ret;exact⟨g,rfl,Aa HF,by rw[Aa HGG];exact Aa HBk,by rw[Aa HGG];exact VC _⟩
end Go.Proofs.YtieianhejdcgdaaGreatDoor
