import Derived.Test.YtieianhejdcgdaaGreatDoorQ1
set_option maxHeartbeats 4000000
namespace Go.Proofs.YtieianhejdcgdaaGreatDoor
open Go.RowKit
set_option linter.unusedVariables false
def PC (N bp:Nat)(l:List Int)(d:Nat->Int×Int)(W:World):Prop:=
 ∀k,k<N->(W.cell? ⟨bp,k,none⟩=some (.int .i64 (d k).2)/\W.frozen? ⟨bp,k,none⟩=false)/\∃p:Nat,(d k).2=p/\p<l.length/\(d k).1=l.getD p 0
structure Cx (bp bx bl ol ln lc:Nat)(l:List Int)(W:World):Prop where
 box:W.cell? ⟨bx,0,none⟩=some (.slice (some ⟨bl,ol,none⟩) ln lc)
 row:Row .i64 W bl ol l
 len:l.length=ln
 sm:ln<=288
 xlt:bx<W.heap.size
 llt:bl<W.heap.size
 plt:bp<W.heap.size
 xne:bx≠bp
 lne:bl≠bp
theorem Cx.grown {bp bx bl ol ln lc:Nat}{l:List Int}{W W':World}(h:Cx bp bx bl ol ln lc l W)(g:W.grownBy W' (some bp)):Cx bp bx bl ol ln lc l W':=
 ⟨g.cell h.box (by simpa using h.xne),fun j hj=>g.cell (h.row j hj) (by simpa using h.lne),h.len,h.sm,VK h.xlt g.size,VK h.llt g.size,VK h.plt g.size,h.xne,h.lne⟩
theorem Cx.drewN {bp bx bl ol ln lc:Nat}{l:List Int}{W:World}(h:Cx bp bx bl ol ln lc l W)(n:Nat):Cx bp bx bl ol ln lc l (W.drewN n):=⟨h.box,h.row,h.len,h.sm,h.xlt,h.llt,h.plt,h.xne,h.lne⟩
def Z4k (x y:Int):Int:=if x<y then-1 else if y<x then 1 else 0
theorem Xv (x y:Int):decide (Z4k x y<0)=decide (x<y):=by
 unfold Z4k
 by_cases h:x<y
 . rw[if_pos h];simp[h]
 . rw[if_neg h]
   by_cases h2:y<x
   . rw[if_pos h2];simp[h]
   . rw[if_neg h2];simp[h]
theorem V7 (x y:Int)(w:World):Calls Tryz.prog 138 #[.int .i64 x,.int .i64 y] w fun e w'=>e=.returned (.int .i64 (Z4k x y))/\∃q,w'=w.drewN q:=by
 have hn:∀(x:Int) w,Calls Tryz.prog 176 #[.int .i64 x] w fun e w'=>e=.returned (.bool false)/\w'=w:=by
  intro x w;have hx:(x !=x)=false:=by simp
  go_enter Tryz.func176,Tryz.ntmps176
  go_wp2;go_ret;exact⟨rfl,rfl⟩
 unfold Z4k;go_enter Tryz.func138,Tryz.ntmps138
 go_wp2_with fail
 refine(hn x w).mono ?_;rintro e w1 ⟨rfl,rfl⟩;go_wp2_with fail
 refine(hn y w1).mono ?_;rintro e w2 ⟨rfl,rfl⟩
 by_cases h:x<y
 . go_wp2;go_ret;exact⟨rfl,0,rfl⟩
 . by_cases h2:y<x
   . go_wp2;go_ret;exact⟨rfl,0,rfl⟩
   . go_wp2;go_ret;exact⟨rfl,0,rfl⟩
abbrev CF (bx:Nat):Value:=.func (.func 284) #[] #[.pointer (some ⟨bx,0,none⟩)]
theorem V9 (bp bx bl ol ln lc:Nat)(l:List Int)(W:World)(p q:Nat)(hp:p<l.length)(hq:q<l.length)(hX:Cx bp bx bl ol ln lc l W):
 Calls Tryz.prog 284 #[.int .i64 p,.int .i64 q,.pointer (some ⟨bx,0,none⟩)] W fun e w'=>e=.returned (.int .i64 (Z4k (l.getD p 0) (l.getD q 0)))/\∃q,w'=W.drewN q:=by
 have hb:=hX.box;have c1:=hX.row p hp;have c2:=hX.row q hq;have hl:=hX.len;have hs:=hX.sm;generalize l.getD p 0=x at*;generalize l.getD q 0=y at*;have hiI:(p:Int)<(ln:Int):=by omega
 have hjI:(q:Int)<(ln:Int):=by omega
 clear hX;go_enter Tryz.func284,Tryz.ntmps284
 go_wp2;go_quiet ((go_at_call 138;refine Calls.quiet_of (V7 _ _ _)))
 go_wp2;go_ret;exact⟨rfl,_,rfl⟩
theorem CE {N bp bx bl ol ln lc:Nat}{l:List Int}{d:Nat->Int×Int}{W:World}(hP:PC N bp l d W)(hX:Cx bp bx bl ol ln lc l W)(i j:Nat)(hi:i<N)(hj:j<N)(n:Nat):
 Calls Tryz.prog 284 #[.int .i64 (d i).2,.int .i64 (d j).2,.pointer (some ⟨bx,0,none⟩)] (W.drewN n) fun e w'=>e=.returned (.int .i64 (Z4k (d i).1 (d j).1))/\∃q,w'=(W.drewN n).drewN q:=by
 obtain⟨_,p,hp1,hp2,hp3⟩:=hP i hi;obtain⟨_,q,hq1,hq2,hq3⟩:=hP j hj;rw[hp1,hq1,hp3,hq3];exact V9 bp bx bl ol ln lc l (W.drewN n) p q hp2 hq2 (hX.drewN n)
def swC (W:World)(bp:Nat)(x y:Int)(i j:Nat):World:=(W.setCell ⟨bp,i,none⟩ (.int .i64 y)).setCell ⟨bp,j,none⟩ (.int .i64 x)
theorem Ls (W:World)(bp:Nat)(x y:Int)(i j:Nat):W.grownBy (swC W bp x y i j) (some bp):=Aj (Ad W bp i _) (Ad _ bp j _)
theorem PC.sw {N bp:Nat}{l:List Int}{d:Nat->Int×Int}{W:World}(hP:PC N bp l d W)(i j:Nat)(hi:i<N)(hj:j<N):PC N bp l (Stab.swp d i j) (swC W bp (d i).2 (d j).2 i j):=by
 intro k hk;obtain⟨⟨c0,f0⟩,h0⟩:=hP k hk;obtain⟨⟨ci,_⟩,h1⟩:=hP i hi;obtain⟨⟨cj,_⟩,h2⟩:=hP j hj;unfold swC
 have e2:(W.setCell ⟨bp,i,none⟩ (.int .i64 (d j).2)).cell? ⟨bp,j,none⟩≠none:=by
  by_cases e:i=j
  . subst e;rw[World.cell?_setCell_same' _ _ _ (by rw[ci];rfl)];simp
  . rw[World.cell?_setCell_other _ _ _ _ (by intro h;injection h;omega),cj];simp
 refine⟨⟨?_,by simp[f0]⟩, ?_⟩
 . unfold Stab.swp
   by_cases e:k=j
   . subst e;rw[World.cell?_setCell_same' _ _ _ (by rw[Option.isSome_iff_ne_none];exact e2)]
     by_cases e1:k=i
     . subst e1;rw[if_pos rfl]
     . rw[if_neg e1,if_pos rfl]
   . rw[World.cell?_setCell_other _ _ _ _ (by intro h;injection h;omega)]
     by_cases e1:k=i
     . subst e1;rw[if_pos rfl,World.cell?_setCell_same' _ _ _ (by rw[ci];rfl)]
     . rw[if_neg e1,if_neg e,World.cell?_setCell_other _ _ _ _ (by intro h;injection h;omega)];exact c0
 . unfold Stab.swp
   by_cases e1:k=i
   . rw[if_pos e1];exact h2
   . rw[if_neg e1]
     by_cases e:k=j
     . rw[if_pos e];exact h1
     . rw[if_neg e];exact h0
theorem PC.c2 {N bp:Nat}{l:List Int}{d:Nat->Int×Int}{W:World}(hP:PC N bp l d W)(i j:Nat)(hi:i<N)(hj:j<N)(v:Value):∃u,(W.setCell ⟨bp,i,none⟩ v).cell? ⟨bp,j,none⟩=some u:=by
 by_cases e:i=j
 . subst e;exact⟨v,World.cell?_setCell_same _ _ _ (hP i hi).1.1⟩
 . exact⟨_,(World.cell?_setCell_other _ _ _ _ (by intro h;injection h;omega)).trans (hP j hj).1.1⟩
theorem PC.drewN {N bp:Nat}{l:List Int}{d:Nat->Int×Int}{W:World}(hP:PC N bp l d W)(n:Nat):PC N bp l d (W.drewN n):=hP
theorem Ge {a b:World}{r:Option Nat}(h:a.grownBy b r)(n:Nat):a.grownBy (b.drewN n) r:=⟨h.os,h.tape,h.output,h.size,h.block⟩
set_option maxRecDepth 100000 in
theorem Mr (fv:Value)(N bp cap:Nat)(l:List Int)(d:Nat->Int×Int)(a b n:Nat)(w:World)(hN:N<=288)(ha:a+n<=N)(hb:b+n<=N)(hP:PC N bp l d w):
 Calls Tryz.prog 295 #[.slice (some ⟨bp,0,none⟩) N cap,.int .i64 a,.int .i64 b,.int .i64 n,fv] w fun e w'=>e=.returned (.tuple #[])/\PC N bp l (Stab.swr d a b n) w'/\w.grownBy w' (some bp):=by
 have HP:=Ab hP;clear hP;go_enter Tryz.func295,Tryz.ntmps295
 go_wp2;go_loopw [10] (fun vi wr=>∃i:Nat,i<=n/\vi=.int .i64 i/\PC N bp l (Stab.swr d a b i) wr/\w.grownBy wr (some bp)) (fun vi _=>n-(intOf vi).toNat)
 case atStart=>exact⟨0,VM _,rfl,Aa HP,Ap _ _⟩
 case round=>
  obtain⟨i,hi,rfl,hPi,hg⟩:=hrel;have HPi:=Ab hPi;have HG:=Ab hg;have HS:Hid (Stab.swr d a b (i+1)=Stab.swp (Stab.swr d a b i) (a+i) (b+i)):=rfl;clear hPi hg
  by_cases hlt:i<n
  . generalize Stab.swr d a b i=di at*;obtain⟨s,hs⟩:∃s,s=a+i:=⟨_,rfl⟩
    obtain⟨t,ht⟩:∃t,t=b+i:=⟨_,rfl⟩
    have hsN:s<N:=by omega
    have htN:t<N:=by omega
    have c1:=((Aa HPi) s hsN).1.1;have f1:=((Aa HPi) s hsN).1.2;have c2:=((Aa HPi) t htN).1.1;have f2:=((Aa HPi) t htN).1.2;have HSW:=Ab ((Aa HPi).sw s t hsN htN);have HGS:=Ab (Aj (Aa HG) (Ls wr bp (di s).2 (di t).2 s t));obtain⟨u,c3⟩:=PC.c2 (Aa HPi) s t hsN htN (.int .i64 (di t).2);generalize (di s).2=x at*;generalize (di t).2=y at*;have ea:((a:Int)+(i:Int)).toNat=s:=by omega
    have pa:(0:Int)<=(a:Int)+(i:Int):=by omega
    have ba:(a:Int)+(i:Int)<(N:Int):=by omega
    have ra:IntKind.i64.wrap ((a:Int)+(i:Int))=(a:Int)+(i:Int):=by rw[IntKind.wrap_i64];omega
    have ec:((b:Int)+(i:Int)).toNat=t:=by omega
    have pc:(0:Int)<=(b:Int)+(i:Int):=by omega
    have bc:(b:Int)+(i:Int)<(N:Int):=by omega
    have rc:IntKind.i64.wrap ((b:Int)+(i:Int))=(b:Int)+(i:Int):=by rw[IntKind.wrap_i64];omega
    rw[<-hs,<-ht]at HS;clear hs ht hsN htN HPi;go_wp2_with fail
    go_big_region
    clear c1 c2 c3 f1 f2;unfold swC at HSW HGS;have HGD:=Ab (Bp (Aa HGS));clear HGS;go_wp2;go_roundw
    case rel=>exact⟨i+1,by omega,by go_num,by rw[Aa HS];exact Aa HSW,Aa HGD⟩
    case measure=>simp[intOf];omega
  . obtain rfl:i=n:=by omega
    go_wp2;go_end0
    exact⟨rfl,Aa HPi,Aa HG⟩
theorem Wg (fv:Value)(N bp cap:Nat)(l:List Int)(d:Nat->Int×Int)(a m b:Nat)(w:World)(hN:N<=288)(ha:a<m)(hm:m<b)(hb:b<=N)(hP:PC N bp l d w):
 Calls Tryz.prog 294 #[.slice (some ⟨bp,0,none⟩) N cap,.int .i64 a,.int .i64 m,.int .i64 b,fv] w fun e w'=>e=.returned (.tuple #[])/\PC N bp l (Stab.rot d a m b) w'/\w.grownBy w' (some bp):=by
 have HP:=Ab hP;have HR:Hid (Stab.rot d (m-(m-a)) m (m+(b-m))=Stab.rot d a m b):=by rw[show m-(m-a)=a by omega,show m+(b-m)=b by omega];exact rfl
 clear hP;go_enter Tryz.func294,Tryz.ntmps294
 go_wp2;go_loopw [10,11] (fun vi vj wr=>∃(i j:Nat) (dk:Nat->Int×Int),0<i/\0<j/\i<=m-a/\j<=b-m/\vi=.int .i64 i/\vj=.int .i64 j/\Stab.rot dk (m-i) m (m+j)=Stab.rot d a m b/\PC N bp l dk wr/\w.grownBy wr (some bp)) (fun vi vj _=>(intOf vi).toNat+(intOf vj).toNat)
 case atStart=>exact⟨m-a,b-m,d,by omega,by omega,VC _,VC _,by go_num,by go_num,Aa HR,Aa HP,Ap _ _⟩
 case round=>
  obtain⟨i,j,dk,hi0,hj0,hi,hj,rfl,rfl,hrot,hPk,hg⟩:=hrel;have HPk:=Ab hPk;have HG:=Ab hg;have HRot:=Ab hrot;clear hPk hg hrot
  rcases Nat.lt_trichotomy i j with hij|hij|hij
  . have hne:((i:Int)!=(j:Int))=true:=by rw[bne_iff_ne];omega
    have hle:¬(j:Int)<(i:Int):=by omega
    have E1:Hid ((m:Int)-(i:Int)=((m-i:Nat):Int)):=by unfold Hid;omega
    have E2:Hid ((m:Int)+(j:Int)-(i:Int)=((m+j-i:Nat):Int)):=by unfold Hid;omega
    go_wp2_with fail
    rw[Aa E1,Aa E2];refine(Mr fv N bp cap l dk _ _ _ _ hN (by omega) (by omega) (Aa HPk)).mono ?_;rintro e w2 ⟨rfl,hP2,hg2⟩;have HP2:=Ab hP2;have HG2:=Ab (Aj (Aa HG) hg2);have HR2:=Ab ((Stab.rot_lt dk m i j hij (by omega)).trans (Aa HRot));clear hP2 hg2;go_wp2;go_roundw
    case rel=>exact⟨i,j-i,_,hi0,by omega,hi,by omega,rfl,by go_num,Aa HR2,Aa HP2,Aa HG2⟩
    case measure=>simp[intOf];omega
  . subst hij;have hne:((i:Int)!=(i:Int))=false:=by simp
    have E1:Hid ((m:Int)-(i:Int)=((m-i:Nat):Int)):=by unfold Hid;omega
    go_wp2_with fail
    rw[Aa E1];refine(Mr fv N bp cap l dk _ _ _ _ hN (by omega) (by omega) (Aa HPk)).mono ?_;rintro e w2 ⟨rfl,hP2,hg2⟩;rw[Stab.rot_eq dk m i (by omega),Aa HRot]at hP2;have HP2:=Ab hP2;have HG2:=Ab (Aj (Aa HG) hg2);clear hP2 hg2;go_wp2;go_end0
    exact⟨rfl,Aa HP2,Aa HG2⟩
  . have hne:((i:Int)!=(j:Int))=true:=by rw[bne_iff_ne];omega
    have hle:(j:Int)<(i:Int):=by omega
    have E1:Hid ((m:Int)-(i:Int)=((m-i:Nat):Int)):=by unfold Hid;omega
    go_wp2_with fail
    rw[Aa E1];refine(Mr fv N bp cap l dk _ _ _ _ hN (by omega) (by omega) (Aa HPk)).mono ?_;rintro e w2 ⟨rfl,hP2,hg2⟩;have HP2:=Ab hP2;have HG2:=Ab (Aj (Aa HG) hg2);have HR2:=Ab ((Stab.rot_gt dk m i j hij (by omega)).trans (Aa HRot));clear hP2 hg2;go_wp2;go_roundw
    case rel=>exact⟨i-j,j,_,by omega,hj0,by omega,hj,by go_num,rfl,Aa HR2,Aa HP2,Aa HG2⟩
    case measure=>simp[intOf];omega
set_option maxRecDepth 100000 in
theorem EE (N bp cap bx bl ol ln lc:Nat)(l:List Int)(d:Nat->Int×Int)(a m b:Nat)(w:World)(hm:Hid (m=a+1))(hN:N<=288)(hab:m<b)(hb:b<=N)(hX:Cx bp bx bl ol ln lc l w)
 (hP:PC N bp l d w) (sR:Stab.Srt Stab.lx d m b) (hc:Stab.Cross d a m b):
 Calls Tryz.prog 293 #[.slice (some ⟨bp,0,none⟩) N cap,.int .i64 a,.int .i64 m,.int .i64 b,CF bx] w fun e w'=>e=.returned (.tuple #[])/\∃d',PC N bp l d' w'/\Stab.Moved a b d d'/\Stab.Srt Stab.lx d' a b/\w.grownBy w' (some bp):=by
 have HP:=Ab hP;have HS:=Ab sR;have HC:=Ab hc;have HX:=Ab hX;have hone:((m:Int)-(a:Int)==1)=true:=by rw[beq_iff_eq];have:=Aa hm;omega
 have ham:a<m:=by have:=Aa hm;omega
 clear hP sR hc hX;go_enter Tryz.func293,Tryz.ntmps293
 go_wp2;go_loopw [10,11,12] (fun vi vj vh wr=>∃i j q:Nat,m<=i/\i<=j/\j<=b/\vi=.int .i64 i/\vj=.int .i64 j/\(m<i->Stab.lx (d (i-1)) (d a))/\(j<b->Stab.lx (d a) (d j))/\wr=w.drewN q) (fun vi vj _ _=>(intOf vj).toNat-(intOf vi).toNat)
 case atStart=>exact⟨m,b,0,VC _,by omega,VC _,rfl,rfl,fun h=>by omega,fun h=>by omega,rfl⟩
 case round=>
  obtain⟨i,j,q,hi,hij,hj,rfl,rfl,hlo,hhi,hw⟩:=hrel;have HW:=Ab hw;have HLO:=Ab hlo;have HHI:=Ab hhi;clear hlo hhi hw
  by_cases hlt:i<j
  . obtain⟨c,hcc⟩:∃c,c=(i+j)/2:=⟨_,rfl⟩
    have hc1:i<=c:=by omega
    have hc2:c<j:=by omega
    have E:Hid (((i:Int)+(j:Int))/2=(c:Int)):=by unfold Hid;omega
    have hx:=Ab (Stab.cross_less (Aa HC a c (VC _) ham (by omega) (by omega)));have P1:PC N bp l d wr:=by rw[Aa HW];exact(Aa HP).drewN q
    have X1:Cx bp bx bl ol ln lc l wr:=by rw[Aa HW];exact(Aa HX).drewN q
    have hCmp:=fun n=>CE P1 X1 c a (by omega) (by omega) n
    have cc:=(P1 c (by omega)).1.1;have ca:=(P1 a (by omega)).1.1;generalize (d c).2=y at*;generalize (d a).2=z at*;have CM:=Ab hCmp;clear hcc P1 X1 hCmp;have hcN:(c:Int)<(N:Int):=by omega
    have haN:(a:Int)<(N:Int):=by omega
    go_wp2_with fail
    rw[Aa E];go_wp2_with fail
    go_quiet ((go_at_call 284;refine Calls.quiet_of (Aa CM _)))
    rw[Xv]
    cases hd:decide ((d c).1<(d a).1)with
    |true=>
     have HX2:=Ab ((Aa hx).1 hd);clear hx hd;go_wp2;go_roundw
     case rel=>exact⟨c+1,j,_,by omega,by omega,hj,by go_num,rfl,fun _=>Aa HX2,Aa HHI,by rw[Aa HW,World.drewN_drewN]⟩
     case measure=>simp[intOf];omega
    |false=>
     have HX2:=Ab ((Aa hx).2 hd);clear hx hd;go_wp2;go_roundw
     case rel=>exact⟨i,c,_,hi,by omega,by omega,rfl,rfl,Aa HLO,fun _=>Aa HX2,by rw[Aa HW,World.drewN_drewN]⟩
     case measure=>simp[intOf];omega
  . obtain rfl:i=j:=by omega
    have hno:¬(i:Int)<(i:Int):=by omega
    have HA:Hid (Stab.rot d a (a+1) (a+1)=d):=Stab.rot_right d a (a+1);have HW0:Hid (PC N bp l d wr):=by rw[Aa HW];exact(Aa HP).drewN q
    have HWG:Hid (w.grownBy wr (some bp)):=by rw[Aa HW];exact Ge (Ap _ _) q
    go_wp2;go_loopw [13] (fun vk wq=>∃k:Nat,a<=k/\k<i/\vk=.int .i64 k/\PC N bp l (Stab.rot d a (a+1) (k+1)) wq/\w.grownBy wq (some bp)) (fun vk _=>i-(intOf vk).toNat)
    case atStart=>exact⟨a,VC _,by omega,rfl,by rw[Aa HA];exact Aa HW0,Aa HWG⟩
    case round=>
     obtain⟨k,hk1,hk2,rfl,hPk,hg⟩:=hrel;have HPk:=Ab hPk;have HG:=Ab hg;clear hPk hg
     by_cases hlt2:k<i-1
     . have hltI:(k:Int)<(i:Int)-1:=by omega
       have HU:=Ab (Stab.rot_up d a k hk1);generalize Stab.rot d a (a+1) (k+1)=dk at*;obtain⟨t,ht⟩:∃t,t=k+1:=⟨_,rfl⟩
       have hkN:k<N:=by omega
       have htN:t<N:=by omega
       have c1:=((Aa HPk) k hkN).1.1;have f1:=((Aa HPk) k hkN).1.2;have c2:=((Aa HPk) t htN).1.1;have f2:=((Aa HPk) t htN).1.2;have HSW:=Ab ((Aa HPk).sw k t hkN htN);have HGS:=Ab (Bp (Aj (Aa HG) (Ls wr bp (dk k).2 (dk t).2 k t)));obtain⟨u,c3⟩:=PC.c2 (Aa HPk) k t hkN htN (.int .i64 (dk t).2);generalize (dk k).2=x at*;generalize (dk t).2=y at*;have ba:(k:Int)<(N:Int):=by omega
       have ec:((k:Int)+1).toNat=t:=by omega
       have pc:(0:Int)<=(k:Int)+1:=by omega
       have bc:(k:Int)+1<(N:Int):=by omega
       have rc:IntKind.i64.wrap ((k:Int)+1)=(k:Int)+1:=by rw[IntKind.wrap_i64];omega
       have HT:=Ab ht;clear ht HPk;go_wp2_with fail
       go_big_region
       clear c1 c2 c3 f1 f2;unfold swC at HSW HGS;go_wp2;go_roundw
       case rel=>exact⟨k+1,by omega,by omega,by go_num,by rw[<-Aa HU,<-Aa HT];exact Aa HSW,Aa HGS⟩
       case measure=>simp[intOf];omega
     . obtain rfl:k=i-1:=by omega
       have hno2:¬((i-1:Nat):Int)<(i:Int)-1:=by omega
       have ei:i-1+1=i:=by omega
       have HF:Hid (PC N bp l (Stab.rot d a (a+1) i) wr):=by rw[ei]at HPk;exact HPk
       have hmv:=Ab ((Stab.moved_rot d a (a+1) i (by omega) (by omega)).wider (VC _) (by omega) hj);have sR':=Aa HS;rw[Aa hm]at sR' HLO;have hsr:=Ab (Stab.ins_first (by omega) hj sR' (Aa HLO) (Aa HHI));clear ei sR' HPk;go_wp2;refine bodyPost_ret (results_none rfl _ _ _) rfl ?_;exact⟨rfl,_,Aa HF,Aa hmv,Aa hsr,Aa HG⟩
set_option maxRecDepth 100000 in
theorem S7 (N bp cap bx bl ol ln lc:Nat)(l:List Int)(d:Nat->Int×Int)(a m b:Nat)(w:World)(hb1:Hid (b=m+1))(hN:N<=288)(ham:a+1<m)(hmb:m<b)(hb:b<=N)(hX:Cx bp bx bl ol ln lc l w)
 (hP:PC N bp l d w) (sL:Stab.Srt Stab.lx d a m) (hc:Stab.Cross d a m b):
 Calls Tryz.prog 293 #[.slice (some ⟨bp,0,none⟩) N cap,.int .i64 a,.int .i64 m,.int .i64 b,CF bx] w fun e w'=>e=.returned (.tuple #[])/\∃d',PC N bp l d' w'/\Stab.Moved a b d d'/\Stab.Srt Stab.lx d' a b/\w.grownBy w' (some bp):=by
 have HP:=Ab hP;have HS:=Ab sL;have HC:=Ab hc;have HX:=Ab hX;have hnot:((m:Int)-(a:Int)==1)=false:=by rw[beq_eq_false_iff_ne];omega
 have hone:((b:Int)-(m:Int)==1)=true:=by rw[beq_iff_eq];have:=Aa hb1;omega
 clear hP sL hc hX;go_enter Tryz.func293,Tryz.ntmps293
 go_wp2;go_loopw [14,15,16] (fun vi vj vh wr=>∃i j q:Nat,a<=i/\i<=j/\j<=m/\vi=.int .i64 i/\vj=.int .i64 j/\(a<i->Stab.lx (d (i-1)) (d m))/\(j<m->Stab.lx (d m) (d j))/\wr=w.drewN q) (fun vi vj _ _=>(intOf vj).toNat-(intOf vi).toNat)
 case atStart=>exact⟨a,m,0,VC _,by omega,VC _,rfl,rfl,fun h=>by omega,fun h=>by omega,rfl⟩
 case round=>
  obtain⟨i,j,q,hi,hij,hj,rfl,rfl,hlo,hhi,hw⟩:=hrel;have HW:=Ab hw;have HLO:=Ab hlo;have HHI:=Ab hhi;clear hlo hhi hw
  by_cases hlt:i<j
  . obtain⟨c,hcc⟩:∃c,c=(i+j)/2:=⟨_,rfl⟩
    have hc1:i<=c:=by omega
    have hc2:c<j:=by omega
    have E:Hid (((i:Int)+(j:Int))/2=(c:Int)):=by unfold Hid;omega
    have hx:=Ab (Stab.cross_less (Aa HC c m (by omega) (by omega) (VC _) hmb));have P1:PC N bp l d wr:=by rw[Aa HW];exact(Aa HP).drewN q
    have X1:Cx bp bx bl ol ln lc l wr:=by rw[Aa HW];exact(Aa HX).drewN q
    have hCmp:=fun n=>CE P1 X1 m c (by omega) (by omega) n
    have cc:=(P1 c (by omega)).1.1;have ca:=(P1 m (by omega)).1.1;generalize (d c).2=y at*;generalize (d m).2=z at*;have CM:=Ab hCmp;clear hcc P1 X1 hCmp;have hcN:(c:Int)<(N:Int):=by omega
    have haN:(m:Int)<(N:Int):=by omega
    go_wp2_with fail
    rw[Aa E];go_wp2_with fail
    go_quiet ((go_at_call 284;refine Calls.quiet_of (Aa CM _)))
    rw[Xv]
    cases hd:decide ((d m).1<(d c).1)with
    |true=>
     have HX2:=Ab ((Aa hx).1 hd);clear hx hd;go_wp2;go_roundw
     case rel=>exact⟨i,c,_,hi,by omega,by omega,rfl,rfl,Aa HLO,fun _=>Aa HX2,by rw[Aa HW,World.drewN_drewN]⟩
     case measure=>simp[intOf];omega
    |false=>
     have HX2:=Ab ((Aa hx).2 hd);clear hx hd;go_wp2;go_roundw
     case rel=>exact⟨c+1,j,_,by omega,by omega,hj,by go_num,rfl,fun _=>Aa HX2,Aa HHI,by rw[Aa HW,World.drewN_drewN]⟩
     case measure=>simp[intOf];omega
  . obtain rfl:i=j:=by omega
    have hno:¬(i:Int)<(i:Int):=by omega
    have HA:Hid (Stab.rot d m m (m+1)=d):=Stab.rot_left d m (m+1);have HW0:Hid (PC N bp l d wr):=by rw[Aa HW];exact(Aa HP).drewN q
    have HWG:Hid (w.grownBy wr (some bp)):=by rw[Aa HW];exact Ge (Ap _ _) q
    go_wp2;go_loopw [17] (fun vk wq=>∃k:Nat,i<=k/\k<=m/\vk=.int .i64 k/\PC N bp l (Stab.rot d k m (m+1)) wq/\w.grownBy wq (some bp)) (fun vk _=>(intOf vk).toNat)
    case atStart=>exact⟨m,hj,VC _,rfl,by rw[Aa HA];exact Aa HW0,Aa HWG⟩
    case round=>
     obtain⟨k,hk1,hk2,rfl,hPk,hg⟩:=hrel;have HPk:=Ab hPk;have HG:=Ab hg;clear hPk hg
     by_cases hlt2:i<k
     . have HU:=Ab (Stab.rot_down d k m (by omega) hk2);generalize Stab.rot d k m (m+1)=dk at*;obtain⟨t,ht⟩:∃t,t=k-1:=⟨_,rfl⟩
       have hkN:k<N:=by omega
       have htN:t<N:=by omega
       have c1:=((Aa HPk) k hkN).1.1;have f1:=((Aa HPk) k hkN).1.2;have c2:=((Aa HPk) t htN).1.1;have f2:=((Aa HPk) t htN).1.2;have HSW:=Ab ((Aa HPk).sw k t hkN htN);have HGS:=Ab (Bp (Aj (Aa HG) (Ls wr bp (dk k).2 (dk t).2 k t)));obtain⟨u,c3⟩:=PC.c2 (Aa HPk) k t hkN htN (.int .i64 (dk t).2);generalize (dk k).2=x at*;generalize (dk t).2=y at*;have ba:(k:Int)<(N:Int):=by omega
       have ec:((k:Int)-1).toNat=t:=by omega
       have pc:(0:Int)<=(k:Int)-1:=by omega
       have bc:(k:Int)-1<(N:Int):=by omega
       have rc:IntKind.i64.wrap ((k:Int)-1)=(k:Int)-1:=by rw[IntKind.wrap_i64];omega
       have HT:=Ab ht;clear ht HPk;go_wp2_with fail
       go_big_region
       clear c1 c2 c3 f1 f2;unfold swC at HSW HGS;go_wp2;go_roundw
       case rel=>exact⟨k-1,by omega,by omega,by go_num,by rw[<-Aa HU,<-Aa HT];exact Aa HSW,Aa HGS⟩
       case measure=>simp[intOf];omega
     . obtain rfl:k=i:=by omega
       have hno2:¬(k:Int)<(k:Int):=by omega
       have hmv0:=(Stab.moved_rot d k m (m+1) hk2 (by omega)).wider hi (by omega) (VC _);have hsr0:=Stab.ins_last hi hk2 (Aa HS) (Aa HLO) (Aa HHI);rw[<-Aa hb1]at hmv0 hsr0;have hmv:=Ab hmv0;have hsr:=Ab hsr0;rw[<-Aa hb1]at HPk;clear hmv0 hsr0;go_wp2;refine bodyPost_ret (results_none rfl _ _ _) rfl ?_;exact⟨rfl,_,Aa HPk,Aa hmv,Aa hsr,Aa HG⟩
end Go.Proofs.YtieianhejdcgdaaGreatDoor
