import Derived.Test.YtleocpdblhbimaaGreatDoorQ1
import Derived.Lib.ReflectliteSwap
import Derived.Laws.IdiomCopy
set_option linter.unusedSimpArgs false
set_option maxHeartbeats 4000000
namespace Go.Proofs.YtleocpdblhbimaaGreatDoor
open Go.RowKit
set_option linter.unusedVariables false
def PS (N bp:Nat)(d:Nat->Int×Int)(W:World):Prop:=
 ∀k,k<N->(W.cell? ⟨bp,k*2,none⟩=some (.int .i64 (d k).1)/\W.frozen? ⟨bp,k*2,none⟩=false)/\(W.cell? ⟨bp,k*2+1,none⟩=some (.int .i64 (d k).2)/\W.frozen? ⟨bp,k*2+1,none⟩=false)
theorem Pe (N bp bx cap:Nat)(d:Nat->Int×Int)(W:World)(i j:Nat)(hi:i<N)(hj:j<N)(hN:N<=288)(hP:PS N bp d W)(hb:W.cell? ⟨bx,0,none⟩=some (.slice (some ⟨bp,0,none⟩) N cap)):
 Calls Tryz.prog 163 #[.int .i64 i,.int .i64 j,.pointer (some ⟨bx,0,none⟩)] W fun e w'=>e=.returned (.bool (decide ((d i).1<(d j).1)))/\∃q,w'=W.drewN q:=by
 have c1:=(hP i hi).1.1;have c2:=(hP j hj).1.1;generalize (d i).1=x at*;generalize (d j).1=y at*;have hiI:(i:Int)<(N:Int):=by omega
 have hjI:(j:Int)<(N:Int):=by omega
 clear hP;go_enter Tryz.func163,Tryz.ntmps163
 go_wp2;go_quiet (fail)
 go_wp2;go_ret;exact⟨rfl,_,rfl⟩
def swW (W:World)(bp:Nat)(d:Nat->Int×Int)(i j:Nat):World:=
 (W.setCells bp (0+i*2) [.int .i64 (d j).1,.int .i64 (d j).2]).setCells bp (0+j*2) [.int .i64 (d i).1,.int .i64 (d i).2]
theorem Z84:(Tryz.prog.info? 230).map (·.size)=some 2:=by kernel_rfl
theorem Z9l (w:World):(isAgg 230).run Tryz.prog w=.ok true w:=by kernel_rfl
theorem Ou (N bp cap:Nat)(d:Nat->Int×Int)(W:World)(i j:Nat)(hi:i<N)(hj:j<N)(hP:PS N bp d W):
 (callFunc 224 #[.int .i64 i,.int .i64 j,.slice (some ⟨bp,0,none⟩) N cap,typeHandle Tryz.prog 230]).run Tryz.prog W=.ok (.value (.tuple #[])) (swW W bp d i j):=by
 obtain⟨ie,hie,hs⟩:=XF.1 Z84
 have h:=Lib.run_swap_cells (P:=Tryz.prog) false 230 ie hie Z9l bp 0 N cap i j hi hj [.int .i64 (d i).1,.int .i64 (d i).2] [.int .i64 (d j).1,.int .i64 (d j).2] (by rw[hs];rfl) (by rw[hs];rfl)
  (by intro v hv;simp at hv;rcases hv with rfl|rfl<;>rfl) (by intro v hv;simp at hv;rcases hv with rfl|rfl<;>rfl) W
  (by intro k v hk;rw[hs];match k,hk with
   |0,hk=>simp at hk;subst hk;simpa using (hP i hi).1.1
   |1,hk=>simp at hk;subst hk;simpa using (hP i hi).2.1)
  (by intro k v hk;rw[hs];match k,hk with
   |0,hk=>simp at hk;subst hk;simpa using (hP j hj).1.1
   |1,hk=>simp at hk;subst hk;simpa using (hP j hj).2.1)
  (by rw[hs];intro k hk;match k,hk with
   |0,_=>simpa using (hP i hi).1.2
   |1,_=>simpa using (hP i hi).2.2)
  (by rw[hs];intro k hk;match k,hk with
   |0,_=>simpa using (hP j hj).1.2
   |1,_=>simpa using (hP j hj).2.2)
 rw[run_callFunc_extern Tryz.func224 (by kernel_rfl) (by kernel_rfl) (by kernel_rfl) (e:=Extern.ReflectliteSwapper.swap false) (by kernel_rfl),h,hs];rfl
theorem Bp (w:World)(r:Option Nat):w.grownBy w r:=⟨rfl,rfl,rfl,VB _,fun _ _ _=>rfl⟩
theorem Bf {a b c:World}{r:Option Nat}(h:a.grownBy b r)(k:b.grownBy c r):a.grownBy c r:=
 ⟨k.os.trans h.os,k.tape.trans h.tape,k.output.trans h.output,VU h.size k.size,fun i hi hr=>(k.block i (VG hi h.size) hr).trans (h.block i hi hr)⟩
theorem Fa {a b:World}{r:Option Nat}(h:a.grownBy b r)(n:Nat):a.grownBy (b.drewN n) r:=⟨h.os,h.tape,h.output,h.size,h.block⟩
theorem Bt {a b:World}{r:Option Nat}(h:a.grownBy b r)(o:Obj):a.grownBy (b.alloc o) r:=Bf h (World.grownBy_alloc b o r)
theorem GQ (w:World)(b i:Nat)(v:Value):w.grownBy (w.setCell ⟨b,i,none⟩ v) (some b):=
 ⟨rfl,rfl,rfl,by simp,fun k _ hk=>heap_setCell_other w ⟨b,i,none⟩ k v (fun e=>hk (by simp[e]))⟩
theorem Ji (b:Nat):∀(vs:List Value) (o:Nat) (w:World),w.grownBy (w.setCells b o vs) (some b)
 | [],o,w=>Bp _ _
 |v::vs,o,w=>Bf (GQ w b o v) (Ji b vs (o+1) _)
theorem Pi (W:World)(bp:Nat)(d:Nat->Int×Int)(i j:Nat):W.grownBy (swW W bp d i j) (some bp):=Bf (Ji bp _ _ W) (Ji bp _ _ _)
theorem KP {W:World}{bp o:Nat}{x y:Value}(h0:(W.cell? ⟨bp,o,none⟩).isSome=true)(h1:(W.cell? ⟨bp,o+1,none⟩).isSome=true):(W.setCells bp o [x,y]).cell? ⟨bp,o,none⟩=some x/\(W.setCells bp o [x,y]).cell? ⟨bp,o+1,none⟩=some y:=by
 have hs:∀j,j< [x,y].length->(W.cell? ⟨bp,o+j,none⟩).isSome=true:=by
  intro j hj
  match j,hj with
  |0,_=>exact h0
  |1,_=>exact h1
 exact⟨World.cell?_setCells_in bp [x,y] o W hs 0 (by simp),World.cell?_setCells_in bp [x,y] o W hs 1 (by simp)⟩
theorem Nc {W:World}{bp o k:Nat}{x y:Value}(h:k<o\/o+2<=k):(W.setCells bp o [x,y]).cell? ⟨bp,k,none⟩=W.cell? ⟨bp,k,none⟩:=
 World.cell?_setCells_out bp [x,y] o W ⟨bp,k,none⟩ (fun _ _=>by simpa using h)
theorem PS.sw {N bp:Nat}{d:Nat->Int×Int}{W:World}(hP:PS N bp d W)(i j:Nat)(hi:i<N)(hj:j<N):PS N bp (Stab.swp d i j) (swW W bp d i j):=by
 intro k hk;obtain⟨⟨c0,f0⟩,c1,f1⟩:=hP k hk;unfold swW;simp only[WG,World.frozen?_setCells,f0,f1,and_true];have some1:∀q,q<N->(W.cell? ⟨bp,q*2,none⟩).isSome=true/\(W.cell? ⟨bp,q*2+1,none⟩).isSome=true:=fun q hq=>⟨by rw[(hP q hq).1.1];rfl,by rw[(hP q hq).2.1];rfl⟩
 have some2:∀q,q<N->((W.setCells bp (i*2) [.int .i64 (d j).1,.int .i64 (d j).2]).cell? ⟨bp,q*2,none⟩).isSome=true/\((W.setCells bp (i*2) [.int .i64 (d j).1,.int .i64 (d j).2]).cell? ⟨bp,q*2+1,none⟩).isSome=true:=by
  intro q hq
  by_cases e:q=i
  . subst e;have:=KP (x:=.int .i64 (d j).1) (y:=.int .i64 (d j).2) (some1 q hq).1 (some1 q hq).2
    exact⟨by rw[this.1];rfl,by rw[this.2];rfl⟩
  . rw[Nc (o:=i*2) (k:=q*2) (by omega),Nc (o:=i*2) (k:=q*2+1) (by omega)];exact some1 q hq
 unfold Stab.swp
 by_cases e2:k=j
 . subst e2;have:=KP (x:=.int .i64 (d i).1) (y:=.int .i64 (d i).2) (some2 k hk).1 (some2 k hk).2
   by_cases e1:k=i
   . subst e1;rw[if_pos rfl];exact this
   . rw[if_neg e1,if_pos rfl];exact this
 . rw[Nc (o:=j*2) (k:=k*2) (by omega),Nc (o:=j*2) (k:=k*2+1) (by omega)]
   by_cases e1:k=i
   . subst e1;rw[if_pos rfl];exact KP (x:=.int .i64 (d j).1) (y:=.int .i64 (d j).2) (some1 k hk).1 (some1 k hk).2
   . rw[if_neg e1,if_neg e2,Nc (o:=i*2) (k:=k*2) (by omega),Nc (o:=i*2) (k:=k*2+1) (by omega)];exact⟨c0,c1⟩
theorem PS.kept {N bp:Nat}{d:Nat->Int×Int}{W W':World}(hP:PS N bp d W)(hg:W.grownBy W' none)(hb:bp<W.heap.size):PS N bp d W':=by
 intro k hk;obtain⟨⟨c0,f0⟩,c1,f1⟩:=hP k hk;have e:=hg.block bp hb (by simp);exact⟨⟨by rw[World.cell?_of_block (w:=W) (a:=⟨bp,k*2,none⟩) e];exact c0,by rw[World.frozen?_of_block (w:=W) (a:=⟨bp,k*2,none⟩) e];exact f0⟩,by rw[World.cell?_of_block (w:=W) (a:=⟨bp,k*2+1,none⟩) e];exact c1,by rw[World.frozen?_of_block (w:=W) (a:=⟨bp,k*2+1,none⟩) e];exact f1⟩
theorem PS.drewN {N bp:Nat}{d:Nat->Int×Int}{W:World}(hP:PS N bp d W)(n:Nat):PS N bp d (W.drewN n):=hP
theorem PS.alloc {N bp:Nat}{d:Nat->Int×Int}{W:World}(hP:PS N bp d W)(hb:bp<W.heap.size)(o:Obj):PS N bp d (W.alloc o):=hP.kept (World.grownBy_alloc W o none) hb
abbrev LF (bx:Nat):Value:=.func (.func 163) #[] #[.pointer (some ⟨bx,0,none⟩)]
abbrev SF (h:Value)(N bp cap:Nat):Value:=.func (.func 224) #[] #[.slice (some ⟨bp,0,none⟩) N cap,h]
theorem Hr (h:Value)(hh:Hid (h=typeHandle Tryz.prog 230))(N bp bx cap:Nat)(d:Nat->Int×Int)(a b n:Nat)(w:World)(hN:N<=288)(ha:a+n<=N)(hb:b+n<=N)(hbp:bp<w.heap.size)(hP:PS N bp d w):
 Calls Tryz.prog 264 #[.agg #[LF bx,SF h N bp cap],.int .i64 a,.int .i64 b,.int .i64 n] w fun e w'=>e=.returned (.tuple #[])/\PS N bp (Stab.swr d a b n) w'/\w.grownBy w' (some bp):=by
 have HP:=Ab hP;clear hP;go_enter Tryz.func264,Tryz.ntmps264
 go_wp2;go_loopw [8] (fun vi wr=>∃i:Nat,i<=n/\vi=.int .i64 i/\PS N bp (Stab.swr d a b i) wr/\w.grownBy wr (some bp)/\wr.cell? ⟨w.heap.size,1,none⟩=some (SF h N bp cap)/\w.heap.size<wr.heap.size) (fun vi _=>n-(intOf vi).toNat)
 case atStart=>exact⟨0,VH _,rfl,(Aa HP).alloc hbp _,Bt (Bp _ _) _,by simp,by simp⟩
 case round=>
  obtain⟨i,hi,rfl,hPi,hg,hc,hz⟩:=hrel;have HPi:=Ab hPi;have HG:=Ab hg;have HS:Hid (Stab.swr d a b (i+1)=Stab.swp (Stab.swr d a b i) (a+i) (b+i)):=rfl;clear hPi hg
  by_cases hlt:i<n
  . generalize Stab.swr d a b i=di at*;have hrun:=Ou N bp cap di wr (a+i) (b+i) (by omega) (by omega) (Aa HPi);rw[<-Aa hh]at hrun;push_cast at hrun
    have HSW:=Ab ((Aa HPi).sw (a+i) (b+i) (by omega) (by omega));have hgs:=Pi wr bp di (a+i) (b+i);have HGS:=Ab (Bf (Aa HG) hgs);have hc2:=hgs.cell hc (by simp;omega);have hz2:=VG hz hgs.size;clear hgs;generalize swW wr bp di (a+i) (b+i)=w2 at*;go_wp2;go_roundw
    case rel=>exact⟨i+1,by omega,by go_num,by rw[Aa HS];exact Aa HSW,Aa HGS,hc2,hz2⟩
    case measure=>simp[intOf];omega
  . obtain rfl:i=n:=by omega
    go_wp2;go_end0
    exact⟨rfl,Aa HPi,Aa HG⟩
theorem Jv (h:Value)(hh:Hid (h=typeHandle Tryz.prog 230))(N bp bx cap:Nat)(d:Nat->Int×Int)(a m b:Nat)(w:World)(hN:N<=288)(ha:a<m)(hm:m<b)(hb:b<=N)(hbp:bp<w.heap.size)(hP:PS N bp d w):
 Calls Tryz.prog 246 #[.agg #[LF bx,SF h N bp cap],.int .i64 a,.int .i64 m,.int .i64 b] w fun e w'=>e=.returned (.tuple #[])/\PS N bp (Stab.rot d a m b) w'/\w.grownBy w' (some bp):=by
 have HP:=Ab hP;have HR:Hid (Stab.rot d (m-(m-a)) m (m+(b-m))=Stab.rot d a m b):=by rw[show m-(m-a)=a by omega,show m+(b-m)=b by omega];exact rfl
 clear hP;go_enter Tryz.func246,Tryz.ntmps246
 go_wp2
 go_loopw [8,9] (fun vi vj wr=>∃(i j:Nat) (dk:Nat->Int×Int),0<i/\0<j/\i<=m-a/\j<=b-m/\vi=.int .i64 i/\vj=.int .i64 j/\Stab.rot dk (m-i) m (m+j)=Stab.rot d a m b/\PS N bp dk wr/\w.grownBy wr (some bp)/\
  (wr.cell? ⟨w.heap.size,0,none⟩=some (LF bx)/\wr.cell? ⟨w.heap.size,1,none⟩=some (SF h N bp cap))/\w.heap.size<wr.heap.size) (fun vi vj _=>(intOf vi).toNat+(intOf vj).toNat)
 case atStart=>exact⟨m-a,b-m,d,by omega,by omega,VB _,VB _,by go_num,by go_num,Aa HR,(Aa HP).alloc hbp _,Bt (Bp _ _) _,⟨by simp,by simp⟩,by simp⟩
 case round=>
  obtain⟨i,j,dk,hi0,hj0,hi,hj,rfl,rfl,hrot,hPk,hg,⟨hc0,hc1⟩,hz⟩:=hrel;have HPk:=Ab hPk;have HG:=Ab hg;have HRot:=Ab hrot;have hbw:=VG hbp hg.size;clear hPk hg hrot
  rcases ZR i j with hij|hij|hij
  . have hne:((i:Int)!=(j:Int))=true:=by rw[bne_iff_ne];omega
    have hle:¬(j:Int)<(i:Int):=by omega
    have e1:(m:Int)-(i:Int)=((m-i:Nat):Int):=by omega
    have e2:(m:Int)+(j:Int)-(i:Int)=((m+j-i:Nat):Int):=by omega
    have E1:=Ab e1;have E2:=Ab e2;clear e1 e2;go_wp2_with fail
    rw[Aa E1,Aa E2];refine(Hr h hh N bp bx cap dk _ _ _ _ hN (by omega) (by omega) hbw (Aa HPk)).mono ?_;rintro e w2 ⟨rfl,hP2,hg2⟩;have HP2:=Ab hP2;have HG2:=Ab (Bf (Aa HG) hg2);have c0:=hg2.cell hc0 (by simp;omega);have c1:=hg2.cell hc1 (by simp;omega);have hz2:=VG hz hg2.size;have HR2:=Ab ((Stab.rot_lt dk m i j hij (by omega)).trans (Aa HRot));clear hP2 hg2;go_wp2;go_roundw
    case rel=>exact⟨i,j-i,_,hi0,by omega,hi,by omega,rfl,by go_num,Aa HR2,Aa HP2,Aa HG2,⟨c0,c1⟩,hz2⟩
    case measure=>simp[intOf];omega
  . subst hij;have hne:((i:Int)!=(i:Int))=false:=by simp
    have E1:Hid ((m:Int)-(i:Int)=((m-i:Nat):Int)):=by unfold Hid;omega
    go_wp2_with fail
    rw[Aa E1];refine(Hr h hh N bp bx cap dk _ _ _ _ hN (by omega) (by omega) hbw (Aa HPk)).mono ?_;rintro e w2 ⟨rfl,hP2,hg2⟩;rw[Stab.rot_eq dk m i (by omega),Aa HRot]at hP2;have HP2:=Ab hP2;have HG2:=Ab (Bf (Aa HG) hg2);clear hP2 hg2;go_wp2;go_end0
    exact⟨rfl,Aa HP2,Aa HG2⟩
  . have hne:((i:Int)!=(j:Int))=true:=by rw[bne_iff_ne];omega
    have hle:(j:Int)<(i:Int):=by omega
    have E1:Hid ((m:Int)-(i:Int)=((m-i:Nat):Int)):=by unfold Hid;omega
    go_wp2_with fail
    rw[Aa E1];refine(Hr h hh N bp bx cap dk _ _ _ _ hN (by omega) (by omega) hbw (Aa HPk)).mono ?_;rintro e w2 ⟨rfl,hP2,hg2⟩;have HP2:=Ab hP2;have HG2:=Ab (Bf (Aa HG) hg2);have c0:=hg2.cell hc0 (by simp;omega);have c1:=hg2.cell hc1 (by simp;omega);have hz2:=VG hz hg2.size;have HR2:=Ab ((Stab.rot_gt dk m i j hij (by omega)).trans (Aa HRot));clear hP2 hg2;go_wp2;go_roundw
    case rel=>exact⟨i-j,j,_,by omega,hj0,by omega,hj,by go_num,rfl,Aa HR2,Aa HP2,Aa HG2,⟨c0,c1⟩,hz2⟩
    case measure=>simp[intOf];omega
set_option maxRecDepth 100000 in
theorem A3 (h:Value)(hh:Hid (h=typeHandle Tryz.prog 230))(N bp bx cap:Nat)(d:Nat->Int×Int)(a m b:Nat)(w:World)(hm:Hid (m=a+1))(hN:N<=288)(hab:m<b)(hb:b<=N)(hbp:bp<w.heap.size)(hbx:bx<w.heap.size)(hne:bx≠bp)
 (hbox:w.cell? ⟨bx,0,none⟩=some (.slice (some ⟨bp,0,none⟩) N cap)) (hP:PS N bp d w) (sR:Stab.Srt Stab.lx d m b) (hc:Stab.Cross d a m b):
 Calls Tryz.prog 226 #[.agg #[LF bx,SF h N bp cap],.int .i64 a,.int .i64 m,.int .i64 b] w fun e w'=>e=.returned (.tuple #[])/\∃d',PS N bp d' w'/\Stab.Moved a b d d'/\Stab.Srt Stab.lx d' a b/\w.grownBy w' (some bp):=by
 have HP:=Ab hP;have HS:=Ab sR;have HC:=Ab hc;have HBX:=Ab hbox;have hone:((m:Int)-(a:Int)==1)=true:=by rw[beq_iff_eq];have:=Aa hm;omega
 have ham:a<m:=by have:=Aa hm;omega
 clear hP sR hc hbox;go_enter Tryz.func226,Tryz.ntmps226
 go_wp2;go_loopw [8,9,10] (fun vi vj vh wr=>∃i j q:Nat,m<=i/\i<=j/\j<=b/\vi=.int .i64 i/\vj=.int .i64 j/\(m<i->Stab.lx (d (i-1)) (d a))/\(j<b->Stab.lx (d a) (d j))/\wr=(w.alloc (.cells #[LF bx,SF h N bp cap] 277)).drewN q) (fun vi vj _ _=>(intOf vj).toNat-(intOf vi).toNat)
 case atStart=>exact⟨m,b,0,VB _,by omega,VB _,rfl,rfl,fun h=>by omega,fun h=>by omega,rfl⟩
 case round=>
  obtain⟨i,j,q,hi,hij,hj,rfl,rfl,hlo,hhi,rfl⟩:=hrel;have HLO:=Ab hlo;have HHI:=Ab hhi;clear hlo hhi
  by_cases hlt:i<j
  . obtain⟨c,hcc⟩:∃c,c=(i+j)/2:=⟨_,rfl⟩
    have hc1:i<=c:=by omega
    have hc2:c<j:=by omega
    have E:Hid (((i:Int)+(j:Int))/2=(c:Int)):=by unfold Hid;omega
    have hx:=Stab.cross_less (Aa HC a c (VB _) ham (by omega) (by omega));clear hcc;go_wp2_with fail
    rw[Aa E];refine(Pe N bp bx cap d _ c a (by omega) (by omega) hN (((Aa HP).alloc hbp _).drewN q) (by rw[World.cell?_drewN,World.cell?_alloc_past _ _ _ hbx];exact Aa HBX)).mono ?_;rintro e w2 ⟨rfl,q2,rfl⟩;rw[World.drewN_drewN]
    cases hd:decide ((d c).1<(d a).1)with
    |true=>
     have HX:=Ab (hx.1 hd);clear hx hd;go_wp2;go_roundw
     case rel=>exact⟨c+1,j,_,by omega,by omega,hj,by go_num,rfl,fun _=>Aa HX,Aa HHI,rfl⟩
     case measure=>simp[intOf];omega
    |false=>
     have HX:=Ab (hx.2 hd);clear hx hd;go_wp2;go_roundw
     case rel=>exact⟨i,c,_,hi,by omega,by omega,rfl,rfl,Aa HLO,fun _=>Aa HX,rfl⟩
     case measure=>simp[intOf];omega
  . obtain rfl:i=j:=by omega
    have hno:¬(i:Int)<(i:Int):=by omega
    have HA:Hid (Stab.rot d a (a+1) (a+1)=d):=Stab.rot_right d a (a+1);have HW:Hid (PS N bp d ((w.alloc (.cells #[LF bx,SF h N bp cap] 277)).drewN q)):=((Aa HP).alloc hbp _).drewN q;have HWG:Hid (w.grownBy ((w.alloc (.cells #[LF bx,SF h N bp cap] 277)).drewN q) (some bp)):=Fa (Bt (Bp _ _) _) q;have hcl:((w.alloc (.cells #[LF bx,SF h N bp cap] 277)).drewN q).cell? ⟨w.heap.size,1,none⟩=some (SF h N bp cap):=by simp
    have hzz:w.heap.size<((w.alloc (.cells #[LF bx,SF h N bp cap] 277)).drewN q).heap.size:=by simp
    generalize (w.alloc (.cells #[LF bx,SF h N bp cap] 277)).drewN q=w1 at*;go_wp2;go_loopw [11] (fun vk wq=>∃k:Nat,a<=k/\k<i/\vk=.int .i64 k/\PS N bp (Stab.rot d a (a+1) (k+1)) wq/\w.grownBy wq (some bp)/\wq.cell? ⟨w.heap.size,1,none⟩=some (SF h N bp cap)/\w.heap.size<wq.heap.size) (fun vk _=>i-(intOf vk).toNat)
    case atStart=>exact⟨a,VB _,by omega,rfl,by rw[Aa HA];exact Aa HW,Aa HWG,hcl,hzz⟩
    case round=>
     obtain⟨k,hk1,hk2,rfl,hPk,hg,hc1,hz⟩:=hrel;have HPk:=Ab hPk;have HG:=Ab hg;clear hPk hg
     by_cases hlt2:k<i-1
     . have hltI:(k:Int)<(i:Int)-1:=by omega
       have HU:=Ab (Stab.rot_up d a k hk1);generalize Stab.rot d a (a+1) (k+1)=dk at*;have hrun:=Ou N bp cap dk wr k (k+1) (by omega) (by omega) (Aa HPk);rw[<-Aa hh]at hrun;push_cast at hrun
       have HSW:=Ab ((Aa HPk).sw k (k+1) (by omega) (by omega));have hgs:=Pi wr bp dk k (k+1);have HGS:=Ab (Bf (Aa HG) hgs);have hc2:=hgs.cell hc1 (by simp;omega);have hz2:=VG hz hgs.size;clear hgs;generalize swW wr bp dk k (k+1)=w2 at*;go_wp2;go_roundw
       case rel=>exact⟨k+1,by omega,by omega,by go_num,by rw[<-Aa HU];exact Aa HSW,Aa HGS,hc2,hz2⟩
       case measure=>simp[intOf];omega
     . obtain rfl:k=i-1:=by omega
       have hno2:¬((i-1:Nat):Int)<(i:Int)-1:=by omega
       have ei:i-1+1=i:=by omega
       have HF:Hid (PS N bp (Stab.rot d a (a+1) i) wr):=by rw[ei]at HPk;exact HPk
       have hmv:=Ab ((Stab.moved_rot d a (a+1) i (by omega) (by omega)).wider (VB _) (by omega) hj);have sR':=Aa HS;rw[Aa hm]at sR' HLO;have hsr:=Ab (Stab.ins_first (by omega) hj sR' (Aa HLO) (Aa HHI));clear ei sR' HPk;go_wp2;refine bodyPost_ret (results_none rfl _ _ _) rfl ?_;exact⟨rfl,_,Aa HF,Aa hmv,Aa hsr,Aa HG⟩
set_option maxRecDepth 100000 in
theorem Xa (h:Value)(hh:Hid (h=typeHandle Tryz.prog 230))(N bp bx cap:Nat)(d:Nat->Int×Int)(a m b:Nat)(w:World)(hb1:Hid (b=m+1))(hN:N<=288)(ham:a+1<m)(hmb:m<b)(hb:b<=N)(hbp:bp<w.heap.size)(hbx:bx<w.heap.size)(hne:bx≠bp)
 (hbox:w.cell? ⟨bx,0,none⟩=some (.slice (some ⟨bp,0,none⟩) N cap)) (hP:PS N bp d w) (sL:Stab.Srt Stab.lx d a m) (hc:Stab.Cross d a m b):
 Calls Tryz.prog 226 #[.agg #[LF bx,SF h N bp cap],.int .i64 a,.int .i64 m,.int .i64 b] w fun e w'=>e=.returned (.tuple #[])/\∃d',PS N bp d' w'/\Stab.Moved a b d d'/\Stab.Srt Stab.lx d' a b/\w.grownBy w' (some bp):=by
 have HP:=Ab hP;have HS:=Ab sL;have HC:=Ab hc;have HBX:=Ab hbox;have hnot:((m:Int)-(a:Int)==1)=false:=by rw[beq_eq_false_iff_ne];omega
 have hone:((b:Int)-(m:Int)==1)=true:=by rw[beq_iff_eq];have:=Aa hb1;omega
 clear hP sL hc hbox;go_enter Tryz.func226,Tryz.ntmps226
 go_wp2;go_loopw [12,13,14] (fun vi vj vh wr=>∃i j q:Nat,a<=i/\i<=j/\j<=m/\vi=.int .i64 i/\vj=.int .i64 j/\(a<i->Stab.lx (d (i-1)) (d m))/\(j<m->Stab.lx (d m) (d j))/\wr=(w.alloc (.cells #[LF bx,SF h N bp cap] 277)).drewN q) (fun vi vj _ _=>(intOf vj).toNat-(intOf vi).toNat)
 case atStart=>exact⟨a,m,0,VB _,by omega,VB _,rfl,rfl,fun h=>by omega,fun h=>by omega,rfl⟩
 case round=>
  obtain⟨i,j,q,hi,hij,hj,rfl,rfl,hlo,hhi,rfl⟩:=hrel;have HLO:=Ab hlo;have HHI:=Ab hhi;clear hlo hhi
  by_cases hlt:i<j
  . obtain⟨c,hcc⟩:∃c,c=(i+j)/2:=⟨_,rfl⟩
    have hc1:i<=c:=by omega
    have hc2:c<j:=by omega
    have E:Hid (((i:Int)+(j:Int))/2=(c:Int)):=by unfold Hid;omega
    have hx:=Stab.cross_less (Aa HC c m (by omega) (by omega) (VB _) hmb);clear hcc;go_wp2_with fail
    rw[Aa E];refine(Pe N bp bx cap d _ m c (by omega) (by omega) hN (((Aa HP).alloc hbp _).drewN q) (by rw[World.cell?_drewN,World.cell?_alloc_past _ _ _ hbx];exact Aa HBX)).mono ?_;rintro e w2 ⟨rfl,q2,rfl⟩;rw[World.drewN_drewN]
    cases hd:decide ((d m).1<(d c).1)with
    |true=>
     have HX:=Ab (hx.1 hd);clear hx hd;go_wp2;go_roundw
     case rel=>exact⟨i,c,_,hi,by omega,by omega,rfl,rfl,Aa HLO,fun _=>Aa HX,rfl⟩
     case measure=>simp[intOf];omega
    |false=>
     have HX:=Ab (hx.2 hd);clear hx hd;go_wp2;go_roundw
     case rel=>exact⟨c+1,j,_,by omega,by omega,hj,by go_num,rfl,fun _=>Aa HX,Aa HHI,rfl⟩
     case measure=>simp[intOf];omega
  . obtain rfl:i=j:=by omega
    have hno:¬(i:Int)<(i:Int):=by omega
    have HA:Hid (Stab.rot d m m (m+1)=d):=Stab.rot_left d m (m+1);have HW:Hid (PS N bp d ((w.alloc (.cells #[LF bx,SF h N bp cap] 277)).drewN q)):=((Aa HP).alloc hbp _).drewN q;have HWG:Hid (w.grownBy ((w.alloc (.cells #[LF bx,SF h N bp cap] 277)).drewN q) (some bp)):=Fa (Bt (Bp _ _) _) q;have hcl:((w.alloc (.cells #[LF bx,SF h N bp cap] 277)).drewN q).cell? ⟨w.heap.size,1,none⟩=some (SF h N bp cap):=by simp
    have hzz:w.heap.size<((w.alloc (.cells #[LF bx,SF h N bp cap] 277)).drewN q).heap.size:=by simp
    generalize (w.alloc (.cells #[LF bx,SF h N bp cap] 277)).drewN q=w1 at*;go_wp2;go_loopw [15] (fun vk wq=>∃k:Nat,i<=k/\k<=m/\vk=.int .i64 k/\PS N bp (Stab.rot d k m (m+1)) wq/\w.grownBy wq (some bp)/\wq.cell? ⟨w.heap.size,1,none⟩=some (SF h N bp cap)/\w.heap.size<wq.heap.size) (fun vk _=>(intOf vk).toNat)
    case atStart=>exact⟨m,hj,VB _,rfl,by rw[Aa HA];exact Aa HW,Aa HWG,hcl,hzz⟩
    case round=>
     obtain⟨k,hk1,hk2,rfl,hPk,hg,hc1,hz⟩:=hrel;have HPk:=Ab hPk;have HG:=Ab hg;clear hPk hg
     by_cases hlt2:i<k
     . have HU:=Ab (Stab.rot_down d k m (by omega) hk2);generalize Stab.rot d k m (m+1)=dk at*;have hrun:=Ou N bp cap dk wr k (k-1) (by omega) (by omega) (Aa HPk);rw[<-Aa hh,show ((k-1:Nat):Int)=(k:Int)-1 by omega]at hrun;have HSW:=Ab ((Aa HPk).sw k (k-1) (by omega) (by omega));have hgs:=Pi wr bp dk k (k-1);have HGS:=Ab (Bf (Aa HG) hgs);have hc2:=hgs.cell hc1 (by simp;omega);have hz2:=VG hz hgs.size;clear hgs;generalize swW wr bp dk k (k-1)=w2 at*;go_wp2;go_roundw
       case rel=>exact⟨k-1,by omega,by omega,by go_num,by rw[<-Aa HU];exact Aa HSW,Aa HGS,hc2,hz2⟩
       case measure=>simp[intOf];omega
     . obtain rfl:k=i:=by omega
       have hno2:¬(k:Int)<(k:Int):=by omega
       have hmv0:=(Stab.moved_rot d k m (m+1) hk2 (by omega)).wider hi (by omega) (VB _);have hsr0:=Stab.ins_last hi hk2 (Aa HS) (Aa HLO) (Aa HHI);rw[<-Aa hb1]at hmv0 hsr0;have hmv:=Ab hmv0;have hsr:=Ab hsr0;rw[<-Aa hb1]at HPk;clear hmv0 hsr0;go_wp2;refine bodyPost_ret (results_none rfl _ _ _) rfl ?_;exact⟨rfl,_,Aa HPk,Aa hmv,Aa hsr,Aa HG⟩
def Q0 (h:Value)(N bp bx cap L:Nat):Prop:=∀(d:Nat->Int×Int) (a m b:Nat) (w:World),b-a<=L->a<m->m<b->b<=N->bp<w.heap.size->bx<w.heap.size->
 w.cell? ⟨bx,0,none⟩=some (.slice (some ⟨bp,0,none⟩) N cap)->PS N bp d w->Stab.Srt Stab.lx d a m->Stab.Srt Stab.lx d m b->Stab.Cross d a m b->
 Calls Tryz.prog 226 #[.agg #[LF bx,SF h N bp cap],.int .i64 a,.int .i64 m,.int .i64 b] w fun e w'=>e=.returned (.tuple #[])/\∃d',PS N bp d' w'/\Stab.Moved a b d d'/\Stab.Srt Stab.lx d' a b/\w.grownBy w' (some bp)
structure MSt (h:Value)(N bp bx cap:Nat)(w W:World)(D:Nat->Int×Int):Prop where
 ps:PS N bp D W
 grown:w.grownBy W (some bp)
 c0:W.cell? ⟨w.heap.size,0,none⟩=some (LF bx)
 c1:W.cell? ⟨w.heap.size,1,none⟩=some (SF h N bp cap)
 box:W.cell? ⟨bx,0,none⟩=some (.slice (some ⟨bp,0,none⟩) N cap)
 new:bp<w.heap.size
theorem MSt.next {h:Value}{N bp bx cap:Nat}{w W W':World}{D D':Nat->Int×Int}(s:MSt h N bp bx cap w W D)(hbx:bx<w.heap.size)(hne:bx≠bp)(p:PS N bp D' W')(g:W.grownBy W' (some bp)):MSt h N bp bx cap w W' D':=
 ⟨p,Bf s.grown g,g.cell s.c0 (by have:=s.new;simp;omega),g.cell s.c1 (by have:=s.new;simp;omega),g.cell s.box (by simpa using hne),s.new⟩
theorem Ko {D d1:Nat->Int×Int}{a st mid en b:Nat}(mp:(Stab.Srt Stab.lx D a st/\Stab.Srt Stab.lx D st mid/\Stab.Cross D a st mid)/\(Stab.Srt Stab.lx D mid en/\Stab.Srt Stab.lx D en b/\Stab.Cross D mid en b))(hm:Stab.Moved a mid D d1)(hen:mid<=en):
 Stab.Srt Stab.lx d1 mid en/\Stab.Srt Stab.lx d1 en b/\Stab.Cross d1 mid en b:=
 ⟨mp.2.1.congr (fun k hk _=>hm.out k (by omega)),mp.2.2.1.congr (fun k hk _=>hm.out k (by omega)),mp.2.2.2.congr (fun k hk _=>hm.out k (by omega))⟩
set_option maxRecDepth 100000 in
theorem Lh (h:Value)(hh:Hid (h=typeHandle Tryz.prog 230))(N bp bx cap L:Nat)(hIH:Hid (Q0 h N bp bx cap L))(d:Nat->Int×Int)(a m b mid lo hi:Nat)(w:World)(hN:N<=288)(hL:b-a<=L+1)(ham:a+1<m)(hmb:m+1<b)(hb:b<=N)(hbp:bp<w.heap.size)(hbx:bx<w.heap.size)(hne:bx≠bp)
 (hmid:Hid (mid=(a+b)/2)) (hway:Hid ((mid<m/\lo+b=mid+m/\hi=mid)\/ (m<=mid/\lo=a/\hi=m)))
 (hbox:w.cell? ⟨bx,0,none⟩=some (.slice (some ⟨bp,0,none⟩) N cap)) (hP:PS N bp d w) (sL:Stab.Srt Stab.lx d a m) (sR:Stab.Srt Stab.lx d m b) (hc:Stab.Cross d a m b):
 Calls Tryz.prog 226 #[.agg #[LF bx,SF h N bp cap],.int .i64 a,.int .i64 m,.int .i64 b] w fun e w'=>e=.returned (.tuple #[])/\∃d',PS N bp d' w'/\Stab.Moved a b d d'/\Stab.Srt Stab.lx d' a b/\w.grownBy w' (some bp):=by
 have HP:=Ab hP;have HSL:=Ab sL;have HSR:=Ab sR;have HC:=Ab hc;have HBX:=Ab hbox;have h1:((m:Int)-(a:Int)==1)=false:=by rw[beq_eq_false_iff_ne];omega
 have h2:((b:Int)-(m:Int)==1)=false:=by rw[beq_eq_false_iff_ne];omega
 have hlo:a<=lo/\lo<=hi/\hi<=m/\hi<=mid/\a<mid/\mid<b/\mid+m<=lo+b:=by have:=Aa hmid;have:=Aa hway;omega
 obtain⟨q1,q2,q3,q4,q5,q6,q7⟩:=hlo;have hmI:((a:Int)+(b:Int))/2=(mid:Int):=by have:=Aa hmid;omega
 have HMI:=Ab hmI;clear hP sL sR hc hbox hmI
 rcases Aa hway with ⟨v1,v2,v3⟩|⟨v1,v2,v3⟩
 case' inl=>have hcmp:((a:Int)+(b:Int))/2<(m:Int):=by rw[Aa HMI];omega
 case' inr=>have hcmp:¬((a:Int)+(b:Int))/2<(m:Int):=by rw[Aa HMI];omega
 all_goals
  have V2:=Ab v2;have V3:=Ab v3;clear v2 v3;go_enter Tryz.func226,Tryz.ntmps226
  go_wp2;go_loopw [18,19,21] (fun vi vj vh wr=>∃st r q:Nat,lo<=st/\st<=r/\r<=hi/\vi=.int .i64 st/\vj=.int .i64 r/\(lo<st->Stab.lx (d (st-1)) (d (mid+m-st)))/\(r<hi->Stab.lx (d (mid+m-1-r)) (d r))/\wr=(w.alloc (.cells #[LF bx,SF h N bp cap] 277)).drewN q) (fun vi vj _ _=>(intOf vj).toNat-(intOf vi).toNat)
  case atStart=>exact⟨lo,hi,0,VB _,q2,VB _,congrArg (Value.int .i64) (by have:=Aa V2;have:=Aa HMI;omega),congrArg (Value.int .i64) (by have:=Aa V3;have:=Aa HMI;omega),fun h=>by omega,fun h=>by omega,rfl⟩
  case round=>
   obtain⟨st,r,q,hi1,hij,hj,rfl,rfl,hlo,hhi,rfl⟩:=hrel;have HLO:=Ab hlo;have HHI:=Ab hhi;clear hlo hhi
   by_cases hlt:st<r
   . obtain⟨c,hcc⟩:∃c,c=(st+r)/2:=⟨_,rfl⟩
     have hc1:st<=c:=by omega
     have hc2:c<r:=by omega
     have E:Hid (((st:Int)+(r:Int))/2=(c:Int)):=by unfold Hid;omega
     have E2:Hid (((a:Int)+(b:Int))/2+(m:Int)-1-(c:Int)=((mid+m-1-c:Nat):Int)):=by unfold Hid;have:=Aa HMI;omega
     have hx:=Stab.cross_less (Aa HC c (mid+m-1-c) (by omega) (by omega) (by omega) (by omega));clear hcc;go_wp2_with fail
     rw[Aa E,Aa E2];refine(Pe N bp bx cap d _ (mid+m-1-c) c (by omega) (by omega) hN (((Aa HP).alloc hbp _).drewN q) (by rw[World.cell?_drewN,World.cell?_alloc_past _ _ _ hbx];exact Aa HBX)).mono ?_;rintro e w2 ⟨rfl,q2,rfl⟩;rw[World.drewN_drewN]
     cases hd:decide ((d (mid+m-1-c)).1<(d c).1)with
     |true=>
      have HX:=Ab (hx.1 hd);clear hx hd;go_wp2;go_roundw
      case rel=>exact⟨st,c,_,hi1,hc1,by omega,rfl,rfl,Aa HLO,fun _=>Aa HX,rfl⟩
      case measure=>simp[intOf];omega
     |false=>
      have HX:=Ab (hx.2 hd);have ee:Hid (mid+m-(c+1)=mid+m-1-c):=by unfold Hid;omega
      clear hx hd;go_wp2;go_roundw
      case rel=>exact⟨c+1,r,_,by omega,by omega,hj,by go_num,rfl,fun _=>by rw[Aa ee];exact Aa HX,Aa HHI,rfl⟩
      case measure=>simp[intOf];omega
   . obtain rfl:st=r:=by omega
     have hno:¬(st:Int)<(st:Int):=by omega
     obtain⟨en,hen⟩:∃en,en+st=mid+m:=⟨mid+m-st,by omega⟩
     have hEN:(mid:Int)+(m:Int)-(st:Int)=(en:Int):=by omega
     have hmm:mid+m=st+en:=by omega
     have hen1:m<=en:=by have:=Aa hway;omega
     have hen2:en<=b:=by omega
     have hen3:mid<=en:=by omega
     have MP:=Ab (Stab.merge_parts (show a<=st by omega) (show st<=m by omega) hen1 hen2 hmm (Aa HSL) (Aa HSR) (Aa HC))
     have CL:Hid (a<st->en<b->Stab.lx (d (st-1)) (d en)):=fun c1 c2=>by
      have h:=Aa HLO (by have:=Aa V2;have:=Aa hway;omega);rw[show mid+m-st=en by omega]at h;exact h
     have CR:Hid (st<m->m<en->Stab.lx (d (en-1)) (d st)):=fun c1 c2=>by
      have h:=Aa HHI (by have:=Aa V3;have:=Aa hway;omega);rw[show mid+m-1-st=en-1 by omega]at h;exact h
     have S0:Hid (MSt h N bp bx cap w ((w.alloc (.cells #[LF bx,SF h N bp cap] 277)).drewN q) d):=⟨((Aa HP).alloc hbp _).drewN q,Fa (Bt (Bp _ _) _) q,by rw[World.cell?_drewN];simp,by rw[World.cell?_drewN];simp,by rw[World.cell?_drewN,World.cell?_alloc_past _ _ _ hbx];exact Aa HBX,hbp⟩
     have ca0:=(Aa S0).c0;have cb0:=(Aa S0).c1;rw[Aa HMI];generalize (w.alloc (.cells #[LF bx,SF h N bp cap] 277)).drewN q=w0 at*;have ww:(st<m/\m<en/\a<st/\en<b/\st<mid/\mid<en)\/ (st<m/\m<en/\a<st/\en=b/\st<mid/\mid<en)\/ (st<m/\m<en/\st=a/\en<b/\st<mid/\mid<en)\/ (st<m/\m<en/\st=a/\en=b/\st<mid/\mid<en)\/ (st=m/\en=mid/\a<st/\st<mid)\/ (st=m/\en=mid/\a<st/\st=mid)\/ (st<m/\en=m/\st=mid/\a<st/\mid<en/\en<b):=by omega
     clear HLO HHI hen
     rcases ww with ww|ww|ww|ww|ww|ww|ww
     . have k1:(st:Int)<(m:Int):=by omega
       have k2:(m:Int)<(en:Int):=by omega
       have l1:(a:Int)<(st:Int):=by omega
       have l2:(st:Int)<(mid:Int):=by omega
       have n1:(mid:Int)<(en:Int):=by omega
       have n2:(en:Int)<(b:Int):=by omega
       have WW:=Ab ww;clear ww;go_wp2_with fail
       refine(Jv h hh N bp bx cap d st m en _ hN (by have:=Aa WW;omega) (by have:=Aa WW;omega) (by have:=Aa WW;omega) (VG hbp (Aa S0).grown.size) (Aa S0).ps).mono ?_;rintro e w1 ⟨rfl,p1,g1⟩;have S1:=Ab ((Aa S0).next hbx hne p1 g1);have ca1:=(Aa S1).c0;have cb1:=(Aa S1).c1;clear p1 g1;go_wp2_with fail
       refine(Aa hIH (Stab.rot d st m en) a st mid _ (by have:=Aa WW;omega) (by have:=Aa WW;omega) (by have:=Aa WW;omega) (by have:=Aa WW;omega) (VG hbp (Aa S1).grown.size) (VG hbx (Aa S1).grown.size) (Aa S1).box (Aa S1).ps (Aa MP).1.1 (Aa MP).1.2.1 (Aa MP).1.2.2).mono ?_;rintro e w2 ⟨rfl,d1,p2,m1,s1,g2⟩;have S2:=Ab ((Aa S1).next hbx hne p2 g2);have MM1:=Ab m1;have SS1:=Ab s1;have ca2:=(Aa S2).c0;have cb2:=(Aa S2).c1;clear p2 g2 m1 s1;have MP2:=Ab (Ko (Aa MP) (Aa MM1) hen3);go_wp2_with fail
       refine(Aa hIH d1 mid en b _ (by have:=Aa WW;omega) (by have:=Aa WW;omega) (by have:=Aa WW;omega) (by have:=Aa WW;omega) (VG hbp (Aa S2).grown.size) (VG hbx (Aa S2).grown.size) (Aa S2).box (Aa S2).ps (Aa MP2).1 (Aa MP2).2.1 (Aa MP2).2.2).mono ?_;rintro e w3 ⟨rfl,d2,p3,m2,s2,g3⟩;have S3:=Ab ((Aa S2).next hbx hne p3 g3);have MM2:=Ab m2;have SS2:=Ab s2;clear p3 g3 m2 s2;have FIN:=Ab (Stab.merge_step Stab.lx_trans (by have:=Aa WW;omega) (by have:=Aa WW;omega) (by have:=Aa WW;omega) (by have:=Aa WW;omega) hmm (Aa HSL) (Aa HSR) (Aa CL) (Aa CR) (Aa MM1) (Aa SS1) (Aa MM2) (Aa SS2));go_wp2
       all_goals (go_end0;exact⟨rfl,d2,(Aa S3).ps,(Aa FIN).2,(Aa FIN).1,(Aa S3).grown⟩)
     . have k1:(st:Int)<(m:Int):=by omega
       have k2:(m:Int)<(en:Int):=by omega
       have l1:(a:Int)<(st:Int):=by omega
       have l2:(st:Int)<(mid:Int):=by omega
       have n1:(mid:Int)<(en:Int):=by omega
       have n2:¬(en:Int)<(b:Int):=by omega
       have WW:=Ab ww;clear ww;go_wp2_with fail
       refine(Jv h hh N bp bx cap d st m en _ hN (by have:=Aa WW;omega) (by have:=Aa WW;omega) (by have:=Aa WW;omega) (VG hbp (Aa S0).grown.size) (Aa S0).ps).mono ?_;rintro e w1 ⟨rfl,p1,g1⟩;have S1:=Ab ((Aa S0).next hbx hne p1 g1);have ca1:=(Aa S1).c0;have cb1:=(Aa S1).c1;clear p1 g1;go_wp2_with fail
       refine(Aa hIH (Stab.rot d st m en) a st mid _ (by have:=Aa WW;omega) (by have:=Aa WW;omega) (by have:=Aa WW;omega) (by have:=Aa WW;omega) (VG hbp (Aa S1).grown.size) (VG hbx (Aa S1).grown.size) (Aa S1).box (Aa S1).ps (Aa MP).1.1 (Aa MP).1.2.1 (Aa MP).1.2.2).mono ?_;rintro e w2 ⟨rfl,d1,p2,m1,s1,g2⟩;have S2:=Ab ((Aa S1).next hbx hne p2 g2);have MM1:=Ab m1;have SS1:=Ab s1;have ca2:=(Aa S2).c0;have cb2:=(Aa S2).c1;clear p2 g2 m1 s1;have MP2:=Ab (Ko (Aa MP) (Aa MM1) hen3);have S3:=S2;obtain⟨d2,hd2⟩:∃d2,d2=d1:=⟨_,rfl⟩
       rw[<-hd2]at S3;have MM2:Hid (Stab.Moved mid b d1 d2):=by rw[hd2];exact Stab.Moved.refl _ _ _
       have SS2:Hid (Stab.Srt Stab.lx d2 mid b):=by rw[hd2];exact(Aa MP2).1.sub (VB _) (by have:=Aa WW;omega)
       clear hd2;have FIN:=Ab (Stab.merge_step Stab.lx_trans (by have:=Aa WW;omega) (by have:=Aa WW;omega) (by have:=Aa WW;omega) (by have:=Aa WW;omega) hmm (Aa HSL) (Aa HSR) (Aa CL) (Aa CR) (Aa MM1) (Aa SS1) (Aa MM2) (Aa SS2));go_wp2
       all_goals (go_end0;exact⟨rfl,d2,(Aa S3).ps,(Aa FIN).2,(Aa FIN).1,(Aa S3).grown⟩)
     . have k1:(st:Int)<(m:Int):=by omega
       have k2:(m:Int)<(en:Int):=by omega
       have l1:¬(a:Int)<(st:Int):=by omega
       have n1:(mid:Int)<(en:Int):=by omega
       have n2:(en:Int)<(b:Int):=by omega
       have WW:=Ab ww;clear ww;go_wp2_with fail
       refine(Jv h hh N bp bx cap d st m en _ hN (by have:=Aa WW;omega) (by have:=Aa WW;omega) (by have:=Aa WW;omega) (VG hbp (Aa S0).grown.size) (Aa S0).ps).mono ?_;rintro e w1 ⟨rfl,p1,g1⟩;have S1:=Ab ((Aa S0).next hbx hne p1 g1);have ca1:=(Aa S1).c0;have cb1:=(Aa S1).c1;clear p1 g1;have S2:=S1;obtain⟨d1,hd1⟩:∃d1,d1=Stab.rot d st m en:=⟨_,rfl⟩
       rw[<-hd1]at S2;have MM1:Hid (Stab.Moved a mid (Stab.rot d st m en) d1):=by rw[hd1];exact Stab.Moved.refl _ _ _
       have SS1:Hid (Stab.Srt Stab.lx d1 a mid):=by rw[hd1];exact(Aa MP).1.2.1.sub (by have:=Aa WW;omega) (VB _)
       clear hd1;have MP2:=Ab (Ko (Aa MP) (Aa MM1) hen3);go_wp2_with fail
       refine(Aa hIH d1 mid en b _ (by have:=Aa WW;omega) (by have:=Aa WW;omega) (by have:=Aa WW;omega) (by have:=Aa WW;omega) (VG hbp (Aa S2).grown.size) (VG hbx (Aa S2).grown.size) (Aa S2).box (Aa S2).ps (Aa MP2).1 (Aa MP2).2.1 (Aa MP2).2.2).mono ?_;rintro e w3 ⟨rfl,d2,p3,m2,s2,g3⟩;have S3:=Ab ((Aa S2).next hbx hne p3 g3);have MM2:=Ab m2;have SS2:=Ab s2;clear p3 g3 m2 s2;have FIN:=Ab (Stab.merge_step Stab.lx_trans (by have:=Aa WW;omega) (by have:=Aa WW;omega) (by have:=Aa WW;omega) (by have:=Aa WW;omega) hmm (Aa HSL) (Aa HSR) (Aa CL) (Aa CR) (Aa MM1) (Aa SS1) (Aa MM2) (Aa SS2));go_wp2
       all_goals (go_end0;exact⟨rfl,d2,(Aa S3).ps,(Aa FIN).2,(Aa FIN).1,(Aa S3).grown⟩)
     . have k1:(st:Int)<(m:Int):=by omega
       have k2:(m:Int)<(en:Int):=by omega
       have l1:¬(a:Int)<(st:Int):=by omega
       have n1:(mid:Int)<(en:Int):=by omega
       have n2:¬(en:Int)<(b:Int):=by omega
       have WW:=Ab ww;clear ww;go_wp2_with fail
       refine(Jv h hh N bp bx cap d st m en _ hN (by have:=Aa WW;omega) (by have:=Aa WW;omega) (by have:=Aa WW;omega) (VG hbp (Aa S0).grown.size) (Aa S0).ps).mono ?_;rintro e w1 ⟨rfl,p1,g1⟩;have S1:=Ab ((Aa S0).next hbx hne p1 g1);have ca1:=(Aa S1).c0;have cb1:=(Aa S1).c1;clear p1 g1;have S2:=S1;obtain⟨d1,hd1⟩:∃d1,d1=Stab.rot d st m en:=⟨_,rfl⟩
       rw[<-hd1]at S2;have MM1:Hid (Stab.Moved a mid (Stab.rot d st m en) d1):=by rw[hd1];exact Stab.Moved.refl _ _ _
       have SS1:Hid (Stab.Srt Stab.lx d1 a mid):=by rw[hd1];exact(Aa MP).1.2.1.sub (by have:=Aa WW;omega) (VB _)
       clear hd1;have MP2:=Ab (Ko (Aa MP) (Aa MM1) hen3);have S3:=S2;obtain⟨d2,hd2⟩:∃d2,d2=d1:=⟨_,rfl⟩
       rw[<-hd2]at S3;have MM2:Hid (Stab.Moved mid b d1 d2):=by rw[hd2];exact Stab.Moved.refl _ _ _
       have SS2:Hid (Stab.Srt Stab.lx d2 mid b):=by rw[hd2];exact(Aa MP2).1.sub (VB _) (by have:=Aa WW;omega)
       clear hd2;have FIN:=Ab (Stab.merge_step Stab.lx_trans (by have:=Aa WW;omega) (by have:=Aa WW;omega) (by have:=Aa WW;omega) (by have:=Aa WW;omega) hmm (Aa HSL) (Aa HSR) (Aa CL) (Aa CR) (Aa MM1) (Aa SS1) (Aa MM2) (Aa SS2));go_wp2
       all_goals (go_end0;exact⟨rfl,d2,(Aa S3).ps,(Aa FIN).2,(Aa FIN).1,(Aa S3).grown⟩)
     . have k1:¬(st:Int)<(m:Int):=by omega
       have l1:(a:Int)<(st:Int):=by omega
       have l2:(st:Int)<(mid:Int):=by omega
       have n1:¬(mid:Int)<(en:Int):=by omega
       have WW:=Ab ww;clear ww;have S1:Hid (MSt h N bp bx cap w w0 (Stab.rot d st m en)):=by rw[show Stab.rot d st m en=d from by rw[show st=m by have:=Aa WW;omega];exact Stab.rot_left d m en];exact Aa S0
       have ca1:=(Aa S1).c0;have cb1:=(Aa S1).c1;go_wp2_with fail
       refine(Aa hIH (Stab.rot d st m en) a st mid _ (by have:=Aa WW;omega) (by have:=Aa WW;omega) (by have:=Aa WW;omega) (by have:=Aa WW;omega) (VG hbp (Aa S1).grown.size) (VG hbx (Aa S1).grown.size) (Aa S1).box (Aa S1).ps (Aa MP).1.1 (Aa MP).1.2.1 (Aa MP).1.2.2).mono ?_;rintro e w2 ⟨rfl,d1,p2,m1,s1,g2⟩;have S2:=Ab ((Aa S1).next hbx hne p2 g2);have MM1:=Ab m1;have SS1:=Ab s1;have ca2:=(Aa S2).c0;have cb2:=(Aa S2).c1;clear p2 g2 m1 s1;have MP2:=Ab (Ko (Aa MP) (Aa MM1) hen3);have S3:=S2;obtain⟨d2,hd2⟩:∃d2,d2=d1:=⟨_,rfl⟩
       rw[<-hd2]at S3;have MM2:Hid (Stab.Moved mid b d1 d2):=by rw[hd2];exact Stab.Moved.refl _ _ _
       have SS2:Hid (Stab.Srt Stab.lx d2 mid b):=by rw[hd2];exact(Aa MP2).2.1.sub (by have:=Aa WW;omega) (VB _)
       clear hd2;have FIN:=Ab (Stab.merge_step Stab.lx_trans (by have:=Aa WW;omega) (by have:=Aa WW;omega) (by have:=Aa WW;omega) (by have:=Aa WW;omega) hmm (Aa HSL) (Aa HSR) (Aa CL) (Aa CR) (Aa MM1) (Aa SS1) (Aa MM2) (Aa SS2));go_wp2
       all_goals (go_end0;exact⟨rfl,d2,(Aa S3).ps,(Aa FIN).2,(Aa FIN).1,(Aa S3).grown⟩)
     . have k1:¬(st:Int)<(m:Int):=by omega
       have l1:(a:Int)<(st:Int):=by omega
       have l2:¬(st:Int)<(mid:Int):=by omega
       have n1:¬(mid:Int)<(en:Int):=by omega
       have WW:=Ab ww;clear ww;have S1:Hid (MSt h N bp bx cap w w0 (Stab.rot d st m en)):=by rw[show Stab.rot d st m en=d from by rw[show st=m by have:=Aa WW;omega];exact Stab.rot_left d m en];exact Aa S0
       have ca1:=(Aa S1).c0;have cb1:=(Aa S1).c1;have S2:=S1;obtain⟨d1,hd1⟩:∃d1,d1=Stab.rot d st m en:=⟨_,rfl⟩
       rw[<-hd1]at S2;have MM1:Hid (Stab.Moved a mid (Stab.rot d st m en) d1):=by rw[hd1];exact Stab.Moved.refl _ _ _
       have SS1:Hid (Stab.Srt Stab.lx d1 a mid):=by rw[hd1];exact(Aa MP).1.1.sub (VB _) (by have:=Aa WW;omega)
       clear hd1;have MP2:=Ab (Ko (Aa MP) (Aa MM1) hen3);have S3:=S2;obtain⟨d2,hd2⟩:∃d2,d2=d1:=⟨_,rfl⟩
       rw[<-hd2]at S3;have MM2:Hid (Stab.Moved mid b d1 d2):=by rw[hd2];exact Stab.Moved.refl _ _ _
       have SS2:Hid (Stab.Srt Stab.lx d2 mid b):=by rw[hd2];exact(Aa MP2).2.1.sub (by have:=Aa WW;omega) (VB _)
       clear hd2;have FIN:=Ab (Stab.merge_step Stab.lx_trans (by have:=Aa WW;omega) (by have:=Aa WW;omega) (by have:=Aa WW;omega) (by have:=Aa WW;omega) hmm (Aa HSL) (Aa HSR) (Aa CL) (Aa CR) (Aa MM1) (Aa SS1) (Aa MM2) (Aa SS2));go_wp2
       all_goals (go_end0;exact⟨rfl,d2,(Aa S3).ps,(Aa FIN).2,(Aa FIN).1,(Aa S3).grown⟩)
     . have k1:(st:Int)<(m:Int):=by omega
       have k2:¬(m:Int)<(en:Int):=by omega
       have l1:(a:Int)<(st:Int):=by omega
       have l2:¬(st:Int)<(mid:Int):=by omega
       have n1:(mid:Int)<(en:Int):=by omega
       have n2:(en:Int)<(b:Int):=by omega
       have WW:=Ab ww;clear ww;have S1:Hid (MSt h N bp bx cap w w0 (Stab.rot d st m en)):=by rw[show Stab.rot d st m en=d from by rw[show en=m by have:=Aa WW;omega];exact Stab.rot_right d st m];exact Aa S0
       have ca1:=(Aa S1).c0;have cb1:=(Aa S1).c1;have S2:=S1;obtain⟨d1,hd1⟩:∃d1,d1=Stab.rot d st m en:=⟨_,rfl⟩
       rw[<-hd1]at S2;have MM1:Hid (Stab.Moved a mid (Stab.rot d st m en) d1):=by rw[hd1];exact Stab.Moved.refl _ _ _
       have SS1:Hid (Stab.Srt Stab.lx d1 a mid):=by rw[hd1];exact(Aa MP).1.1.sub (VB _) (by have:=Aa WW;omega)
       clear hd1;have MP2:=Ab (Ko (Aa MP) (Aa MM1) hen3);go_wp2_with fail
       refine(Aa hIH d1 mid en b _ (by have:=Aa WW;omega) (by have:=Aa WW;omega) (by have:=Aa WW;omega) (by have:=Aa WW;omega) (VG hbp (Aa S2).grown.size) (VG hbx (Aa S2).grown.size) (Aa S2).box (Aa S2).ps (Aa MP2).1 (Aa MP2).2.1 (Aa MP2).2.2).mono ?_;rintro e w3 ⟨rfl,d2,p3,m2,s2,g3⟩;have S3:=Ab ((Aa S2).next hbx hne p3 g3);have MM2:=Ab m2;have SS2:=Ab s2;clear p3 g3 m2 s2;have FIN:=Ab (Stab.merge_step Stab.lx_trans (by have:=Aa WW;omega) (by have:=Aa WW;omega) (by have:=Aa WW;omega) (by have:=Aa WW;omega) hmm (Aa HSL) (Aa HSR) (Aa CL) (Aa CR) (Aa MM1) (Aa SS1) (Aa MM2) (Aa SS2));go_wp2
       all_goals (go_end0;exact⟨rfl,d2,(Aa S3).ps,(Aa FIN).2,(Aa FIN).1,(Aa S3).grown⟩)
end Go.Proofs.YtleocpdblhbimaaGreatDoor
