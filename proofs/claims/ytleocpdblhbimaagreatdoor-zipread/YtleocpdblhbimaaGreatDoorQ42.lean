import Derived.Test.YtleocpdblhbimaaGreatDoorQ1
import Derived.Lib.ReflectliteSwap
import Derived.Laws.IdiomCopy
set_option linter.unusedSimpArgs false
set_option linter.unusedVariables false
set_option maxHeartbeats 4000000
namespace Go.Proofs.YtleocpdblhbimaaGreatDoor
open Go.RowKit
def PS (N bp:Nat)(d:Nat->Int×Int)(W:World):Prop:=
 ∀k,k<N->(W.cell? ⟨bp,k*2,none⟩=some (.int .i64 (d k).1)/\W.frozen? ⟨bp,k*2,none⟩=false)/\(W.cell? ⟨bp,k*2+1,none⟩=some (.int .i64 (d k).2)/\W.frozen? ⟨bp,k*2+1,none⟩=false)
theorem Pe (N F G M:Nat)(d:Nat->Int×Int)(W:World)(i j:Nat)(H:i<N)(I:j<N)(U:N<=288)(E:PS N F d W)(Y:W.cell? ⟨G,0,none⟩=some (.slice (some ⟨F,0,none⟩) N M)):Calls Tryz.prog 163 #[.int .i64 i,.int .i64 j,.pointer (some ⟨G,0,none⟩)] W fun e w'=>e=.returned (.bool (decide ((d i).1<(d j).1)))/\∃q,w'=W.drewN q:=by have c1:=(E i H).1.1;have c2:=(E j I).1.1;generalize (d i).1=x at*;generalize (d j).1=y at*;have T:(i:Int)<(N:Int):=om;have O:(j:Int)<(N:Int):=om;clear E;go_enter Tryz.func163,Tryz.ntmps163;go_wp2;go_quiet (fail);go_wp2;go_ret;exact⟨rfl,_,rfl⟩
def swW (W:World)(bp:Nat)(d:Nat->Int×Int)(i j:Nat):World:=
 (W.setCells bp (0+i*2) [.int .i64 (d j).1,.int .i64 (d j).2]).setCells bp (0+j*2) [.int .i64 (d i).1,.int .i64 (d i).2]
theorem Z84:(Tryz.prog.info? 230).map (·.size)=some 2:=oR
theorem Z9l (w:World):(isAgg 230).run Tryz.prog w=.ok true w:=oR
theorem Ou (N O T:Nat)(d:Nat->Int×Int)(W:World)(i j:Nat)(H:i<N)(M:j<N)(F:PS N O d W):(callFunc 224 #[.int .i64 i,.int .i64 j,.slice (some ⟨O,0,none⟩) N T,typeHandle Tryz.prog 230]).run Tryz.prog W=.ok (.value (.tuple #[])) (swW W O d i j):=by
 obtain⟨U,Y,G⟩:=XF.1 Z84
 have h:=Lib.run_swap_cells (P:=Tryz.prog) false 230 U Y Z9l O 0 N T i j H M [.int .i64 (d i).1,.int .i64 (d i).2] [.int .i64 (d j).1,.int .i64 (d j).2] (by rw[G];rfl) (by rw[G];rfl)
  (by intro v I;simp at I;rcases I with rfl|rfl<;>rfl) (by intro v I;simp at I;rcases I with rfl|rfl<;>rfl) W
  (by intro k v E;rw[G];match k,E with
   |0,E=>simp at E;subst E;simpa using (F i H).1.1
   |1,E=>simp at E;subst E;simpa using (F i H).2.1)
  (by intro k v E;rw[G];match k,E with
   |0,E=>simp at E;subst E;simpa using (F j M).1.1
   |1,E=>simp at E;subst E;simpa using (F j M).2.1)
  (by rw[G];intro k E;match k,E with
   |0,_=>simpa using (F i H).1.2
   |1,_=>simpa using (F i H).2.2)
  (by rw[G];intro k E;match k,E with
   |0,_=>simpa using (F j M).1.2
   |1,_=>simpa using (F j M).2.2)
 rw[run_callFunc_extern Tryz.func224 oR oR oR (e:=Extern.ReflectliteSwapper.swap false) oR,h,G];rfl
theorem Bp (w:World)(r:Option Nat):w.grownBy w r:=⟨rfl,rfl,rfl,VB _,fun _ _ _=>rfl⟩
theorem Bf {a b c:World}{r:Option Nat}(E:a.grownBy b r)(k:b.grownBy c r):a.grownBy c r:=
 ⟨k.os.trans E.os,k.tape.trans E.tape,k.output.trans E.output,VU E.size k.size,fun i hi hr=>(k.block i (VG hi E.size) hr).trans (E.block i hi hr)⟩
theorem Fa {a b:World}{r:Option Nat}(E:a.grownBy b r)(n:Nat):a.grownBy (b.drewN n) r:=⟨E.os,E.tape,E.output,E.size,E.block⟩
theorem Bt {a b:World}{r:Option Nat}(E:a.grownBy b r)(o:Obj):a.grownBy (b.alloc o) r:=Bf E (World.grownBy_alloc b o r)
theorem GQ (w:World)(b i:Nat)(v:Value):w.grownBy (w.setCell ⟨b,i,none⟩ v) (some b):=
 ⟨rfl,rfl,rfl,oS,fun k _ E=>heap_setCell_other w ⟨b,i,none⟩ k v (fun e=>E (by simp[e]))⟩
theorem Ji (b:Nat):∀(E:List Value) (o:Nat) (w:World),w.grownBy (w.setCells b o E) (some b)
 | [],o,w=>Bp _ _
 |v::E,o,w=>Bf (GQ w b o v) (Ji b E (o+1) _)
theorem Pi (W:World)(E:Nat)(d:Nat->Int×Int)(i j:Nat):W.grownBy (swW W E d i j) (some E):=Bf (Ji E _ _ W) (Ji E _ _ _)
theorem KP {W:World}{E o:Nat}{x y:Value}(I:(W.cell? ⟨E,o,none⟩).isSome=true)(G:(W.cell? ⟨E,o+1,none⟩).isSome=true):(W.setCells E o [x,y]).cell? ⟨E,o,none⟩=some x/\(W.setCells E o [x,y]).cell? ⟨E,o+1,none⟩=some y:=by
 have F:∀j,j< [x,y].length->(W.cell? ⟨E,o+j,none⟩).isSome=true:=by
  intro j H
  match j,H with
  |0,_=>exact I
  |1,_=>exact G
 exact⟨World.cell?_setCells_in E [x,y] o W F 0 oS,World.cell?_setCells_in E [x,y] o W F 1 oS⟩
theorem Nc {W:World}{E o k:Nat}{x y:Value}(F:k<o\/o+2<=k):(W.setCells E o [x,y]).cell? ⟨E,k,none⟩=W.cell? ⟨E,k,none⟩:=
 World.cell?_setCells_out E [x,y] o W ⟨E,k,none⟩ (fun _ _=>by simpa using F)
theorem PS.sw {N E:Nat}{d:Nat->Int×Int}{W:World}(M:PS N E d W)(i j:Nat)(T:i<N)(U:j<N):PS N E (Stab.swp d i j) (swW W E d i j):=by intro k G;obtain⟨⟨c0,f0⟩,c1,f1⟩:=M k G;unfold swW;simp only[WG,World.frozen?_setCells,f0,f1,and_true];have H:∀q,q<N->(W.cell? ⟨E,q*2,none⟩).isSome=true/\(W.cell? ⟨E,q*2+1,none⟩).isSome=true:=fun q F=>⟨by rw[(M q F).1.1];rfl,by rw[(M q F).2.1];rfl⟩;(have O:∀q,q<N->((W.setCells E (i*2) [.int .i64 (d j).1,.int .i64 (d j).2]).cell? ⟨E,q*2,none⟩).isSome=true/\((W.setCells E (i*2) [.int .i64 (d j).1,.int .i64 (d j).2]).cell? ⟨E,q*2+1,none⟩).isSome=true:=by intro q F;by_cases e:q=i;subst e;have:=KP (x:=.int .i64 (d j).1) (y:=.int .i64 (d j).2) (H q F).1 (H q F).2;exact⟨by rw[this.1];rfl,by rw[this.2];rfl⟩;rw[Nc (o:=i*2) (k:=q*2) om,Nc (o:=i*2) (k:=q*2+1) om];exact H q F);unfold Stab.swp;by_cases e2:k=j;subst e2;have:=KP (x:=.int .i64 (d i).1) (y:=.int .i64 (d i).2) (O k G).1 (O k G).2;by_cases I:k=i;subst I;rw[if_pos rfl];exact this;rw[if_neg I,if_pos rfl];exact this;rw[Nc (o:=j*2) (k:=k*2) om,Nc (o:=j*2) (k:=k*2+1) om];by_cases I:k=i;subst I;rw[if_pos rfl];exact KP (x:=.int .i64 (d j).1) (y:=.int .i64 (d j).2) (H k G).1 (H k G).2;rw[if_neg I,if_neg e2,Nc (o:=i*2) (k:=k*2) om,Nc (o:=i*2) (k:=k*2+1) om];exact⟨c0,c1⟩
theorem PS.kept {N E:Nat}{d:Nat->Int×Int}{W W':World}(H:PS N E d W)(G:W.grownBy W' none)(I:E<W.heap.size):PS N E d W':=by intro k F;obtain⟨⟨c0,f0⟩,c1,f1⟩:=H k F;have e:=G.block E I oS;exact⟨⟨by rw[World.cell?_of_block (w:=W) (a:=⟨E,k*2,none⟩) e];exact c0,by rw[World.frozen?_of_block (w:=W) (a:=⟨E,k*2,none⟩) e];exact f0⟩,by rw[World.cell?_of_block (w:=W) (a:=⟨E,k*2+1,none⟩) e];exact c1,by rw[World.frozen?_of_block (w:=W) (a:=⟨E,k*2+1,none⟩) e];exact f1⟩
theorem PS.drewN {N E:Nat}{d:Nat->Int×Int}{W:World}(F:PS N E d W)(n:Nat):PS N E d (W.drewN n):=F
theorem PS.alloc {N E:Nat}{d:Nat->Int×Int}{W:World}(F:PS N E d W)(G:E<W.heap.size)(o:Obj):PS N E d (W.alloc o):=F.kept (World.grownBy_alloc W o none) G
abbrev LF (bx:Nat):Value:=.func (.func 163) #[] #[.pointer (some ⟨bx,0,none⟩)]
abbrev SF (h:Value)(N bp cap:Nat):Value:=.func (.func 224) #[] #[.slice (some ⟨bp,0,none⟩) N cap,h]
theorem Hr (I:Value)(ai:Hid (I=typeHandle Tryz.prog 230))(N E al O:Nat)(d:Nat->Int×Int)(a b n:Nat)(w:World)(ap:N<=288)(av:a+n<=N)(ar:b+n<=N)(ah:E<w.heap.size)(Y:PS N E d w):Calls Tryz.prog 264 #[.agg #[LF al,SF I N E O],.int .i64 a,.int .i64 b,.int .i64 n] w fun e w'=>e=.returned (.tuple #[])/\PS N E (Stab.swr d a b n) w'/\w.grownBy w' (some E):=by have af:=Ab Y;clear Y;go_enter Tryz.func264,Tryz.ntmps264;go_wp2;go_loopw [8] (fun G wr=>∃i:Nat,i<=n/\G=.int .i64 i/\PS N E (Stab.swr d a b i) wr/\w.grownBy wr (some E)/\wr.cell? ⟨w.heap.size,1,none⟩=some (SF I N E O)/\w.heap.size<wr.heap.size) (fun G _=>n-(intOf G).toNat);(case atStart=>exact⟨0,VH _,rfl,(Aa af).alloc ah _,Bt (Bp _ _) _,oS,oS⟩);case round=>obtain⟨i,hi,rfl,U,aa,hc,ao⟩:=hrel;have M:=Ab U;have T:=Ab aa;have ae:Hid (Stab.swr d a b (i+1)=Stab.swp (Stab.swr d a b i) (a+i) (b+i)):=rfl;clear U aa;by_cases aw:i<n;(. generalize Stab.swr d a b i=H at*;have Z:=Ou N E O H wr (a+i) (b+i) om om (Aa M);rw[<-Aa ai]at Z;push_cast at Z;have ac:=Ab ((Aa M).sw (a+i) (b+i) om om);have F:=Pi wr E H (a+i) (b+i);have ag:=Ab (Bf (Aa T) F);have aj:=F.cell hc oO;have ak:=VG ao F.size;clear F;generalize swW wr E H (a+i) (b+i)=au at*;go_wp2;go_roundw;(case rel=>exact⟨i+1,om,by go_num,by rw[Aa ae];exact Aa ac,Aa ag,aj,ak⟩);case measure=>simp[intOf];omega);. obtain rfl:i=n:=om;go_wp2;go_end0;exact⟨rfl,Aa M,Aa T⟩
theorem Jv (H:Value)(ag:Hid (H=typeHandle Tryz.prog 230))(N F I M:Nat)(d:Nat->Int×Int)(a m b:Nat)(w:World)(ac:N<=288)(bb:a<m)(ba:m<b)(a9:b<=N)(aw:F<w.heap.size)(ay:PS N F d w):Calls Tryz.prog 246 #[.agg #[LF I,SF H N F M],.int .i64 a,.int .i64 m,.int .i64 b] w fun e w'=>e=.returned (.tuple #[])/\PS N F (Stab.rot d a m b) w'/\w.grownBy w' (some F):=by
 have a5:=Ab ay;(have a2:Hid (Stab.rot d (m-(m-a)) m (m+(b-m))=Stab.rot d a m b):=by rw[show m-(m-a)=a by omega,show m+(b-m)=b by omega];exact rfl);clear ay;go_enter Tryz.func246,Tryz.ntmps246;go_wp2
 go_loopw [8,9] (fun Z ak wr=>∃(i j:Nat) (dk:Nat->Int×Int),0<i/\0<j/\i<=m-a/\j<=b-m/\Z=.int .i64 i/\ak=.int .i64 j/\Stab.rot dk (m-i) m (m+j)=Stab.rot d a m b/\PS N F dk wr/\w.grownBy wr (some F)/\
  (wr.cell? ⟨w.heap.size,0,none⟩=some (LF I)/\wr.cell? ⟨w.heap.size,1,none⟩=some (SF H N F M))/\w.heap.size<wr.heap.size) (fun Z ak _=>(intOf Z).toNat+(intOf ak).toNat)
 (case atStart=>exact⟨m-a,b-m,d,om,om,VB _,VB _,by go_num,by go_num,Aa a2,(Aa a5).alloc aw _,Bt (Bp _ _) _,⟨oS,oS⟩,oS⟩);case round=>obtain⟨i,j,dk,a8,a6,hi,a7,rfl,rfl,ax,au,aj,⟨ap,ao⟩,az⟩:=hrel;have af:=Ab au;have ae:=Ab aj;have aa:=Ab ax;have al:=VG aw aj.size;clear au aj ax;rcases ZR i j with U|U|U;(. (have ar:((i:Int)!=(j:Int))=true:=by rw[bne_iff_ne];omega);have a3:¬(j:Int)<(i:Int):=om;have a1:(m:Int)-(i:Int)=((m-i:Nat):Int):=om;have e2:(m:Int)+(j:Int)-(i:Int)=((m+j-i:Nat):Int):=om;have T:=Ab a1;have a4:=Ab e2;clear a1 e2;go_wp2_with fail;rw[Aa T,Aa a4];refine(Hr H ag N F I M dk _ _ _ _ ac om om al (Aa af)).mono ?_;rintro e av ⟨rfl,G,E⟩;have Y:=Ab G;have O:=Ab (Bf (Aa ae) E);have c0:=E.cell ap oO;have c1:=E.cell ao oO;have ah:=VG az E.size;have ai:=Ab ((Stab.rot_lt dk m i j U om).trans (Aa aa));clear G E;go_wp2;go_roundw;(case rel=>exact⟨i,j-i,_,a8,om,hi,om,rfl,by go_num,Aa ai,Aa Y,Aa O,⟨c0,c1⟩,ah⟩);case measure=>simp[intOf];omega);(. subst U;have ar:((i:Int)!=(i:Int))=false:=oS;(have T:Hid ((m:Int)-(i:Int)=((m-i:Nat):Int)):=by unfold Hid;omega);go_wp2_with fail;rw[Aa T];refine(Hr H ag N F I M dk _ _ _ _ ac om om al (Aa af)).mono ?_;rintro e av ⟨rfl,G,E⟩;rw[Stab.rot_eq dk m i om,Aa aa]at G;have Y:=Ab G;have O:=Ab (Bf (Aa ae) E);clear G E;go_wp2;go_end0;exact⟨rfl,Aa Y,Aa O⟩);. (have ar:((i:Int)!=(j:Int))=true:=by rw[bne_iff_ne];omega);have a3:(j:Int)<(i:Int):=om;(have T:Hid ((m:Int)-(i:Int)=((m-i:Nat):Int)):=by unfold Hid;omega);go_wp2_with fail;rw[Aa T];refine(Hr H ag N F I M dk _ _ _ _ ac om om al (Aa af)).mono ?_;rintro e av ⟨rfl,G,E⟩;have Y:=Ab G;have O:=Ab (Bf (Aa ae) E);have c0:=E.cell ap oO;have c1:=E.cell ao oO;have ah:=VG az E.size;have ai:=Ab ((Stab.rot_gt dk m i j U om).trans (Aa aa));clear G E;go_wp2;go_roundw;(case rel=>exact⟨i-j,j,_,om,a6,om,a7,by go_num,rfl,Aa ai,Aa Y,Aa O,⟨c0,c1⟩,ah⟩);case measure=>simp[intOf];omega
set_option maxRecDepth 100000 in
theorem A3 (G:Value)(a9:Hid (G=typeHandle Tryz.prog 230))(N F I H:Nat)(d:Nat->Int×Int)(a m b:Nat)(w:World)(af:Hid (m=a+1))(bh:N<=288)(b5:m<b)(b4:b<=N)(az:F<w.heap.size)(bu:I<w.heap.size)(b3:I≠F) (ax:w.cell? ⟨I,0,none⟩=some (.slice (some ⟨F,0,none⟩) N H)) (ap:PS N F d w) (ak:Stab.Srt Stab.lx d m b) (av:Stab.Cross d a m b):Calls Tryz.prog 226 #[.agg #[LF I,SF G N F H],.int .i64 a,.int .i64 m,.int .i64 b] w fun e w'=>e=.returned (.tuple #[])/\∃d',PS N F d' w'/\Stab.Moved a b d d'/\Stab.Srt Stab.lx d' a b/\w.grownBy w' (some F):=by
 have aw:=Ab ap;have bj:=Ab ak;have ba:=Ab av;have bq:=Ab ax;(have b0:((m:Int)-(a:Int)==1)=true:=by rw[beq_iff_eq];have:=Aa af;omega);(have a6:a<m:=by have:=Aa af;omega);clear ap ak av ax;go_enter Tryz.func226,Tryz.ntmps226;go_wp2;go_loopw [8,9,10] (fun Z ae ci wr=>∃i j q:Nat,m<=i/\i<=j/\j<=b/\Z=.int .i64 i/\ae=.int .i64 j/\(m<i->Stab.lx (d (i-1)) (d a))/\(j<b->Stab.lx (d a) (d j))/\wr=(w.alloc (.cells #[LF I,SF G N F H] 277)).drewN q) (fun Z ae _ _=>(intOf ae).toNat-(intOf Z).toNat);case atStart=>exact⟨m,b,0,VB _,om,VB _,rfl,rfl,fun G=>om,fun G=>om,rfl⟩
 case round=>
  obtain⟨i,j,q,hi,cj,ac,rfl,rfl,ay,a1,rfl⟩:=hrel;have aa:=Ab ay;have ar:=Ab a1;clear ay a1;by_cases b8:i<j
  . obtain⟨c,bb⟩:∃c,c=(i+j)/2:=⟨_,rfl⟩;have ai:i<=c:=om;have ao:c<j:=om;(have E:Hid (((i:Int)+(j:Int))/2=(c:Int)):=by unfold Hid;omega);have T:=Stab.cross_less (Aa ba a c (VB _) a6 om om);clear bb;go_wp2_with fail;rw[Aa E];refine(Pe N F I H d _ c a om om bh (((Aa aw).alloc az _).drewN q) (by rw[World.cell?_drewN,World.cell?_alloc_past _ _ _ bu];exact Aa bq)).mono ?_;rintro e bi ⟨rfl,cd,rfl⟩;rw[World.drewN_drewN]
    cases Y:decide ((d c).1<(d a).1)with
    |true=>have ah:=Ab (T.1 Y);clear T Y;go_wp2;go_roundw;(case rel=>exact⟨c+1,j,_,om,om,ac,by go_num,rfl,fun _=>Aa ah,Aa ar,rfl⟩);case measure=>simp[intOf];omega
    |false=>have ah:=Ab (T.2 Y);clear T Y;go_wp2;go_roundw;(case rel=>exact⟨i,c,_,hi,om,om,rfl,rfl,Aa aa,fun _=>Aa ah,rfl⟩);case measure=>simp[intOf];omega
  . obtain rfl:i=j:=om;have ck:¬(i:Int)<(i:Int):=om;have a8:Hid (Stab.rot d a (a+1) (a+1)=d):=Stab.rot_right d a (a+1);have bn:Hid (PS N F d ((w.alloc (.cells #[LF I,SF G N F H] 277)).drewN q)):=((Aa aw).alloc az _).drewN q;have bf:Hid (w.grownBy ((w.alloc (.cells #[LF I,SF G N F H] 277)).drewN q) (some F)):=Fa (Bt (Bp _ _) _) q;have a4:((w.alloc (.cells #[LF I,SF G N F H] 277)).drewN q).cell? ⟨w.heap.size,1,none⟩=some (SF G N F H):=oS;have bm:w.heap.size<((w.alloc (.cells #[LF I,SF G N F H] 277)).drewN q).heap.size:=oS;generalize (w.alloc (.cells #[LF I,SF G N F H] 277)).drewN q=cg at*;go_wp2;go_loopw [11] (fun vk U=>∃k:Nat,a<=k/\k<i/\vk=.int .i64 k/\PS N F (Stab.rot d a (a+1) (k+1)) U/\w.grownBy U (some F)/\U.cell? ⟨w.heap.size,1,none⟩=some (SF G N F H)/\w.heap.size<U.heap.size) (fun vk _=>i-(intOf vk).toNat);(case atStart=>exact⟨a,VB _,om,rfl,by rw[Aa a8];exact Aa bn,Aa bf,a4,bm⟩);case round=>obtain⟨k,bv,b7,rfl,au,a3,ai,bc⟩:=hrel;have M:=Ab au;have aj:=Ab a3;clear au a3;by_cases bz:k<i-1;(. have ce:(k:Int)<(i:Int)-1:=om;have bd:=Ab (Stab.rot_up d a k bv);generalize Stab.rot d a (a+1) (k+1)=dk at*;have a2:=Ou N F H dk wr k (k+1) om om (Aa M);rw[<-Aa a9]at a2;push_cast at a2;have bg:=Ab ((Aa M).sw k (k+1) om om);have O:=Pi wr F dk k (k+1);have bk:=Ab (Bf (Aa aj) O);have ao:=O.cell ai oO;have bo:=VG bc O.size;clear O;generalize swW wr F dk k (k+1)=bi at*;go_wp2;go_roundw;(case rel=>exact⟨k+1,om,om,by go_num,by rw[<-Aa bd];exact Aa bg,Aa bk,ao,bo⟩);case measure=>simp[intOf];omega);. obtain rfl:k=i-1:=om;have b9:¬((i-1:Nat):Int)<(i:Int)-1:=om;have al:i-1+1=i:=om;(have a5:Hid (PS N F (Stab.rot d a (a+1) i) wr):=by rw[al]at M;exact M);have a7:=Ab ((Stab.moved_rot d a (a+1) i om om).wider (VB _) om ac);have ag:=Aa bj;rw[Aa af]at ag aa;have bw:=Ab (Stab.ins_first om ac ag (Aa aa) (Aa ar));clear al ag M;go_wp2;refine bodyPost_ret (results_none rfl _ _ _) rfl ?_;exact⟨rfl,_,Aa a5,Aa a7,Aa bw,Aa aj⟩
set_option maxRecDepth 100000 in
theorem Xa (G:Value)(a8:Hid (G=typeHandle Tryz.prog 230))(N F I H:Nat)(d:Nat->Int×Int)(a m b:Nat)(w:World)(aa:Hid (b=m+1))(bg:N<=288)(b4:a+1<m)(a5:m<b)(b3:b<=N)(a1:F<w.heap.size)(bq:I<w.heap.size)(b0:I≠F) (ay:w.cell? ⟨I,0,none⟩=some (.slice (some ⟨F,0,none⟩) N H)) (al:PS N F d w) (au:Stab.Srt Stab.lx d a m) (aw:Stab.Cross d a m b):Calls Tryz.prog 226 #[.agg #[LF I,SF G N F H],.int .i64 a,.int .i64 m,.int .i64 b] w fun e w'=>e=.returned (.tuple #[])/\∃d',PS N F d' w'/\Stab.Moved a b d d'/\Stab.Srt Stab.lx d' a b/\w.grownBy w' (some F):=by
 have ax:=Ab al;have bi:=Ab au;have a9:=Ab aw;have bo:=Ab ay;(have b5:((m:Int)-(a:Int)==1)=false:=by rw[beq_eq_false_iff_ne];omega);(have bz:((b:Int)-(m:Int)==1)=true:=by rw[beq_iff_eq];have:=Aa aa;omega);clear al au aw ay;go_enter Tryz.func226,Tryz.ntmps226;go_wp2;go_loopw [12,13,14] (fun Z af ce wr=>∃i j q:Nat,a<=i/\i<=j/\j<=m/\Z=.int .i64 i/\af=.int .i64 j/\(a<i->Stab.lx (d (i-1)) (d m))/\(j<m->Stab.lx (d m) (d j))/\wr=(w.alloc (.cells #[LF I,SF G N F H] 277)).drewN q) (fun Z af _ _=>(intOf af).toNat-(intOf Z).toNat);case atStart=>exact⟨a,m,0,VB _,om,VB _,rfl,rfl,fun G=>om,fun G=>om,rfl⟩
 case round=>
  obtain⟨i,j,q,hi,cg,ar,rfl,rfl,az,a2,rfl⟩:=hrel;have ao:=Ab az;have ap:=Ab a2;clear az a2;by_cases b7:i<j
  . obtain⟨c,ba⟩:∃c,c=(i+j)/2:=⟨_,rfl⟩;have ai:i<=c:=om;have ak:c<j:=om;(have E:Hid (((i:Int)+(j:Int))/2=(c:Int)):=by unfold Hid;omega);have T:=Stab.cross_less (Aa a9 c m om om (VB _) a5);clear ba;go_wp2_with fail;rw[Aa E];refine(Pe N F I H d _ m c om om bg (((Aa ax).alloc a1 _).drewN q) (by rw[World.cell?_drewN,World.cell?_alloc_past _ _ _ bq];exact Aa bo)).mono ?_;rintro e bh ⟨rfl,b9,rfl⟩;rw[World.drewN_drewN]
    cases Y:decide ((d m).1<(d c).1)with
    |true=>have ah:=Ab (T.1 Y);clear T Y;go_wp2;go_roundw;(case rel=>exact⟨i,c,_,hi,om,om,rfl,rfl,Aa ao,fun _=>Aa ah,rfl⟩);case measure=>simp[intOf];omega
    |false=>have ah:=Ab (T.2 Y);clear T Y;go_wp2;go_roundw;(case rel=>exact⟨c+1,j,_,om,om,ar,by go_num,rfl,fun _=>Aa ah,Aa ap,rfl⟩);case measure=>simp[intOf];omega
  . obtain rfl:i=j:=om;have ci:¬(i:Int)<(i:Int):=om;have a7:Hid (Stab.rot d m m (m+1)=d):=Stab.rot_left d m (m+1);have bm:Hid (PS N F d ((w.alloc (.cells #[LF I,SF G N F H] 277)).drewN q)):=((Aa ax).alloc a1 _).drewN q;have bd:Hid (w.grownBy ((w.alloc (.cells #[LF I,SF G N F H] 277)).drewN q) (some F)):=Fa (Bt (Bp _ _) _) q;have a4:((w.alloc (.cells #[LF I,SF G N F H] 277)).drewN q).cell? ⟨w.heap.size,1,none⟩=some (SF G N F H):=oS;have bk:w.heap.size<((w.alloc (.cells #[LF I,SF G N F H] 277)).drewN q).heap.size:=oS;generalize (w.alloc (.cells #[LF I,SF G N F H] 277)).drewN q=cd at*;go_wp2;go_loopw [15] (fun vk U=>∃k:Nat,i<=k/\k<=m/\vk=.int .i64 k/\PS N F (Stab.rot d k m (m+1)) U/\w.grownBy U (some F)/\U.cell? ⟨w.heap.size,1,none⟩=some (SF G N F H)/\w.heap.size<U.heap.size) (fun vk _=>(intOf vk).toNat);(case atStart=>exact⟨m,ar,VB _,rfl,by rw[Aa a7];exact Aa bm,Aa bd,a4,bk⟩);case round=>obtain⟨k,cj,ac,rfl,av,a3,ai,bb⟩:=hrel;have O:=Ab av;have aj:=Ab a3;clear av a3;by_cases bw:i<k;(. have bc:=Ab (Stab.rot_down d k m om ac);generalize Stab.rot d k m (m+1)=dk at*;have bu:=Ou N F H dk wr k (k-1) om om (Aa O);rw[<-Aa a8,show ((k-1:Nat):Int)=(k:Int)-1 by omega]at bu;have bf:=Ab ((Aa O).sw k (k-1) om om);have M:=Pi wr F dk k (k-1);have bj:=Ab (Bf (Aa aj) M);have ak:=M.cell ai oO;have bn:=VG bb M.size;clear M;generalize swW wr F dk k (k-1)=bh at*;go_wp2;go_roundw;(case rel=>exact⟨k-1,om,om,by go_num,by rw[<-Aa bc];exact Aa bf,Aa bj,ak,bn⟩);case measure=>simp[intOf];omega);. obtain rfl:k=i:=om;have b8:¬(k:Int)<(k:Int):=om;have ae:=(Stab.moved_rot d k m (m+1) ac om).wider hi om (VB _);have ag:=Stab.ins_last hi ac (Aa bi) (Aa ao) (Aa ap);rw[<-Aa aa]at ae ag;have a6:=Ab ae;have bv:=Ab ag;rw[<-Aa aa]at O;clear ae ag;go_wp2;refine bodyPost_ret (results_none rfl _ _ _) rfl ?_;exact⟨rfl,_,Aa O,Aa a6,Aa bv,Aa aj⟩
def Q0 (h:Value)(N bp bx cap L:Nat):Prop:=∀(d:Nat->Int×Int) (a m b:Nat) (w:World),b-a<=L->a<m->m<b->b<=N->bp<w.heap.size->bx<w.heap.size->
 w.cell? ⟨bx,0,none⟩=some (.slice (some ⟨bp,0,none⟩) N cap)->PS N bp d w->Stab.Srt Stab.lx d a m->Stab.Srt Stab.lx d m b->Stab.Cross d a m b->
 Calls Tryz.prog 226 #[.agg #[LF bx,SF h N bp cap],.int .i64 a,.int .i64 m,.int .i64 b] w fun e w'=>e=.returned (.tuple #[])/\∃d',PS N bp d' w'/\Stab.Moved a b d d'/\Stab.Srt Stab.lx d' a b/\w.grownBy w' (some bp)
structure MSt (h:Value)(N bp bx cap:Nat)(w W:World)(D:Nat->Int×Int):Prop where
 ps:PS N bp D W
 grown:w.grownBy W (some bp)
 c0:W.cell? ⟨w.heap.size,0,none⟩=some (LF bx)
 c1:W.cell? ⟨w.heap.size,1,none⟩=some (SF h N bp cap)
 box:W.cell? ⟨bx,0,none⟩=some (.slice (some ⟨bp,0,none⟩) N cap)
 new:bp<w.heap.size
theorem MSt.next {I:Value}{N E G M:Nat}{w W W':World}{O H:Nat->Int×Int}(s:MSt I N E G M w W O)(U:G<w.heap.size)(T:G≠E)(p:PS N E H W')(F:W.grownBy W' (some E)):MSt I N E G M w W' H:=
 ⟨p,Bf s.grown F,F.cell s.c0 (by have:=s.new;simp;omega),F.cell s.c1 (by have:=s.new;simp;omega),F.cell s.box (by simpa using T),s.new⟩
theorem Ko {F H:Nat->Int×Int}{a st E G b:Nat}(M:(Stab.Srt Stab.lx F a st/\Stab.Srt Stab.lx F st E/\Stab.Cross F a st E)/\(Stab.Srt Stab.lx F E G/\Stab.Srt Stab.lx F G b/\Stab.Cross F E G b))(I:Stab.Moved a E F H)(T:E<=G):
 Stab.Srt Stab.lx H E G/\Stab.Srt Stab.lx H G b/\Stab.Cross H E G b:=
 ⟨M.2.1.congr (fun k O _=>I.out k om),M.2.2.1.congr (fun k O _=>I.out k om),M.2.2.2.congr (fun k O _=>I.out k om)⟩
set_option maxRecDepth 100000 in
theorem Lh (Y:Value)(bi:Hid (Y=typeHandle Tryz.prog 230))(N af ak ao L:Nat)(bc:Hid (Q0 Y N af ak ao L))(d:Nat->Int×Int)(a m b H a1 a7:Nat)(w:World)(bh:N<=288)(dv:b-a<=L+1)(de:a+1<m)(df:m+1<b)(db:b<=N)(au:af<w.heap.size)(aj:ak<w.heap.size)(ax:ak≠af) (b7:Hid (H=(a+b)/2)) (bg:Hid ((H<m/\a1+b=H+m/\a7=H)\/ (m<=H/\a1=a/\a7=m))) (ck:w.cell? ⟨ak,0,none⟩=some (.slice (some ⟨af,0,none⟩) N ao)) (b9:PS N af d w) (cg:Stab.Srt Stab.lx d a m) (b5:Stab.Srt Stab.lx d m b) (ci:Stab.Cross d a m b):Calls Tryz.prog 226 #[.agg #[LF ak,SF Y N af ao],.int .i64 a,.int .i64 m,.int .i64 b] w fun e w'=>e=.returned (.tuple #[])/\∃d',PS N af d' w'/\Stab.Moved a b d d'/\Stab.Srt Stab.lx d' a b/\w.grownBy w' (some af):=by
 have cj:=Ab b9;have a4:=Ab cg;have az:=Ab b5;have cd:=Ab ci;have cp:=Ab ck;(have dq:((m:Int)-(a:Int)==1)=false:=by rw[beq_eq_false_iff_ne];omega);(have dc:((b:Int)-(m:Int)==1)=false:=by rw[beq_eq_false_iff_ne];omega);(have bj:a<=a1/\a1<=a7/\a7<=m/\a7<=H/\a<H/\H<b/\H+m<=a1+b:=by have:=Aa b7;have:=Aa bg;omega);obtain⟨di,ce,ds,dj,dd,dh,dm⟩:=bj;(have cm:((a:Int)+(b:Int))/2=(H:Int):=by have:=Aa b7;omega);have bf:=Ab cm;clear b9 cg b5 ci ck cm;(rcases Aa bg with ⟨c9,bu,bw⟩|⟨c9,bu,bw⟩);(case' inl=>have c5:((a:Int)+(b:Int))/2<(m:Int):=by rw[Aa bf];omega);case' inr=>have c5:¬((a:Int)+(b:Int))/2<(m:Int):=by rw[Aa bf];omega
 all_goals
  have cn:=Ab bu
  have b8:=Ab bw
  clear bu bw
  go_enter Tryz.func226,Tryz.ntmps226
  go_wp2
  go_loopw [18,19,21] (fun bn bv dr wr=>∃st r q:Nat,a1<=st/\st<=r/\r<=a7/\bn=.int .i64 st/\bv=.int .i64 r/\(a1<st->Stab.lx (d (st-1)) (d (H+m-st)))/\(r<a7->Stab.lx (d (H+m-1-r)) (d r))/\wr=(w.alloc (.cells #[LF ak,SF Y N af ao] 277)).drewN q) (fun bn bv _ _=>(intOf bv).toNat-(intOf bn).toNat)
  case atStart=>exact⟨a1,a7,0,VB _,ce,VB _,congrArg (Value.int .i64) (by have:=Aa cn;have:=Aa bf;omega),congrArg (Value.int .i64) (by have:=Aa b8;have:=Aa bf;omega),fun Y=>om,fun Y=>om,rfl⟩
  case round=>
   obtain⟨st,r,q,cw,du,cy,rfl,rfl,bj,co,rfl⟩:=hrel
   have bo:=Ab bj
   have bq:=Ab co
   clear bj co
   by_cases dn:st<r
   . obtain⟨c,cz⟩:∃c,c=(st+r)/2:=⟨_,rfl⟩
     have cv:st<=c:=om
     have dl:c<r:=om
     have E:Hid (((st:Int)+(r:Int))/2=(c:Int)):=by unfold Hid;omega
     have c6:Hid (((a:Int)+(b:Int))/2+(m:Int)-1-(c:Int)=((H+m-1-c:Nat):Int)):=by unfold Hid;have:=Aa bf;omega
     have bk:=Stab.cross_less (Aa cd c (H+m-1-c) om om om om)
     clear cz
     go_wp2_with fail
     rw[Aa E,Aa c6]
     refine(Pe N af ak ao d _ (H+m-1-c) c om om bh (((Aa cj).alloc au _).drewN q) (by rw[World.cell?_drewN,World.cell?_alloc_past _ _ _ aj];exact Aa cp)).mono ?_
     rintro e b0 ⟨rfl,ce,rfl⟩
     rw[World.drewN_drewN]
     cases bm:decide ((d (H+m-1-c)).1<(d c).1)with
     |true=>
      have b4:=Ab (bk.1 bm)
      clear bk bm
      go_wp2
      go_roundw
      case rel=>exact⟨st,c,_,cw,cv,om,rfl,rfl,Aa bo,fun _=>Aa b4,rfl⟩
      case measure=>simp[intOf];omega
     |false=>
      have b4:=Ab (bk.2 bm)
      have c8:Hid (H+m-(c+1)=H+m-1-c):=by unfold Hid;omega
      clear bk bm
      go_wp2
      go_roundw
      case rel=>exact⟨c+1,r,_,om,om,cy,by go_num,rfl,fun _=>by rw[Aa c8];exact Aa b4,Aa bq,rfl⟩
      case measure=>simp[intOf];omega
   . obtain rfl:st=r:=om
     have dw:¬(st:Int)<(st:Int):=om
     obtain⟨G,da⟩:∃G,G+st=H+m:=⟨H+m-st,om⟩
     have dp:(H:Int)+(m:Int)-(st:Int)=(G:Int):=om
     have a2:H+m=st+G:=om
     have c7:m<=G:=by have:=Aa bg;omega
     have cu:G<=b:=om
     have ba:H<=G:=om
     have ac:=Ab (Stab.merge_parts (show a<=st by omega) (show st<=m by omega) c7 cu a2 (Aa a4) (Aa az) (Aa cd))
     have a8:Hid (a<st->G<b->Stab.lx (d (st-1)) (d G)):=fun c1 c2=>by
      have Y:=Aa bo (by have:=Aa cn;have:=Aa bg;omega)
      rw[show H+m-st=G by omega]at Y
      exact Y
     have a9:Hid (st<m->m<G->Stab.lx (d (G-1)) (d st)):=fun c1 c2=>by
      have Y:=Aa bq (by have:=Aa b8;have:=Aa bg;omega)
      rw[show H+m-1-st=G-1 by omega]at Y
      exact Y
     have al:Hid (MSt Y N af ak ao w ((w.alloc (.cells #[LF ak,SF Y N af ao] 277)).drewN q) d):=⟨((Aa cj).alloc au _).drewN q,Fa (Bt (Bp _ _) _) q,by rw[World.cell?_drewN];simp,by rw[World.cell?_drewN];simp,by rw[World.cell?_drewN,World.cell?_alloc_past _ _ _ aj];exact Aa cp,au⟩
     have dx:=(Aa al).c0
     have dt:=(Aa al).c1
     rw[Aa bf]
     generalize (w.alloc (.cells #[LF ak,SF Y N af ao] 277)).drewN q=b3 at*
     have Z:(st<m/\m<G/\a<st/\G<b/\st<H/\H<G)\/ (st<m/\m<G/\a<st/\G=b/\st<H/\H<G)\/ (st<m/\m<G/\st=a/\G<b/\st<H/\H<G)\/ (st<m/\m<G/\st=a/\G=b/\st<H/\H<G)\/ (st=m/\G=H/\a<st/\st<H)\/ (st=m/\G=H/\a<st/\st=H)\/ (st<m/\G=m/\st=H/\a<st/\H<G/\G<b):=om
     clear bo bq da
     rcases Z with Z|Z|Z|Z|Z|Z|Z
     . have k1:(st:Int)<(m:Int):=om
       have k2:(m:Int)<(G:Int):=om
       have l1:(a:Int)<(st:Int):=om
       have l2:(st:Int)<(H:Int):=om
       have n1:(H:Int)<(G:Int):=om
       have n2:(G:Int)<(b:Int):=om
       have F:=Ab Z
       clear Z
       go_wp2_with fail
       refine(Jv Y bi N af ak ao d st m G _ bh (oh F) (oh F) (oh F) (VG au (Aa al).grown.size) (Aa al).ps).mono ?_
       rintro e bz ⟨rfl,aw,g1⟩
       have I:=Ab ((Aa al).next aj ax aw g1)
       have bd:=(Aa I).c0
       have bb:=(Aa I).c1
       clear aw g1
       go_wp2_with fail
       refine(Aa bc (Stab.rot d st m G) a st H _ (oh F) (oh F) (oh F) (oh F) (VG au (Aa I).grown.size) (VG aj (Aa I).grown.size) (Aa I).box (Aa I).ps (Aa ac).1.1 (Aa ac).1.2.1 (Aa ac).1.2.2).mono ?_
       rintro e b0 ⟨rfl,O,a3,m1,a5,g2⟩
       have M:=Ab ((Aa I).next aj ax a3 g2)
       have ae:=Ab m1
       have av:=Ab a5
       have cq:=(Aa M).c0
       have ct:=(Aa M).c1
       clear a3 g2 m1 a5
       have ah:=Ab (Ko (Aa ac) (Aa ae) ba)
       go_wp2_with fail
       refine(Aa bc O H G b _ (oh F) (oh F) (oh F) (oh F) (VG au (Aa M).grown.size) (VG aj (Aa M).grown.size) (Aa M).box (Aa M).ps (Aa ah).1 (Aa ah).2.1 (Aa ah).2.2).mono ?_
       rintro e w3 ⟨rfl,T,a6,m2,ay,g3⟩
       have U:=Ab ((Aa M).next aj ax a6 g3)
       have ap:=Ab m2
       have ar:=Ab ay
       clear a6 g3 m2 ay
       have aa:=Ab (Stab.merge_step Stab.lx_trans (oh F) (oh F) (oh F) (oh F) a2 (Aa a4) (Aa az) (Aa a8) (Aa a9) (Aa ae) (Aa av) (Aa ap) (Aa ar))
       go_wp2
       all_goals (go_end0;exact⟨rfl,T,(Aa U).ps,(Aa aa).2,(Aa aa).1,(Aa U).grown⟩)
     . have k1:(st:Int)<(m:Int):=om
       have k2:(m:Int)<(G:Int):=om
       have l1:(a:Int)<(st:Int):=om
       have l2:(st:Int)<(H:Int):=om
       have n1:(H:Int)<(G:Int):=om
       have n2:¬(G:Int)<(b:Int):=om
       have F:=Ab Z
       clear Z
       go_wp2_with fail
       refine(Jv Y bi N af ak ao d st m G _ bh (oh F) (oh F) (oh F) (VG au (Aa al).grown.size) (Aa al).ps).mono ?_
       rintro e bz ⟨rfl,aw,g1⟩
       have I:=Ab ((Aa al).next aj ax aw g1)
       have bd:=(Aa I).c0
       have bb:=(Aa I).c1
       clear aw g1
       go_wp2_with fail
       refine(Aa bc (Stab.rot d st m G) a st H _ (oh F) (oh F) (oh F) (oh F) (VG au (Aa I).grown.size) (VG aj (Aa I).grown.size) (Aa I).box (Aa I).ps (Aa ac).1.1 (Aa ac).1.2.1 (Aa ac).1.2.2).mono ?_
       rintro e b0 ⟨rfl,O,a3,m1,a5,g2⟩
       have M:=Ab ((Aa I).next aj ax a3 g2)
       have ae:=Ab m1
       have av:=Ab a5
       have cq:=(Aa M).c0
       have ct:=(Aa M).c1
       clear a3 g2 m1 a5
       have ah:=Ab (Ko (Aa ac) (Aa ae) ba)
       have U:=M
       obtain⟨T,ag⟩:∃T,T=O:=⟨_,rfl⟩
       rw[<-ag]at U
       have ap:Hid (Stab.Moved H b O T):=by rw[ag];exact Stab.Moved.refl _ _ _
       have ar:Hid (Stab.Srt Stab.lx T H b):=by rw[ag];exact(Aa ah).1.sub (VB _) (oh F)
       clear ag
       have aa:=Ab (Stab.merge_step Stab.lx_trans (oh F) (oh F) (oh F) (oh F) a2 (Aa a4) (Aa az) (Aa a8) (Aa a9) (Aa ae) (Aa av) (Aa ap) (Aa ar))
       go_wp2
       all_goals (go_end0;exact⟨rfl,T,(Aa U).ps,(Aa aa).2,(Aa aa).1,(Aa U).grown⟩)
     . have k1:(st:Int)<(m:Int):=om
       have k2:(m:Int)<(G:Int):=om
       have l1:¬(a:Int)<(st:Int):=om
       have n1:(H:Int)<(G:Int):=om
       have n2:(G:Int)<(b:Int):=om
       have F:=Ab Z
       clear Z
       go_wp2_with fail
       refine(Jv Y bi N af ak ao d st m G _ bh (oh F) (oh F) (oh F) (VG au (Aa al).grown.size) (Aa al).ps).mono ?_
       rintro e bz ⟨rfl,aw,g1⟩
       have I:=Ab ((Aa al).next aj ax aw g1)
       have bd:=(Aa I).c0
       have bb:=(Aa I).c1
       clear aw g1
       have M:=I
       obtain⟨O,ai⟩:∃O,O=Stab.rot d st m G:=⟨_,rfl⟩
       rw[<-ai]at M
       have ae:Hid (Stab.Moved a H (Stab.rot d st m G) O):=by rw[ai];exact Stab.Moved.refl _ _ _
       have av:Hid (Stab.Srt Stab.lx O a H):=by rw[ai];exact(Aa ac).1.2.1.sub (oh F) (VB _)
       clear ai
       have ah:=Ab (Ko (Aa ac) (Aa ae) ba)
       go_wp2_with fail
       refine(Aa bc O H G b _ (oh F) (oh F) (oh F) (oh F) (VG au (Aa M).grown.size) (VG aj (Aa M).grown.size) (Aa M).box (Aa M).ps (Aa ah).1 (Aa ah).2.1 (Aa ah).2.2).mono ?_
       rintro e w3 ⟨rfl,T,a6,m2,ay,g3⟩
       have U:=Ab ((Aa M).next aj ax a6 g3)
       have ap:=Ab m2
       have ar:=Ab ay
       clear a6 g3 m2 ay
       have aa:=Ab (Stab.merge_step Stab.lx_trans (oh F) (oh F) (oh F) (oh F) a2 (Aa a4) (Aa az) (Aa a8) (Aa a9) (Aa ae) (Aa av) (Aa ap) (Aa ar))
       go_wp2
       all_goals (go_end0;exact⟨rfl,T,(Aa U).ps,(Aa aa).2,(Aa aa).1,(Aa U).grown⟩)
     . have k1:(st:Int)<(m:Int):=om
       have k2:(m:Int)<(G:Int):=om
       have l1:¬(a:Int)<(st:Int):=om
       have n1:(H:Int)<(G:Int):=om
       have n2:¬(G:Int)<(b:Int):=om
       have F:=Ab Z
       clear Z
       go_wp2_with fail
       refine(Jv Y bi N af ak ao d st m G _ bh (oh F) (oh F) (oh F) (VG au (Aa al).grown.size) (Aa al).ps).mono ?_
       rintro e bz ⟨rfl,aw,g1⟩
       have I:=Ab ((Aa al).next aj ax aw g1)
       have bd:=(Aa I).c0
       have bb:=(Aa I).c1
       clear aw g1
       have M:=I
       obtain⟨O,ai⟩:∃O,O=Stab.rot d st m G:=⟨_,rfl⟩
       rw[<-ai]at M
       have ae:Hid (Stab.Moved a H (Stab.rot d st m G) O):=by rw[ai];exact Stab.Moved.refl _ _ _
       have av:Hid (Stab.Srt Stab.lx O a H):=by rw[ai];exact(Aa ac).1.2.1.sub (oh F) (VB _)
       clear ai
       have ah:=Ab (Ko (Aa ac) (Aa ae) ba)
       have U:=M
       obtain⟨T,ag⟩:∃T,T=O:=⟨_,rfl⟩
       rw[<-ag]at U
       have ap:Hid (Stab.Moved H b O T):=by rw[ag];exact Stab.Moved.refl _ _ _
       have ar:Hid (Stab.Srt Stab.lx T H b):=by rw[ag];exact(Aa ah).1.sub (VB _) (oh F)
       clear ag
       have aa:=Ab (Stab.merge_step Stab.lx_trans (oh F) (oh F) (oh F) (oh F) a2 (Aa a4) (Aa az) (Aa a8) (Aa a9) (Aa ae) (Aa av) (Aa ap) (Aa ar))
       go_wp2
       all_goals (go_end0;exact⟨rfl,T,(Aa U).ps,(Aa aa).2,(Aa aa).1,(Aa U).grown⟩)
     . have k1:¬(st:Int)<(m:Int):=om
       have l1:(a:Int)<(st:Int):=om
       have l2:(st:Int)<(H:Int):=om
       have n1:¬(H:Int)<(G:Int):=om
       have F:=Ab Z
       clear Z
       have I:Hid (MSt Y N af ak ao w b3 (Stab.rot d st m G)):=by rw[show Stab.rot d st m G=d from by rw[show st=m by have:=Aa F;omega];exact Stab.rot_left d m G];exact Aa al
       have bd:=(Aa I).c0
       have bb:=(Aa I).c1
       go_wp2_with fail
       refine(Aa bc (Stab.rot d st m G) a st H _ (oh F) (oh F) (oh F) (oh F) (VG au (Aa I).grown.size) (VG aj (Aa I).grown.size) (Aa I).box (Aa I).ps (Aa ac).1.1 (Aa ac).1.2.1 (Aa ac).1.2.2).mono ?_
       rintro e b0 ⟨rfl,O,a3,m1,a5,g2⟩
       have M:=Ab ((Aa I).next aj ax a3 g2)
       have ae:=Ab m1
       have av:=Ab a5
       have cq:=(Aa M).c0
       have ct:=(Aa M).c1
       clear a3 g2 m1 a5
       have ah:=Ab (Ko (Aa ac) (Aa ae) ba)
       have U:=M
       obtain⟨T,ag⟩:∃T,T=O:=⟨_,rfl⟩
       rw[<-ag]at U
       have ap:Hid (Stab.Moved H b O T):=by rw[ag];exact Stab.Moved.refl _ _ _
       have ar:Hid (Stab.Srt Stab.lx T H b):=by rw[ag];exact(Aa ah).2.1.sub (oh F) (VB _)
       clear ag
       have aa:=Ab (Stab.merge_step Stab.lx_trans (oh F) (oh F) (oh F) (oh F) a2 (Aa a4) (Aa az) (Aa a8) (Aa a9) (Aa ae) (Aa av) (Aa ap) (Aa ar))
       go_wp2
       all_goals (go_end0;exact⟨rfl,T,(Aa U).ps,(Aa aa).2,(Aa aa).1,(Aa U).grown⟩)
     . have k1:¬(st:Int)<(m:Int):=om
       have l1:(a:Int)<(st:Int):=om
       have l2:¬(st:Int)<(H:Int):=om
       have n1:¬(H:Int)<(G:Int):=om
       have F:=Ab Z
       clear Z
       have I:Hid (MSt Y N af ak ao w b3 (Stab.rot d st m G)):=by rw[show Stab.rot d st m G=d from by rw[show st=m by have:=Aa F;omega];exact Stab.rot_left d m G];exact Aa al
       have bd:=(Aa I).c0
       have bb:=(Aa I).c1
       have M:=I
       obtain⟨O,ai⟩:∃O,O=Stab.rot d st m G:=⟨_,rfl⟩
       rw[<-ai]at M
       have ae:Hid (Stab.Moved a H (Stab.rot d st m G) O):=by rw[ai];exact Stab.Moved.refl _ _ _
       have av:Hid (Stab.Srt Stab.lx O a H):=by rw[ai];exact(Aa ac).1.1.sub (VB _) (oh F)
       clear ai
       have ah:=Ab (Ko (Aa ac) (Aa ae) ba)
       have U:=M
       obtain⟨T,ag⟩:∃T,T=O:=⟨_,rfl⟩
       rw[<-ag]at U
       have ap:Hid (Stab.Moved H b O T):=by rw[ag];exact Stab.Moved.refl _ _ _
       have ar:Hid (Stab.Srt Stab.lx T H b):=by rw[ag];exact(Aa ah).2.1.sub (oh F) (VB _)
       clear ag
       have aa:=Ab (Stab.merge_step Stab.lx_trans (oh F) (oh F) (oh F) (oh F) a2 (Aa a4) (Aa az) (Aa a8) (Aa a9) (Aa ae) (Aa av) (Aa ap) (Aa ar))
       go_wp2
       all_goals (go_end0;exact⟨rfl,T,(Aa U).ps,(Aa aa).2,(Aa aa).1,(Aa U).grown⟩)
     . have k1:(st:Int)<(m:Int):=om
       have k2:¬(m:Int)<(G:Int):=om
       have l1:(a:Int)<(st:Int):=om
       have l2:¬(st:Int)<(H:Int):=om
       have n1:(H:Int)<(G:Int):=om
       have n2:(G:Int)<(b:Int):=om
       have F:=Ab Z
       clear Z
       have I:Hid (MSt Y N af ak ao w b3 (Stab.rot d st m G)):=by rw[show Stab.rot d st m G=d from by rw[show G=m by have:=Aa F;omega];exact Stab.rot_right d st m];exact Aa al
       have bd:=(Aa I).c0
       have bb:=(Aa I).c1
       have M:=I
       obtain⟨O,ai⟩:∃O,O=Stab.rot d st m G:=⟨_,rfl⟩
       rw[<-ai]at M
       have ae:Hid (Stab.Moved a H (Stab.rot d st m G) O):=by rw[ai];exact Stab.Moved.refl _ _ _
       have av:Hid (Stab.Srt Stab.lx O a H):=by rw[ai];exact(Aa ac).1.1.sub (VB _) (oh F)
       clear ai
       have ah:=Ab (Ko (Aa ac) (Aa ae) ba)
       go_wp2_with fail
       refine(Aa bc O H G b _ (oh F) (oh F) (oh F) (oh F) (VG au (Aa M).grown.size) (VG aj (Aa M).grown.size) (Aa M).box (Aa M).ps (Aa ah).1 (Aa ah).2.1 (Aa ah).2.2).mono ?_
       rintro e w3 ⟨rfl,T,a6,m2,ay,g3⟩
       have U:=Ab ((Aa M).next aj ax a6 g3)
       have ap:=Ab m2
       have ar:=Ab ay
       clear a6 g3 m2 ay
       have aa:=Ab (Stab.merge_step Stab.lx_trans (oh F) (oh F) (oh F) (oh F) a2 (Aa a4) (Aa az) (Aa a8) (Aa a9) (Aa ae) (Aa av) (Aa ap) (Aa ar))
       go_wp2
       all_goals (go_end0;exact⟨rfl,T,(Aa U).ps,(Aa aa).2,(Aa aa).1,(Aa U).grown⟩)
end Go.Proofs.YtleocpdblhbimaaGreatDoor
