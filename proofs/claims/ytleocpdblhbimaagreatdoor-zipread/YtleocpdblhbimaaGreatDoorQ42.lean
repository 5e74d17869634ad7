import Derived.Test.YtleocpdblhbimaaGreatDoorQ1
import Derived.Lib.ReflectliteSwap
import Derived.Laws.IdiomCopy
set_option linter.unusedSimpArgs false
set_option maxHeartbeats 4000000
namespace Go.Proofs.YtleocpdblhbimaaGreatDoor
open Go.RowKit
set_option linter.unusedVariables false
def PS (N bp:Nat)(d:Nat->Int×Int)(W:World):Prop:=
 ∀k,k<N->(W.cell? ⟨bp,k*2,none⟩=some (.int .i64 (d k).1)/\W.frozen? ⟨bp,k*2,none⟩=false)/\(W.cell? ⟨bp,k*2+1,none⟩=some (.int .i64 (d k).2)/\W.frozen? ⟨bp,k*2+1,none⟩=false)
theorem Pe (N G F I:Nat)(d:Nat->Int×Int)(W:World)(i j:Nat)(M:i<N)(H:j<N)(T:N<=288)(E:PS N G d W)(O:W.cell? ⟨F,0,none⟩=some (.slice (some ⟨G,0,none⟩) N I)):
 Calls Tryz.prog 163 #[.int .i64 i,.int .i64 j,.pointer (some ⟨F,0,none⟩)] W fun e w'=>e=.returned (.bool (decide ((d i).1<(d j).1)))/\∃q,w'=W.drewN q:=by
 have c1:=(E i M).1.1;have c2:=(E j H).1.1;generalize (d i).1=x at*;generalize (d j).1=y at*;have U:(i:Int)<(N:Int):=by omega
 have Y:(j:Int)<(N:Int):=by omega
 clear E;go_enter Tryz.func163,Tryz.ntmps163
 go_wp2;go_quiet (fail)
 go_wp2;go_ret;exact⟨rfl,_,rfl⟩
def swW (W:World)(bp:Nat)(d:Nat->Int×Int)(i j:Nat):World:=
 (W.setCells bp (0+i*2) [.int .i64 (d j).1,.int .i64 (d j).2]).setCells bp (0+j*2) [.int .i64 (d i).1,.int .i64 (d i).2]
theorem Z84:(Tryz.prog.info? 230).map (·.size)=some 2:=by kernel_rfl
theorem Z9l (w:World):(isAgg 230).run Tryz.prog w=.ok true w:=by kernel_rfl
theorem Ou (N O T:Nat)(d:Nat->Int×Int)(W:World)(i j:Nat)(M:i<N)(I:j<N)(F:PS N O d W):
 (callFunc 224 #[.int .i64 i,.int .i64 j,.slice (some ⟨O,0,none⟩) N T,typeHandle Tryz.prog 230]).run Tryz.prog W=.ok (.value (.tuple #[])) (swW W O d i j):=by
 obtain⟨U,Y,G⟩:=XF.1 Z84
 have h:=Lib.run_swap_cells (P:=Tryz.prog) false 230 U Y Z9l O 0 N T i j M I [.int .i64 (d i).1,.int .i64 (d i).2] [.int .i64 (d j).1,.int .i64 (d j).2] (by rw[G];rfl) (by rw[G];rfl)
  (by intro v H;simp at H;rcases H with rfl|rfl<;>rfl) (by intro v H;simp at H;rcases H with rfl|rfl<;>rfl) W
  (by intro k v E;rw[G];match k,E with
   |0,E=>simp at E;subst E;simpa using (F i M).1.1
   |1,E=>simp at E;subst E;simpa using (F i M).2.1)
  (by intro k v E;rw[G];match k,E with
   |0,E=>simp at E;subst E;simpa using (F j I).1.1
   |1,E=>simp at E;subst E;simpa using (F j I).2.1)
  (by rw[G];intro k E;match k,E with
   |0,_=>simpa using (F i M).1.2
   |1,_=>simpa using (F i M).2.2)
  (by rw[G];intro k E;match k,E with
   |0,_=>simpa using (F j I).1.2
   |1,_=>simpa using (F j I).2.2)
 rw[run_callFunc_extern Tryz.func224 (by kernel_rfl) (by kernel_rfl) (by kernel_rfl) (e:=Extern.ReflectliteSwapper.swap false) (by kernel_rfl),h,G];rfl
theorem Bp (w:World)(r:Option Nat):w.grownBy w r:=⟨rfl,rfl,rfl,VB _,fun _ _ _=>rfl⟩
theorem Bf {a b c:World}{r:Option Nat}(E:a.grownBy b r)(k:b.grownBy c r):a.grownBy c r:=
 ⟨k.os.trans E.os,k.tape.trans E.tape,k.output.trans E.output,VU E.size k.size,fun i hi hr=>(k.block i (VG hi E.size) hr).trans (E.block i hi hr)⟩
theorem Fa {a b:World}{r:Option Nat}(E:a.grownBy b r)(n:Nat):a.grownBy (b.drewN n) r:=⟨E.os,E.tape,E.output,E.size,E.block⟩
theorem Bt {a b:World}{r:Option Nat}(E:a.grownBy b r)(o:Obj):a.grownBy (b.alloc o) r:=Bf E (World.grownBy_alloc b o r)
theorem GQ (w:World)(b i:Nat)(v:Value):w.grownBy (w.setCell ⟨b,i,none⟩ v) (some b):=
 ⟨rfl,rfl,rfl,by simp,fun k _ E=>heap_setCell_other w ⟨b,i,none⟩ k v (fun e=>E (by simp[e]))⟩
theorem Ji (b:Nat):∀(E:List Value) (o:Nat) (w:World),w.grownBy (w.setCells b o E) (some b)
 | [],o,w=>Bp _ _
 |v::E,o,w=>Bf (GQ w b o v) (Ji b E (o+1) _)
theorem Pi (W:World)(E:Nat)(d:Nat->Int×Int)(i j:Nat):W.grownBy (swW W E d i j) (some E):=Bf (Ji E _ _ W) (Ji E _ _ _)
theorem KP {W:World}{E o:Nat}{x y:Value}(I:(W.cell? ⟨E,o,none⟩).isSome=true)(G:(W.cell? ⟨E,o+1,none⟩).isSome=true):(W.setCells E o [x,y]).cell? ⟨E,o,none⟩=some x/\(W.setCells E o [x,y]).cell? ⟨E,o+1,none⟩=some y:=by
 have F:∀j,j< [x,y].length->(W.cell? ⟨E,o+j,none⟩).isSome=true:=by
  intro j H
  match j,H with
  |0,_=>exact I
  |1,_=>exact G
 exact⟨World.cell?_setCells_in E [x,y] o W F 0 (by simp),World.cell?_setCells_in E [x,y] o W F 1 (by simp)⟩
theorem Nc {W:World}{E o k:Nat}{x y:Value}(F:k<o\/o+2<=k):(W.setCells E o [x,y]).cell? ⟨E,k,none⟩=W.cell? ⟨E,k,none⟩:=
 World.cell?_setCells_out E [x,y] o W ⟨E,k,none⟩ (fun _ _=>by simpa using F)
theorem PS.sw {N E:Nat}{d:Nat->Int×Int}{W:World}(M:PS N E d W)(i j:Nat)(U:i<N)(T:j<N):PS N E (Stab.swp d i j) (swW W E d i j):=by
 intro k G;obtain⟨⟨c0,f0⟩,c1,f1⟩:=M k G;unfold swW;simp only[WG,World.frozen?_setCells,f0,f1,and_true];have I:∀q,q<N->(W.cell? ⟨E,q*2,none⟩).isSome=true/\(W.cell? ⟨E,q*2+1,none⟩).isSome=true:=fun q F=>⟨by rw[(M q F).1.1];rfl,by rw[(M q F).2.1];rfl⟩
 have O:∀q,q<N->((W.setCells E (i*2) [.int .i64 (d j).1,.int .i64 (d j).2]).cell? ⟨E,q*2,none⟩).isSome=true/\((W.setCells E (i*2) [.int .i64 (d j).1,.int .i64 (d j).2]).cell? ⟨E,q*2+1,none⟩).isSome=true:=by
  intro q F
  by_cases e:q=i
  . subst e;have:=KP (x:=.int .i64 (d j).1) (y:=.int .i64 (d j).2) (I q F).1 (I q F).2
    exact⟨by rw[this.1];rfl,by rw[this.2];rfl⟩
  . rw[Nc (o:=i*2) (k:=q*2) (by omega),Nc (o:=i*2) (k:=q*2+1) (by omega)];exact I q F
 unfold Stab.swp
 by_cases e2:k=j
 . subst e2;have:=KP (x:=.int .i64 (d i).1) (y:=.int .i64 (d i).2) (O k G).1 (O k G).2
   by_cases H:k=i
   . subst H;rw[if_pos rfl];exact this
   . rw[if_neg H,if_pos rfl];exact this
 . rw[Nc (o:=j*2) (k:=k*2) (by omega),Nc (o:=j*2) (k:=k*2+1) (by omega)]
   by_cases H:k=i
   . subst H;rw[if_pos rfl];exact KP (x:=.int .i64 (d j).1) (y:=.int .i64 (d j).2) (I k G).1 (I k G).2
   . rw[if_neg H,if_neg e2,Nc (o:=i*2) (k:=k*2) (by omega),Nc (o:=i*2) (k:=k*2+1) (by omega)];exact⟨c0,c1⟩
theorem PS.kept {N E:Nat}{d:Nat->Int×Int}{W W':World}(G:PS N E d W)(I:W.grownBy W' none)(F:E<W.heap.size):PS N E d W':=by
 intro k H;obtain⟨⟨c0,f0⟩,c1,f1⟩:=G k H;have e:=I.block E F (by simp);exact⟨⟨by rw[World.cell?_of_block (w:=W) (a:=⟨E,k*2,none⟩) e];exact c0,by rw[World.frozen?_of_block (w:=W) (a:=⟨E,k*2,none⟩) e];exact f0⟩,by rw[World.cell?_of_block (w:=W) (a:=⟨E,k*2+1,none⟩) e];exact c1,by rw[World.frozen?_of_block (w:=W) (a:=⟨E,k*2+1,none⟩) e];exact f1⟩
theorem PS.drewN {N E:Nat}{d:Nat->Int×Int}{W:World}(F:PS N E d W)(n:Nat):PS N E d (W.drewN n):=F
theorem PS.alloc {N E:Nat}{d:Nat->Int×Int}{W:World}(F:PS N E d W)(G:E<W.heap.size)(o:Obj):PS N E d (W.alloc o):=F.kept (World.grownBy_alloc W o none) G
abbrev LF (bx:Nat):Value:=.func (.func 163) #[] #[.pointer (some ⟨bx,0,none⟩)]
abbrev SF (h:Value)(N bp cap:Nat):Value:=.func (.func 224) #[] #[.slice (some ⟨bp,0,none⟩) N cap,h]
theorem Hr (H:Value)(ac:Hid (H=typeHandle Tryz.prog 230))(N E ae O:Nat)(d:Nat->Int×Int)(a b n:Nat)(w:World)(ap:N<=288)(aw:a+n<=N)(au:b+n<=N)(al:E<w.heap.size)(Z:PS N E d w):
 Calls Tryz.prog 264 #[.agg #[LF ae,SF H N E O],.int .i64 a,.int .i64 b,.int .i64 n] w fun e w'=>e=.returned (.tuple #[])/\PS N E (Stab.swr d a b n) w'/\w.grownBy w' (some E):=by
 have aj:=Ab Z;clear Z;go_enter Tryz.func264,Tryz.ntmps264
 go_wp2;go_loopw [8] (fun M wr=>∃i:Nat,i<=n/\M=.int .i64 i/\PS N E (Stab.swr d a b i) wr/\w.grownBy wr (some E)/\wr.cell? ⟨w.heap.size,1,none⟩=some (SF H N E O)/\w.heap.size<wr.heap.size) (fun M _=>n-(intOf M).toNat)
 case atStart=>exact⟨0,VH _,rfl,(Aa aj).alloc al _,Bt (Bp _ _) _,by simp,by simp⟩
 case round=>
  obtain⟨i,hi,rfl,U,Y,hc,ah⟩:=hrel;have I:=Ab U;have T:=Ab Y;have ak:Hid (Stab.swr d a b (i+1)=Stab.swp (Stab.swr d a b i) (a+i) (b+i)):=rfl;clear U Y
  by_cases ar:i<n
  . generalize Stab.swr d a b i=G at*;have aa:=Ou N E O G wr (a+i) (b+i) (by omega) (by omega) (Aa I);rw[<-Aa ac]at aa;push_cast at aa
    have ao:=Ab ((Aa I).sw (a+i) (b+i) (by omega) (by omega));have F:=Pi wr E G (a+i) (b+i);have af:=Ab (Bf (Aa T) F);have ag:=F.cell hc (by simp;omega);have ai:=VG ah F.size;clear F;generalize swW wr E G (a+i) (b+i)=av at*;go_wp2;go_roundw
    case rel=>exact⟨i+1,by omega,by go_num,by rw[Aa ak];exact Aa ao,Aa af,ag,ai⟩
    case measure=>simp[intOf];omega
  . obtain rfl:i=n:=by omega
    go_wp2;go_end0
    exact⟨rfl,Aa I,Aa T⟩
theorem Jv (H:Value)(aa:Hid (H=typeHandle Tryz.prog 230))(N F M U:Nat)(d:Nat->Int×Int)(a m b:Nat)(w:World)(ac:N<=288)(ba:a<m)(bb:m<b)(a9:b<=N)(ax:F<w.heap.size)(av:PS N F d w):
 Calls Tryz.prog 246 #[.agg #[LF M,SF H N F U],.int .i64 a,.int .i64 m,.int .i64 b] w fun e w'=>e=.returned (.tuple #[])/\PS N F (Stab.rot d a m b) w'/\w.grownBy w' (some F):=by
 have a4:=Ab av;have a6:Hid (Stab.rot d (m-(m-a)) m (m+(b-m))=Stab.rot d a m b):=by rw[show m-(m-a)=a by omega,show m+(b-m)=b by omega];exact rfl
 clear av;go_enter Tryz.func246,Tryz.ntmps246
 go_wp2
 go_loopw [8,9] (fun ai ae wr=>∃(i j:Nat) (dk:Nat->Int×Int),0<i/\0<j/\i<=m-a/\j<=b-m/\ai=.int .i64 i/\ae=.int .i64 j/\Stab.rot dk (m-i) m (m+j)=Stab.rot d a m b/\PS N F dk wr/\w.grownBy wr (some F)/\
  (wr.cell? ⟨w.heap.size,0,none⟩=some (LF M)/\wr.cell? ⟨w.heap.size,1,none⟩=some (SF H N F U))/\w.heap.size<wr.heap.size) (fun ai ae _=>(intOf ai).toNat+(intOf ae).toNat)
 case atStart=>exact⟨m-a,b-m,d,by omega,by omega,VB _,VB _,by go_num,by go_num,Aa a6,(Aa a4).alloc ax _,Bt (Bp _ _) _,⟨by simp,by simp⟩,by simp⟩
 case round=>
  obtain⟨i,j,dk,a3,a5,hi,a7,rfl,rfl,ar,ap,ag,⟨a1,ay⟩,au⟩:=hrel;have ak:=Ab ap;have af:=Ab ag;have aj:=Ab ar;have Z:=VG ax ag.size;clear ap ag ar
  rcases ZR i j with I|I|I
  . have aw:((i:Int)!=(j:Int))=true:=by rw[bne_iff_ne];omega
    have a8:¬(j:Int)<(i:Int):=by omega
    have ao:(m:Int)-(i:Int)=((m-i:Nat):Int):=by omega
    have e2:(m:Int)+(j:Int)-(i:Int)=((m+j-i:Nat):Int):=by omega
    have Y:=Ab ao;have a2:=Ab e2;clear ao e2;go_wp2_with fail
    rw[Aa Y,Aa a2];refine(Hr H aa N F M U dk _ _ _ _ ac (by omega) (by omega) Z (Aa ak)).mono ?_;rintro e az ⟨rfl,G,E⟩;have T:=Ab G;have O:=Ab (Bf (Aa af) E);have c0:=E.cell a1 (by simp;omega);have c1:=E.cell ay (by simp;omega);have ah:=VG au E.size;have al:=Ab ((Stab.rot_lt dk m i j I (by omega)).trans (Aa aj));clear G E;go_wp2;go_roundw
    case rel=>exact⟨i,j-i,_,a3,by omega,hi,by omega,rfl,by go_num,Aa al,Aa T,Aa O,⟨c0,c1⟩,ah⟩
    case measure=>simp[intOf];omega
  . subst I;have aw:((i:Int)!=(i:Int))=false:=by simp
    have Y:Hid ((m:Int)-(i:Int)=((m-i:Nat):Int)):=by unfold Hid;omega
    go_wp2_with fail
    rw[Aa Y];refine(Hr H aa N F M U dk _ _ _ _ ac (by omega) (by omega) Z (Aa ak)).mono ?_;rintro e az ⟨rfl,G,E⟩;rw[Stab.rot_eq dk m i (by omega),Aa aj]at G;have T:=Ab G;have O:=Ab (Bf (Aa af) E);clear G E;go_wp2;go_end0
    exact⟨rfl,Aa T,Aa O⟩
  . have aw:((i:Int)!=(j:Int))=true:=by rw[bne_iff_ne];omega
    have a8:(j:Int)<(i:Int):=by omega
    have Y:Hid ((m:Int)-(i:Int)=((m-i:Nat):Int)):=by unfold Hid;omega
    go_wp2_with fail
    rw[Aa Y];refine(Hr H aa N F M U dk _ _ _ _ ac (by omega) (by omega) Z (Aa ak)).mono ?_;rintro e az ⟨rfl,G,E⟩;have T:=Ab G;have O:=Ab (Bf (Aa af) E);have c0:=E.cell a1 (by simp;omega);have c1:=E.cell ay (by simp;omega);have ah:=VG au E.size;have al:=Ab ((Stab.rot_gt dk m i j I (by omega)).trans (Aa aj));clear G E;go_wp2;go_roundw
    case rel=>exact⟨i-j,j,_,by omega,a5,by omega,a7,by go_num,rfl,Aa al,Aa T,Aa O,⟨c0,c1⟩,ah⟩
    case measure=>simp[intOf];omega
set_option maxRecDepth 100000 in
theorem A3 (H:Value)(a4:Hid (H=typeHandle Tryz.prog 230))(N F I G:Nat)(d:Nat->Int×Int)(a m b:Nat)(w:World)(ag:Hid (m=a+1))(bh:N<=288)(b8:m<b)(cg:b<=N)(ap:F<w.heap.size)(bv:I<w.heap.size)(b9:I≠F)
 (au:w.cell? ⟨I,0,none⟩=some (.slice (some ⟨F,0,none⟩) N G)) (al:PS N F d w) (a3:Stab.Srt Stab.lx d m b) (ai:Stab.Cross d a m b):
 Calls Tryz.prog 226 #[.agg #[LF I,SF H N F G],.int .i64 a,.int .i64 m,.int .i64 b] w fun e w'=>e=.returned (.tuple #[])/\∃d',PS N F d' w'/\Stab.Moved a b d d'/\Stab.Srt Stab.lx d' a b/\w.grownBy w' (some F):=by
 have az:=Ab al;have bu:=Ab a3;have a5:=Ab ai;have bg:=Ab au;have cd:((m:Int)-(a:Int)==1)=true:=by rw[beq_iff_eq];have:=Aa ag;omega
 have bm:a<m:=by have:=Aa ag;omega
 clear al a3 ai au;go_enter Tryz.func226,Tryz.ntmps226
 go_wp2;go_loopw [8,9,10] (fun ac aa b7 wr=>∃i j q:Nat,m<=i/\i<=j/\j<=b/\ac=.int .i64 i/\aa=.int .i64 j/\(m<i->Stab.lx (d (i-1)) (d a))/\(j<b->Stab.lx (d a) (d j))/\wr=(w.alloc (.cells #[LF I,SF H N F G] 277)).drewN q) (fun ac aa _ _=>(intOf aa).toNat-(intOf ac).toNat)
 case atStart=>exact⟨m,b,0,VB _,by omega,VB _,rfl,rfl,fun H=>by omega,fun H=>by omega,rfl⟩
 case round=>
  obtain⟨i,j,q,hi,b3,ae,rfl,rfl,aw,ak,rfl⟩:=hrel;have ah:=Ab aw;have ao:=Ab ak;clear aw ak
  by_cases ce:i<j
  . obtain⟨c,bf⟩:∃c,c=(i+j)/2:=⟨_,rfl⟩
    have a1:i<=c:=by omega
    have ax:c<j:=by omega
    have E:Hid (((i:Int)+(j:Int))/2=(c:Int)):=by unfold Hid;omega
    have Y:=Stab.cross_less (Aa a5 a c (VB _) bm (by omega) (by omega));clear bf;go_wp2_with fail
    rw[Aa E];refine(Pe N F I G d _ c a (by omega) (by omega) bh (((Aa az).alloc ap _).drewN q) (by rw[World.cell?_drewN,World.cell?_alloc_past _ _ _ bv];exact Aa bg)).mono ?_;rintro e bb ⟨rfl,b5,rfl⟩;rw[World.drewN_drewN]
    cases U:decide ((d c).1<(d a).1)with
    |true=>
     have af:=Ab (Y.1 U);clear Y U;go_wp2;go_roundw
     case rel=>exact⟨c+1,j,_,by omega,by omega,ae,by go_num,rfl,fun _=>Aa af,Aa ao,rfl⟩
     case measure=>simp[intOf];omega
    |false=>
     have af:=Ab (Y.2 U);clear Y U;go_wp2;go_roundw
     case rel=>exact⟨i,c,_,hi,by omega,by omega,rfl,rfl,Aa ah,fun _=>Aa af,rfl⟩
     case measure=>simp[intOf];omega
  . obtain rfl:i=j:=by omega
    have b0:¬(i:Int)<(i:Int):=by omega
    have bk:Hid (Stab.rot d a (a+1) (a+1)=d):=Stab.rot_right d a (a+1);have a9:Hid (PS N F d ((w.alloc (.cells #[LF I,SF H N F G] 277)).drewN q)):=((Aa az).alloc ap _).drewN q;have bj:Hid (w.grownBy ((w.alloc (.cells #[LF I,SF H N F G] 277)).drewN q) (some F)):=Fa (Bt (Bp _ _) _) q;have bq:((w.alloc (.cells #[LF I,SF H N F G] 277)).drewN q).cell? ⟨w.heap.size,1,none⟩=some (SF H N F G):=by simp
    have a7:w.heap.size<((w.alloc (.cells #[LF I,SF H N F G] 277)).drewN q).heap.size:=by simp
    generalize (w.alloc (.cells #[LF I,SF H N F G] 277)).drewN q=b4 at*;go_wp2;go_loopw [11] (fun vk T=>∃k:Nat,a<=k/\k<i/\vk=.int .i64 k/\PS N F (Stab.rot d a (a+1) (k+1)) T/\w.grownBy T (some F)/\T.cell? ⟨w.heap.size,1,none⟩=some (SF H N F G)/\w.heap.size<T.heap.size) (fun vk _=>i-(intOf vk).toNat)
    case atStart=>exact⟨a,VB _,by omega,rfl,by rw[Aa bk];exact Aa a9,Aa bj,bq,a7⟩
    case round=>
     obtain⟨k,bd,ci,rfl,av,ay,a1,a8⟩:=hrel;have M:=Ab av;have aj:=Ab ay;clear av ay
     by_cases bz:k<i-1
     . have cj:(k:Int)<(i:Int)-1:=by omega
       have bo:=Ab (Stab.rot_up d a k bd);generalize Stab.rot d a (a+1) (k+1)=dk at*;have a2:=Ou N F G dk wr k (k+1) (by omega) (by omega) (Aa M);rw[<-Aa a4]at a2;push_cast at a2
       have bw:=Ab ((Aa M).sw k (k+1) (by omega) (by omega));have O:=Pi wr F dk k (k+1);have a6:=Ab (Bf (Aa aj) O);have ax:=O.cell a1 (by simp;omega);have bn:=VG a8 O.size;clear O;generalize swW wr F dk k (k+1)=bb at*;go_wp2;go_roundw
       case rel=>exact⟨k+1,by omega,by omega,by go_num,by rw[<-Aa bo];exact Aa bw,Aa a6,ax,bn⟩
       case measure=>simp[intOf];omega
     . obtain rfl:k=i-1:=by omega
       have ck:¬((i-1:Nat):Int)<(i:Int)-1:=by omega
       have ar:i-1+1=i:=by omega
       have bi:Hid (PS N F (Stab.rot d a (a+1) i) wr):=by rw[ar]at M;exact M
       have ba:=Ab ((Stab.moved_rot d a (a+1) i (by omega) (by omega)).wider (VB _) (by omega) ae);have Z:=Aa bu;rw[Aa ag]at Z ah;have bc:=Ab (Stab.ins_first (by omega) ae Z (Aa ah) (Aa ao));clear ar Z M;go_wp2;refine bodyPost_ret (results_none rfl _ _ _) rfl ?_;exact⟨rfl,_,Aa bi,Aa ba,Aa bc,Aa aj⟩
set_option maxRecDepth 100000 in
theorem Xa (H:Value)(a4:Hid (H=typeHandle Tryz.prog 230))(N F I G:Nat)(d:Nat->Int×Int)(a m b:Nat)(w:World)(ag:Hid (b=m+1))(bh:N<=288)(cg:a+1<m)(a5:m<b)(ce:b<=N)(ap:F<w.heap.size)(bq:I<w.heap.size)(b7:I≠F)
 (av:w.cell? ⟨I,0,none⟩=some (.slice (some ⟨F,0,none⟩) N G)) (al:PS N F d w) (a3:Stab.Srt Stab.lx d a m) (ai:Stab.Cross d a m b):
 Calls Tryz.prog 226 #[.agg #[LF I,SF H N F G],.int .i64 a,.int .i64 m,.int .i64 b] w fun e w'=>e=.returned (.tuple #[])/\∃d',PS N F d' w'/\Stab.Moved a b d d'/\Stab.Srt Stab.lx d' a b/\w.grownBy w' (some F):=by
 have a1:=Ab al;have bo:=Ab a3;have a6:=Ab ai;have bg:=Ab av;have ci:((m:Int)-(a:Int)==1)=false:=by rw[beq_eq_false_iff_ne];omega
 have b9:((b:Int)-(m:Int)==1)=true:=by rw[beq_iff_eq];have:=Aa ag;omega
 clear al a3 ai av;go_enter Tryz.func226,Tryz.ntmps226
 go_wp2;go_loopw [12,13,14] (fun aa Z b5 wr=>∃i j q:Nat,a<=i/\i<=j/\j<=m/\aa=.int .i64 i/\Z=.int .i64 j/\(a<i->Stab.lx (d (i-1)) (d m))/\(j<m->Stab.lx (d m) (d j))/\wr=(w.alloc (.cells #[LF I,SF H N F G] 277)).drewN q) (fun aa Z _ _=>(intOf Z).toNat-(intOf aa).toNat)
 case atStart=>exact⟨a,m,0,VB _,by omega,VB _,rfl,rfl,fun H=>by omega,fun H=>by omega,rfl⟩
 case round=>
  obtain⟨i,j,q,hi,b0,ar,rfl,rfl,ax,ak,rfl⟩:=hrel;have au:=Ab ax;have ao:=Ab ak;clear ax ak
  by_cases cd:i<j
  . obtain⟨c,bf⟩:∃c,c=(i+j)/2:=⟨_,rfl⟩
    have a2:i<=c:=by omega
    have ay:c<j:=by omega
    have E:Hid (((i:Int)+(j:Int))/2=(c:Int)):=by unfold Hid;omega
    have U:=Stab.cross_less (Aa a6 c m (by omega) (by omega) (VB _) a5);clear bf;go_wp2_with fail
    rw[Aa E];refine(Pe N F I G d _ m c (by omega) (by omega) bh (((Aa a1).alloc ap _).drewN q) (by rw[World.cell?_drewN,World.cell?_alloc_past _ _ _ bq];exact Aa bg)).mono ?_;rintro e bc ⟨rfl,b4,rfl⟩;rw[World.drewN_drewN]
    cases T:decide ((d m).1<(d c).1)with
    |true=>
     have ac:=Ab (U.1 T);clear U T;go_wp2;go_roundw
     case rel=>exact⟨i,c,_,hi,by omega,by omega,rfl,rfl,Aa au,fun _=>Aa ac,rfl⟩
     case measure=>simp[intOf];omega
    |false=>
     have ac:=Ab (U.2 T);clear U T;go_wp2;go_roundw
     case rel=>exact⟨c+1,j,_,by omega,by omega,ar,by go_num,rfl,fun _=>Aa ac,Aa ao,rfl⟩
     case measure=>simp[intOf];omega
  . obtain rfl:i=j:=by omega
    have bz:¬(i:Int)<(i:Int):=by omega
    have bj:Hid (Stab.rot d m m (m+1)=d):=Stab.rot_left d m (m+1);have ba:Hid (PS N F d ((w.alloc (.cells #[LF I,SF H N F G] 277)).drewN q)):=((Aa a1).alloc ap _).drewN q;have bi:Hid (w.grownBy ((w.alloc (.cells #[LF I,SF H N F G] 277)).drewN q) (some F)):=Fa (Bt (Bp _ _) _) q;have bn:((w.alloc (.cells #[LF I,SF H N F G] 277)).drewN q).cell? ⟨w.heap.size,1,none⟩=some (SF H N F G):=by simp
    have a8:w.heap.size<((w.alloc (.cells #[LF I,SF H N F G] 277)).drewN q).heap.size:=by simp
    generalize (w.alloc (.cells #[LF I,SF H N F G] 277)).drewN q=b3 at*;go_wp2;go_loopw [15] (fun vk O=>∃k:Nat,i<=k/\k<=m/\vk=.int .i64 k/\PS N F (Stab.rot d k m (m+1)) O/\w.grownBy O (some F)/\O.cell? ⟨w.heap.size,1,none⟩=some (SF H N F G)/\w.heap.size<O.heap.size) (fun vk _=>(intOf vk).toNat)
    case atStart=>exact⟨m,ar,VB _,rfl,by rw[Aa bj];exact Aa ba,Aa bi,bn,a8⟩
    case round=>
     obtain⟨k,b8,af,rfl,aw,az,a2,a9⟩:=hrel;have Y:=Ab aw;have aj:=Ab az;clear aw az
     by_cases bw:i<k
     . have bm:=Ab (Stab.rot_down d k m (by omega) af);generalize Stab.rot d k m (m+1)=dk at*;have bu:=Ou N F G dk wr k (k-1) (by omega) (by omega) (Aa Y);rw[<-Aa a4,show ((k-1:Nat):Int)=(k:Int)-1 by omega]at bu;have bv:=Ab ((Aa Y).sw k (k-1) (by omega) (by omega));have M:=Pi wr F dk k (k-1);have a7:=Ab (Bf (Aa aj) M);have ay:=M.cell a2 (by simp;omega);have bk:=VG a9 M.size;clear M;generalize swW wr F dk k (k-1)=bc at*;go_wp2;go_roundw
       case rel=>exact⟨k-1,by omega,by omega,by go_num,by rw[<-Aa bm];exact Aa bv,Aa a7,ay,bk⟩
       case measure=>simp[intOf];omega
     . obtain rfl:k=i:=by omega
       have cj:¬(k:Int)<(k:Int):=by omega
       have ae:=(Stab.moved_rot d k m (m+1) af (by omega)).wider hi (by omega) (VB _);have ah:=Stab.ins_last hi af (Aa bo) (Aa au) (Aa ao);rw[<-Aa ag]at ae ah;have bb:=Ab ae;have bd:=Ab ah;rw[<-Aa ag]at Y;clear ae ah;go_wp2;refine bodyPost_ret (results_none rfl _ _ _) rfl ?_;exact⟨rfl,_,Aa Y,Aa bb,Aa bd,Aa aj⟩
def Q0 (h:Value)(N bp bx cap L:Nat):Prop:=∀(d:Nat->Int×Int) (a m b:Nat) (w:World),b-a<=L->a<m->m<b->b<=N->bp<w.heap.size->bx<w.heap.size->
 w.cell? ⟨bx,0,none⟩=some (.slice (some ⟨bp,0,none⟩) N cap)->PS N bp d w->Stab.Srt Stab.lx d a m->Stab.Srt Stab.lx d m b->Stab.Cross d a m b->
 Calls Tryz.prog 226 #[.agg #[LF bx,SF h N bp cap],.int .i64 a,.int .i64 m,.int .i64 b] w fun e w'=>e=.returned (.tuple #[])/\∃d',PS N bp d' w'/\Stab.Moved a b d d'/\Stab.Srt Stab.lx d' a b/\w.grownBy w' (some bp)
structure MSt (h:Value)(N bp bx cap:Nat)(w W:World)(D:Nat->Int×Int):Prop where
 ps:PS N bp D W
 grown:w.grownBy W (some bp)
 c0:W.cell? ⟨w.heap.size,0,none⟩=some (LF bx)
 c1:W.cell? ⟨w.heap.size,1,none⟩=some (SF h N bp cap)
 box:W.cell? ⟨bx,0,none⟩=some (.slice (some ⟨bp,0,none⟩) N cap)
 new:bp<w.heap.size
theorem MSt.next {M:Value}{N E G I:Nat}{w W W':World}{T H:Nat->Int×Int}(s:MSt M N E G I w W T)(U:G<w.heap.size)(O:G≠E)(p:PS N E H W')(F:W.grownBy W' (some E)):MSt M N E G I w W' H:=
 ⟨p,Bf s.grown F,F.cell s.c0 (by have:=s.new;simp;omega),F.cell s.c1 (by have:=s.new;simp;omega),F.cell s.box (by simpa using O),s.new⟩
theorem Ko {G H:Nat->Int×Int}{a st E F b:Nat}(I:(Stab.Srt Stab.lx G a st/\Stab.Srt Stab.lx G st E/\Stab.Cross G a st E)/\(Stab.Srt Stab.lx G E F/\Stab.Srt Stab.lx G F b/\Stab.Cross G E F b))(M:Stab.Moved a E G H)(T:E<=F):
 Stab.Srt Stab.lx H E F/\Stab.Srt Stab.lx H F b/\Stab.Cross H E F b:=
 ⟨I.2.1.congr (fun k O _=>M.out k (by omega)),I.2.2.1.congr (fun k O _=>M.out k (by omega)),I.2.2.2.congr (fun k O _=>M.out k (by omega))⟩
set_option maxRecDepth 100000 in
theorem Lh (Z:Value)(bi:Hid (Z=typeHandle Tryz.prog 230))(N ac ak ao L:Nat)(bd:Hid (Q0 Z N ac ak ao L))(d:Nat->Int×Int)(a m b H a1 a7:Nat)(w:World)(bh:N<=288)(dm:b-a<=L+1)(du:a+1<m)(dd:m+1<b)(ds:b<=N)(ar:ac<w.heap.size)(aj:ak<w.heap.size)(ax:ak≠ac)
 (cp:Hid (H=(a+b)/2)) (bg:Hid ((H<m/\a1+b=H+m/\a7=H)\/ (m<=H/\a1=a/\a7=m)))
 (cj:w.cell? ⟨ak,0,none⟩=some (.slice (some ⟨ac,0,none⟩) N ao)) (cd:PS N ac d w) (cn:Stab.Srt Stab.lx d a m) (ct:Stab.Srt Stab.lx d m b) (b7:Stab.Cross d a m b):
 Calls Tryz.prog 226 #[.agg #[LF ak,SF Z N ac ao],.int .i64 a,.int .i64 m,.int .i64 b] w fun e w'=>e=.returned (.tuple #[])/\∃d',PS N ac d' w'/\Stab.Moved a b d d'/\Stab.Srt Stab.lx d' a b/\w.grownBy w' (some ac):=by
 have cm:=Ab cd;have a5:=Ab cn;have a6:=Ab ct;have b5:=Ab b7;have cg:=Ab cj;have dc:((m:Int)-(a:Int)==1)=false:=by rw[beq_eq_false_iff_ne];omega
 have dp:((b:Int)-(m:Int)==1)=false:=by rw[beq_eq_false_iff_ne];omega
 have bk:a<=a1/\a1<=a7/\a7<=m/\a7<=H/\a<H/\H<b/\H+m<=a1+b:=by have:=Aa cp;have:=Aa bg;omega
 obtain⟨di,b9,db,dh,dq,dx,dl⟩:=bk;have ck:((a:Int)+(b:Int))/2=(H:Int):=by have:=Aa cp;omega
 have bb:=Ab ck;clear cd cn ct b7 cj ck
 rcases Aa bg with ⟨cv,bq,b4⟩|⟨cv,bq,b4⟩
 case' inl=>have cw:((a:Int)+(b:Int))/2<(m:Int):=by rw[Aa bb];omega
 case' inr=>have cw:¬((a:Int)+(b:Int))/2<(m:Int):=by rw[Aa bb];omega
 all_goals
  have ce:=Ab bq;have ci:=Ab b4;clear bq b4;go_enter Tryz.func226,Tryz.ntmps226
  go_wp2;go_loopw [18,19,21] (fun bu bo dj wr=>∃st r q:Nat,a1<=st/\st<=r/\r<=a7/\bu=.int .i64 st/\bo=.int .i64 r/\(a1<st->Stab.lx (d (st-1)) (d (H+m-st)))/\(r<a7->Stab.lx (d (H+m-1-r)) (d r))/\wr=(w.alloc (.cells #[LF ak,SF Z N ac ao] 277)).drewN q) (fun bu bo _ _=>(intOf bo).toNat-(intOf bu).toNat)
  case atStart=>exact⟨a1,a7,0,VB _,b9,VB _,congrArg (Value.int .i64) (by have:=Aa ce;have:=Aa bb;omega),congrArg (Value.int .i64) (by have:=Aa ci;have:=Aa bb;omega),fun Z=>by omega,fun Z=>by omega,rfl⟩
  case round=>
   obtain⟨st,r,q,c8,df,cy,rfl,rfl,bk,b8,rfl⟩:=hrel;have b3:=Ab bk;have bv:=Ab b8;clear bk b8
   by_cases dr:st<r
   . obtain⟨c,c5⟩:∃c,c=(st+r)/2:=⟨_,rfl⟩
     have c9:st<=c:=by omega
     have dt:c<r:=by omega
     have E:Hid (((st:Int)+(r:Int))/2=(c:Int)):=by unfold Hid;omega
     have cu:Hid (((a:Int)+(b:Int))/2+(m:Int)-1-(c:Int)=((H+m-1-c:Nat):Int)):=by unfold Hid;have:=Aa bb;omega
     have bm:=Stab.cross_less (Aa b5 c (H+m-1-c) (by omega) (by omega) (by omega) (by omega));clear c5;go_wp2_with fail
     rw[Aa E,Aa cu];refine(Pe N ac ak ao d _ (H+m-1-c) c (by omega) (by omega) bh (((Aa cm).alloc ar _).drewN q) (by rw[World.cell?_drewN,World.cell?_alloc_past _ _ _ aj];exact Aa cg)).mono ?_;rintro e bw ⟨rfl,b9,rfl⟩;rw[World.drewN_drewN]
     cases bj:decide ((d (H+m-1-c)).1<(d c).1)with
     |true=>
      have bz:=Ab (bm.1 bj);clear bm bj;go_wp2;go_roundw
      case rel=>exact⟨st,c,_,c8,c9,by omega,rfl,rfl,Aa b3,fun _=>Aa bz,rfl⟩
      case measure=>simp[intOf];omega
     |false=>
      have bz:=Ab (bm.2 bj);have da:Hid (H+m-(c+1)=H+m-1-c):=by unfold Hid;omega
      clear bm bj;go_wp2;go_roundw
      case rel=>exact⟨c+1,r,_,by omega,by omega,cy,by go_num,rfl,fun _=>by rw[Aa da];exact Aa bz,Aa bv,rfl⟩
      case measure=>simp[intOf];omega
   . obtain rfl:st=r:=by omega
     have de:¬(st:Int)<(st:Int):=by omega
     obtain⟨G,c6⟩:∃G,G+st=H+m:=⟨H+m-st,by omega⟩
     have dw:(H:Int)+(m:Int)-(st:Int)=(G:Int):=by omega
     have ay:H+m=st+G:=by omega
     have cz:m<=G:=by have:=Aa bg;omega
     have c7:G<=b:=by omega
     have a8:H<=G:=by omega
     have af:=Ab (Stab.merge_parts (show a<=st by omega) (show st<=m by omega) cz c7 ay (Aa a5) (Aa a6) (Aa b5))
     have a9:Hid (a<st->G<b->Stab.lx (d (st-1)) (d G)):=fun c1 c2=>by
      have Z:=Aa b3 (by have:=Aa ce;have:=Aa bg;omega);rw[show H+m-st=G by omega]at Z;exact Z
     have ba:Hid (st<m->m<G->Stab.lx (d (G-1)) (d st)):=fun c1 c2=>by
      have Z:=Aa bv (by have:=Aa ci;have:=Aa bg;omega);rw[show H+m-1-st=G-1 by omega]at Z;exact Z
     have al:Hid (MSt Z N ac ak ao w ((w.alloc (.cells #[LF ak,SF Z N ac ao] 277)).drewN q) d):=⟨((Aa cm).alloc ar _).drewN q,Fa (Bt (Bp _ _) _) q,by rw[World.cell?_drewN];simp,by rw[World.cell?_drewN];simp,by rw[World.cell?_drewN,World.cell?_alloc_past _ _ _ aj];exact Aa cg,ar⟩
     have dv:=(Aa al).c0;have dn:=(Aa al).c1;rw[Aa bb];generalize (w.alloc (.cells #[LF ak,SF Z N ac ao] 277)).drewN q=b0 at*;have Y:(st<m/\m<G/\a<st/\G<b/\st<H/\H<G)\/ (st<m/\m<G/\a<st/\G=b/\st<H/\H<G)\/ (st<m/\m<G/\st=a/\G<b/\st<H/\H<G)\/ (st<m/\m<G/\st=a/\G=b/\st<H/\H<G)\/ (st=m/\G=H/\a<st/\st<H)\/ (st=m/\G=H/\a<st/\st=H)\/ (st<m/\G=m/\st=H/\a<st/\H<G/\G<b):=by omega
     clear b3 bv c6
     rcases Y with Y|Y|Y|Y|Y|Y|Y
     . have k1:(st:Int)<(m:Int):=by omega
       have k2:(m:Int)<(G:Int):=by omega
       have l1:(a:Int)<(st:Int):=by omega
       have l2:(st:Int)<(H:Int):=by omega
       have n1:(H:Int)<(G:Int):=by omega
       have n2:(G:Int)<(b:Int):=by omega
       have F:=Ab Y;clear Y;go_wp2_with fail
       refine(Jv Z bi N ac ak ao d st m G _ bh (by have:=Aa F;omega) (by have:=Aa F;omega) (by have:=Aa F;omega) (VG ar (Aa al).grown.size) (Aa al).ps).mono ?_;rintro e bn ⟨rfl,aw,g1⟩;have I:=Ab ((Aa al).next aj ax aw g1);have bf:=(Aa I).c0;have bc:=(Aa I).c1;clear aw g1;go_wp2_with fail
       refine(Aa bd (Stab.rot d st m G) a st H _ (by have:=Aa F;omega) (by have:=Aa F;omega) (by have:=Aa F;omega) (by have:=Aa F;omega) (VG ar (Aa I).grown.size) (VG aj (Aa I).grown.size) (Aa I).box (Aa I).ps (Aa af).1.1 (Aa af).1.2.1 (Aa af).1.2.2).mono ?_;rintro e bw ⟨rfl,O,az,m1,a4,g2⟩;have M:=Ab ((Aa I).next aj ax az g2);have aa:=Ab m1;have av:=Ab a4;have cq:=(Aa M).c0;have co:=(Aa M).c1;clear az g2 m1 a4;have ai:=Ab (Ko (Aa af) (Aa aa) a8);go_wp2_with fail
       refine(Aa bd O H G b _ (by have:=Aa F;omega) (by have:=Aa F;omega) (by have:=Aa F;omega) (by have:=Aa F;omega) (VG ar (Aa M).grown.size) (VG aj (Aa M).grown.size) (Aa M).box (Aa M).ps (Aa ai).1 (Aa ai).2.1 (Aa ai).2.2).mono ?_;rintro e w3 ⟨rfl,T,a3,m2,a2,g3⟩;have U:=Ab ((Aa M).next aj ax a3 g3);have au:=Ab m2;have ap:=Ab a2;clear a3 g3 m2 a2;have ae:=Ab (Stab.merge_step Stab.lx_trans (by have:=Aa F;omega) (by have:=Aa F;omega) (by have:=Aa F;omega) (by have:=Aa F;omega) ay (Aa a5) (Aa a6) (Aa a9) (Aa ba) (Aa aa) (Aa av) (Aa au) (Aa ap));go_wp2
       all_goals (go_end0;exact⟨rfl,T,(Aa U).ps,(Aa ae).2,(Aa ae).1,(Aa U).grown⟩)
     . have k1:(st:Int)<(m:Int):=by omega
       have k2:(m:Int)<(G:Int):=by omega
       have l1:(a:Int)<(st:Int):=by omega
       have l2:(st:Int)<(H:Int):=by omega
       have n1:(H:Int)<(G:Int):=by omega
       have n2:¬(G:Int)<(b:Int):=by omega
       have F:=Ab Y;clear Y;go_wp2_with fail
       refine(Jv Z bi N ac ak ao d st m G _ bh (by have:=Aa F;omega) (by have:=Aa F;omega) (by have:=Aa F;omega) (VG ar (Aa al).grown.size) (Aa al).ps).mono ?_;rintro e bn ⟨rfl,aw,g1⟩;have I:=Ab ((Aa al).next aj ax aw g1);have bf:=(Aa I).c0;have bc:=(Aa I).c1;clear aw g1;go_wp2_with fail
       refine(Aa bd (Stab.rot d st m G) a st H _ (by have:=Aa F;omega) (by have:=Aa F;omega) (by have:=Aa F;omega) (by have:=Aa F;omega) (VG ar (Aa I).grown.size) (VG aj (Aa I).grown.size) (Aa I).box (Aa I).ps (Aa af).1.1 (Aa af).1.2.1 (Aa af).1.2.2).mono ?_;rintro e bw ⟨rfl,O,az,m1,a4,g2⟩;have M:=Ab ((Aa I).next aj ax az g2);have aa:=Ab m1;have av:=Ab a4;have cq:=(Aa M).c0;have co:=(Aa M).c1;clear az g2 m1 a4;have ai:=Ab (Ko (Aa af) (Aa aa) a8);have U:=M;obtain⟨T,ah⟩:∃T,T=O:=⟨_,rfl⟩
       rw[<-ah]at U;have au:Hid (Stab.Moved H b O T):=by rw[ah];exact Stab.Moved.refl _ _ _
       have ap:Hid (Stab.Srt Stab.lx T H b):=by rw[ah];exact(Aa ai).1.sub (VB _) (by have:=Aa F;omega)
       clear ah;have ae:=Ab (Stab.merge_step Stab.lx_trans (by have:=Aa F;omega) (by have:=Aa F;omega) (by have:=Aa F;omega) (by have:=Aa F;omega) ay (Aa a5) (Aa a6) (Aa a9) (Aa ba) (Aa aa) (Aa av) (Aa au) (Aa ap));go_wp2
       all_goals (go_end0;exact⟨rfl,T,(Aa U).ps,(Aa ae).2,(Aa ae).1,(Aa U).grown⟩)
     . have k1:(st:Int)<(m:Int):=by omega
       have k2:(m:Int)<(G:Int):=by omega
       have l1:¬(a:Int)<(st:Int):=by omega
       have n1:(H:Int)<(G:Int):=by omega
       have n2:(G:Int)<(b:Int):=by omega
       have F:=Ab Y;clear Y;go_wp2_with fail
       refine(Jv Z bi N ac ak ao d st m G _ bh (by have:=Aa F;omega) (by have:=Aa F;omega) (by have:=Aa F;omega) (VG ar (Aa al).grown.size) (Aa al).ps).mono ?_;rintro e bn ⟨rfl,aw,g1⟩;have I:=Ab ((Aa al).next aj ax aw g1);have bf:=(Aa I).c0;have bc:=(Aa I).c1;clear aw g1;have M:=I;obtain⟨O,ag⟩:∃O,O=Stab.rot d st m G:=⟨_,rfl⟩
       rw[<-ag]at M;have aa:Hid (Stab.Moved a H (Stab.rot d st m G) O):=by rw[ag];exact Stab.Moved.refl _ _ _
       have av:Hid (Stab.Srt Stab.lx O a H):=by rw[ag];exact(Aa af).1.2.1.sub (by have:=Aa F;omega) (VB _)
       clear ag;have ai:=Ab (Ko (Aa af) (Aa aa) a8);go_wp2_with fail
       refine(Aa bd O H G b _ (by have:=Aa F;omega) (by have:=Aa F;omega) (by have:=Aa F;omega) (by have:=Aa F;omega) (VG ar (Aa M).grown.size) (VG aj (Aa M).grown.size) (Aa M).box (Aa M).ps (Aa ai).1 (Aa ai).2.1 (Aa ai).2.2).mono ?_;rintro e w3 ⟨rfl,T,a3,m2,a2,g3⟩;have U:=Ab ((Aa M).next aj ax a3 g3);have au:=Ab m2;have ap:=Ab a2;clear a3 g3 m2 a2;have ae:=Ab (Stab.merge_step Stab.lx_trans (by have:=Aa F;omega) (by have:=Aa F;omega) (by have:=Aa F;omega) (by have:=Aa F;omega) ay (Aa a5) (Aa a6) (Aa a9) (Aa ba) (Aa aa) (Aa av) (Aa au) (Aa ap));go_wp2
       all_goals (go_end0;exact⟨rfl,T,(Aa U).ps,(Aa ae).2,(Aa ae).1,(Aa U).grown⟩)
     . have k1:(st:Int)<(m:Int):=by omega
       have k2:(m:Int)<(G:Int):=by omega
       have l1:¬(a:Int)<(st:Int):=by omega
       have n1:(H:Int)<(G:Int):=by omega
       have n2:¬(G:Int)<(b:Int):=by omega
       have F:=Ab Y;clear Y;go_wp2_with fail
       refine(Jv Z bi N ac ak ao d st m G _ bh (by have:=Aa F;omega) (by have:=Aa F;omega) (by have:=Aa F;omega) (VG ar (Aa al).grown.size) (Aa al).ps).mono ?_;rintro e bn ⟨rfl,aw,g1⟩;have I:=Ab ((Aa al).next aj ax aw g1);have bf:=(Aa I).c0;have bc:=(Aa I).c1;clear aw g1;have M:=I;obtain⟨O,ag⟩:∃O,O=Stab.rot d st m G:=⟨_,rfl⟩
       rw[<-ag]at M;have aa:Hid (Stab.Moved a H (Stab.rot d st m G) O):=by rw[ag];exact Stab.Moved.refl _ _ _
       have av:Hid (Stab.Srt Stab.lx O a H):=by rw[ag];exact(Aa af).1.2.1.sub (by have:=Aa F;omega) (VB _)
       clear ag;have ai:=Ab (Ko (Aa af) (Aa aa) a8);have U:=M;obtain⟨T,ah⟩:∃T,T=O:=⟨_,rfl⟩
       rw[<-ah]at U;have au:Hid (Stab.Moved H b O T):=by rw[ah];exact Stab.Moved.refl _ _ _
       have ap:Hid (Stab.Srt Stab.lx T H b):=by rw[ah];exact(Aa ai).1.sub (VB _) (by have:=Aa F;omega)
       clear ah;have ae:=Ab (Stab.merge_step Stab.lx_trans (by have:=Aa F;omega) (by have:=Aa F;omega) (by have:=Aa F;omega) (by have:=Aa F;omega) ay (Aa a5) (Aa a6) (Aa a9) (Aa ba) (Aa aa) (Aa av) (Aa au) (Aa ap));go_wp2
       all_goals (go_end0;exact⟨rfl,T,(Aa U).ps,(Aa ae).2,(Aa ae).1,(Aa U).grown⟩)
     . have k1:¬(st:Int)<(m:Int):=by omega
       have l1:(a:Int)<(st:Int):=by omega
       have l2:(st:Int)<(H:Int):=by omega
       have n1:¬(H:Int)<(G:Int):=by omega
       have F:=Ab Y;clear Y;have I:Hid (MSt Z N ac ak ao w b0 (Stab.rot d st m G)):=by rw[show Stab.rot d st m G=d from by rw[show st=m by have:=Aa F;omega];exact Stab.rot_left d m G];exact Aa al
       have bf:=(Aa I).c0;have bc:=(Aa I).c1;go_wp2_with fail
       refine(Aa bd (Stab.rot d st m G) a st H _ (by have:=Aa F;omega) (by have:=Aa F;omega) (by have:=Aa F;omega) (by have:=Aa F;omega) (VG ar (Aa I).grown.size) (VG aj (Aa I).grown.size) (Aa I).box (Aa I).ps (Aa af).1.1 (Aa af).1.2.1 (Aa af).1.2.2).mono ?_;rintro e bw ⟨rfl,O,az,m1,a4,g2⟩;have M:=Ab ((Aa I).next aj ax az g2);have aa:=Ab m1;have av:=Ab a4;have cq:=(Aa M).c0;have co:=(Aa M).c1;clear az g2 m1 a4;have ai:=Ab (Ko (Aa af) (Aa aa) a8);have U:=M;obtain⟨T,ah⟩:∃T,T=O:=⟨_,rfl⟩
       rw[<-ah]at U;have au:Hid (Stab.Moved H b O T):=by rw[ah];exact Stab.Moved.refl _ _ _
       have ap:Hid (Stab.Srt Stab.lx T H b):=by rw[ah];exact(Aa ai).2.1.sub (by have:=Aa F;omega) (VB _)
       clear ah;have ae:=Ab (Stab.merge_step Stab.lx_trans (by have:=Aa F;omega) (by have:=Aa F;omega) (by have:=Aa F;omega) (by have:=Aa F;omega) ay (Aa a5) (Aa a6) (Aa a9) (Aa ba) (Aa aa) (Aa av) (Aa au) (Aa ap));go_wp2
       all_goals (go_end0;exact⟨rfl,T,(Aa U).ps,(Aa ae).2,(Aa ae).1,(Aa U).grown⟩)
     . have k1:¬(st:Int)<(m:Int):=by omega
       have l1:(a:Int)<(st:Int):=by omega
       have l2:¬(st:Int)<(H:Int):=by omega
       have n1:¬(H:Int)<(G:Int):=by omega
       have F:=Ab Y;clear Y;have I:Hid (MSt Z N ac ak ao w b0 (Stab.rot d st m G)):=by rw[show Stab.rot d st m G=d from by rw[show st=m by have:=Aa F;omega];exact Stab.rot_left d m G];exact Aa al
       have bf:=(Aa I).c0;have bc:=(Aa I).c1;have M:=I;obtain⟨O,ag⟩:∃O,O=Stab.rot d st m G:=⟨_,rfl⟩
       rw[<-ag]at M;have aa:Hid (Stab.Moved a H (Stab.rot d st m G) O):=by rw[ag];exact Stab.Moved.refl _ _ _
       have av:Hid (Stab.Srt Stab.lx O a H):=by rw[ag];exact(Aa af).1.1.sub (VB _) (by have:=Aa F;omega)
       clear ag;have ai:=Ab (Ko (Aa af) (Aa aa) a8);have U:=M;obtain⟨T,ah⟩:∃T,T=O:=⟨_,rfl⟩
       rw[<-ah]at U;have au:Hid (Stab.Moved H b O T):=by rw[ah];exact Stab.Moved.refl _ _ _
       have ap:Hid (Stab.Srt Stab.lx T H b):=by rw[ah];exact(Aa ai).2.1.sub (by have:=Aa F;omega) (VB _)
       clear ah;have ae:=Ab (Stab.merge_step Stab.lx_trans (by have:=Aa F;omega) (by have:=Aa F;omega) (by have:=Aa F;omega) (by have:=Aa F;omega) ay (Aa a5) (Aa a6) (Aa a9) (Aa ba) (Aa aa) (Aa av) (Aa au) (Aa ap));go_wp2
       all_goals (go_end0;exact⟨rfl,T,(Aa U).ps,(Aa ae).2,(Aa ae).1,(Aa U).grown⟩)
     . have k1:(st:Int)<(m:Int):=by omega
       have k2:¬(m:Int)<(G:Int):=by omega
       have l1:(a:Int)<(st:Int):=by omega
       have l2:¬(st:Int)<(H:Int):=by omega
       have n1:(H:Int)<(G:Int):=by omega
       have n2:(G:Int)<(b:Int):=by omega
       have F:=Ab Y;clear Y;have I:Hid (MSt Z N ac ak ao w b0 (Stab.rot d st m G)):=by rw[show Stab.rot d st m G=d from by rw[show G=m by have:=Aa F;omega];exact Stab.rot_right d st m];exact Aa al
       have bf:=(Aa I).c0;have bc:=(Aa I).c1;have M:=I;obtain⟨O,ag⟩:∃O,O=Stab.rot d st m G:=⟨_,rfl⟩
       rw[<-ag]at M;have aa:Hid (Stab.Moved a H (Stab.rot d st m G) O):=by rw[ag];exact Stab.Moved.refl _ _ _
       have av:Hid (Stab.Srt Stab.lx O a H):=by rw[ag];exact(Aa af).1.1.sub (VB _) (by have:=Aa F;omega)
       clear ag;have ai:=Ab (Ko (Aa af) (Aa aa) a8);go_wp2_with fail
       refine(Aa bd O H G b _ (by have:=Aa F;omega) (by have:=Aa F;omega) (by have:=Aa F;omega) (by have:=Aa F;omega) (VG ar (Aa M).grown.size) (VG aj (Aa M).grown.size) (Aa M).box (Aa M).ps (Aa ai).1 (Aa ai).2.1 (Aa ai).2.2).mono ?_;rintro e w3 ⟨rfl,T,a3,m2,a2,g3⟩;have U:=Ab ((Aa M).next aj ax a3 g3);have au:=Ab m2;have ap:=Ab a2;clear a3 g3 m2 a2;have ae:=Ab (Stab.merge_step Stab.lx_trans (by have:=Aa F;omega) (by have:=Aa F;omega) (by have:=Aa F;omega) (by have:=Aa F;omega) ay (Aa a5) (Aa a6) (Aa a9) (Aa ba) (Aa aa) (Aa av) (Aa au) (Aa ap));go_wp2
       all_goals (go_end0;exact⟨rfl,T,(Aa U).ps,(Aa ae).2,(Aa ae).1,(Aa U).grown⟩)
end Go.Proofs.YtleocpdblhbimaaGreatDoor
