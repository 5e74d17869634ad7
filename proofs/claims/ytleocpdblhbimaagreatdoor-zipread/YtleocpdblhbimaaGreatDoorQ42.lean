import Derived.Test.YtleocpdblhbimaaGreatDoorQ1
import Derived.Lib.ReflectliteSwap
import Derived.Laws.IdiomCopy
set_option linter.unusedSimpArgs false
set_option linter.unusedVariables false
set_option maxHeartbeats 4000000
namespace Go.Proofs.YtleocpdblhbimaaGreatDoor
open Go.RowKit
def PS (N bp:Nat)(d:Nat->Int×Int)(W:World):Prop:=
 ∀k,k<N->(W.cell? ⟨bp,k*2,none⟩=some (.int .i64 (d k).1)/\W.frozen? ⟨bp,k*2,none⟩=false)/\(W.cell? ⟨bp,k*2+1,none⟩=some (.int .i64 (d k).2)/\W.frozen? ⟨bp,k*2+1,none⟩=false)
theorem Pe (N G F I:Nat)(d:Nat->Int×Int)(W:World)(i j:Nat)(M:i<N)(H:j<N)(Y:N<=288)(E:PS N G d W)(T:W.cell? ⟨F,0,none⟩=some (.slice (some ⟨G,0,none⟩) N I)):
 Calls Tryz.prog 163 #[.int .i64 i,.int .i64 j,.pointer (some ⟨F,0,none⟩)] W fun e w'=>e=.returned (.bool (decide ((d i).1<(d j).1)))/\∃q,w'=W.drewN q:=by
 have c1:=(E i M).1.1;have c2:=(E j H).1.1;generalize (d i).1=x at*;generalize (d j).1=y at*;have O:(i:Int)<(N:Int):=by omega
 have U:(j:Int)<(N:Int):=by omega
 clear E;go_enter Tryz.func163,Tryz.ntmps163
 go_wp2;go_quiet (fail)
 go_wp2;go_ret;exact⟨rfl,_,rfl⟩
def swW (W:World)(bp:Nat)(d:Nat->Int×Int)(i j:Nat):World:=
 (W.setCells bp (0+i*2) [.int .i64 (d j).1,.int .i64 (d j).2]).setCells bp (0+j*2) [.int .i64 (d i).1,.int .i64 (d i).2]
theorem Z84:(Tryz.prog.info? 230).map (·.size)=some 2:=by kernel_rfl
theorem Z9l (w:World):(isAgg 230).run Tryz.prog w=.ok true w:=by kernel_rfl
theorem Ou (N O T:Nat)(d:Nat->Int×Int)(W:World)(i j:Nat)(M:i<N)(I:j<N)(F:PS N O d W):
 (callFunc 224 #[.int .i64 i,.int .i64 j,.slice (some ⟨O,0,none⟩) N T,typeHandle Tryz.prog 230]).run Tryz.prog W=.ok (.value (.tuple #[])) (swW W O d i j):=by
 obtain⟨Y,U,G⟩:=XF.1 Z84
 have h:=Lib.run_swap_cells (P:=Tryz.prog) false 230 Y U Z9l O 0 N T i j M I [.int .i64 (d i).1,.int .i64 (d i).2] [.int .i64 (d j).1,.int .i64 (d j).2] (by rw[G];rfl) (by rw[G];rfl)
  (by intro v H;simp at H;rcases H with rfl|rfl<;>rfl) (by intro v H;simp at H;rcases H with rfl|rfl<;>rfl) W
  (by intro k v E;rw[G];match k,E with
   |0,E=>simp at E;subst E;simpa using (F i M).1.1
   |1,E=>simp at E;subst E;simpa using (F i M).2.1)
  (by intro k v E;rw[G];match k,E with
   |0,E=>simp at E;subst E;simpa using (F j I).1.1
   |1,E=>simp at E;subst E;simpa using (F j I).2.1)
  (by rw[G];intro k E;match k,E with
   |0,_=>simpa using (F i M).1.2
   |1,_=>simpa using (F i M).2.2)
  (by rw[G];intro k E;match k,E with
   |0,_=>simpa using (F j I).1.2
   |1,_=>simpa using (F j I).2.2)
 rw[run_callFunc_extern Tryz.func224 (by kernel_rfl) (by kernel_rfl) (by kernel_rfl) (e:=Extern.ReflectliteSwapper.swap false) (by kernel_rfl),h,G];rfl
theorem Bp (w:World)(r:Option Nat):w.grownBy w r:=⟨rfl,rfl,rfl,VB _,fun _ _ _=>rfl⟩
theorem Bf {a b c:World}{r:Option Nat}(E:a.grownBy b r)(k:b.grownBy c r):a.grownBy c r:=
 ⟨k.os.trans E.os,k.tape.trans E.tape,k.output.trans E.output,VU E.size k.size,fun i hi hr=>(k.block i (VG hi E.size) hr).trans (E.block i hi hr)⟩
theorem Fa {a b:World}{r:Option Nat}(E:a.grownBy b r)(n:Nat):a.grownBy (b.drewN n) r:=⟨E.os,E.tape,E.output,E.size,E.block⟩
theorem Bt {a b:World}{r:Option Nat}(E:a.grownBy b r)(o:Obj):a.grownBy (b.alloc o) r:=Bf E (World.grownBy_alloc b o r)
theorem GQ (w:World)(b i:Nat)(v:Value):w.grownBy (w.setCell ⟨b,i,none⟩ v) (some b):=
 ⟨rfl,rfl,rfl,by simp,fun k _ E=>heap_setCell_other w ⟨b,i,none⟩ k v (fun e=>E (by simp[e]))⟩
theorem Ji (b:Nat):∀(E:List Value) (o:Nat) (w:World),w.grownBy (w.setCells b o E) (some b)
 | [],o,w=>Bp _ _
 |v::E,o,w=>Bf (GQ w b o v) (Ji b E (o+1) _)
theorem Pi (W:World)(E:Nat)(d:Nat->Int×Int)(i j:Nat):W.grownBy (swW W E d i j) (some E):=Bf (Ji E _ _ W) (Ji E _ _ _)
theorem KP {W:World}{E o:Nat}{x y:Value}(I:(W.cell? ⟨E,o,none⟩).isSome=true)(G:(W.cell? ⟨E,o+1,none⟩).isSome=true):(W.setCells E o [x,y]).cell? ⟨E,o,none⟩=some x/\(W.setCells E o [x,y]).cell? ⟨E,o+1,none⟩=some y:=by
 have F:∀j,j< [x,y].length->(W.cell? ⟨E,o+j,none⟩).isSome=true:=by
  intro j H
  match j,H with
  |0,_=>exact I
  |1,_=>exact G
 exact⟨World.cell?_setCells_in E [x,y] o W F 0 (by simp),World.cell?_setCells_in E [x,y] o W F 1 (by simp)⟩
theorem Nc {W:World}{E o k:Nat}{x y:Value}(F:k<o\/o+2<=k):(W.setCells E o [x,y]).cell? ⟨E,k,none⟩=W.cell? ⟨E,k,none⟩:=
 World.cell?_setCells_out E [x,y] o W ⟨E,k,none⟩ (fun _ _=>by simpa using F)
theorem PS.sw {N E:Nat}{d:Nat->Int×Int}{W:World}(M:PS N E d W)(i j:Nat)(U:i<N)(T:j<N):PS N E (Stab.swp d i j) (swW W E d i j):=by
 intro k G;obtain⟨⟨c0,f0⟩,c1,f1⟩:=M k G;unfold swW;simp only[WG,World.frozen?_setCells,f0,f1,and_true];have H:∀q,q<N->(W.cell? ⟨E,q*2,none⟩).isSome=true/\(W.cell? ⟨E,q*2+1,none⟩).isSome=true:=fun q F=>⟨by rw[(M q F).1.1];rfl,by rw[(M q F).2.1];rfl⟩
 have O:∀q,q<N->((W.setCells E (i*2) [.int .i64 (d j).1,.int .i64 (d j).2]).cell? ⟨E,q*2,none⟩).isSome=true/\((W.setCells E (i*2) [.int .i64 (d j).1,.int .i64 (d j).2]).cell? ⟨E,q*2+1,none⟩).isSome=true:=by
  intro q F
  by_cases e:q=i
  . subst e;have:=KP (x:=.int .i64 (d j).1) (y:=.int .i64 (d j).2) (H q F).1 (H q F).2
    exact⟨by rw[this.1];rfl,by rw[this.2];rfl⟩
  . rw[Nc (o:=i*2) (k:=q*2) (by omega),Nc (o:=i*2) (k:=q*2+1) (by omega)];exact H q F
 unfold Stab.swp
 by_cases e2:k=j
 . subst e2;have:=KP (x:=.int .i64 (d i).1) (y:=.int .i64 (d i).2) (O k G).1 (O k G).2
   by_cases I:k=i
   . subst I;rw[if_pos rfl];exact this
   . rw[if_neg I,if_pos rfl];exact this
 . rw[Nc (o:=j*2) (k:=k*2) (by omega),Nc (o:=j*2) (k:=k*2+1) (by omega)]
   by_cases I:k=i
   . subst I;rw[if_pos rfl];exact KP (x:=.int .i64 (d j).1) (y:=.int .i64 (d j).2) (H k G).1 (H k G).2
   . rw[if_neg I,if_neg e2,Nc (o:=i*2) (k:=k*2) (by omega),Nc (o:=i*2) (k:=k*2+1) (by omega)];exact⟨c0,c1⟩
theorem PS.kept {N E:Nat}{d:Nat->Int×Int}{W W':World}(G:PS N E d W)(I:W.grownBy W' none)(H:E<W.heap.size):PS N E d W':=by
 intro k F;obtain⟨⟨c0,f0⟩,c1,f1⟩:=G k F;have e:=I.block E H (by simp);exact⟨⟨by rw[World.cell?_of_block (w:=W) (a:=⟨E,k*2,none⟩) e];exact c0,by rw[World.frozen?_of_block (w:=W) (a:=⟨E,k*2,none⟩) e];exact f0⟩,by rw[World.cell?_of_block (w:=W) (a:=⟨E,k*2+1,none⟩) e];exact c1,by rw[World.frozen?_of_block (w:=W) (a:=⟨E,k*2+1,none⟩) e];exact f1⟩
theorem PS.drewN {N E:Nat}{d:Nat->Int×Int}{W:World}(F:PS N E d W)(n:Nat):PS N E d (W.drewN n):=F
theorem PS.alloc {N E:Nat}{d:Nat->Int×Int}{W:World}(G:PS N E d W)(F:E<W.heap.size)(o:Obj):PS N E d (W.alloc o):=G.kept (World.grownBy_alloc W o none) F
abbrev LF (bx:Nat):Value:=.func (.func 163) #[] #[.pointer (some ⟨bx,0,none⟩)]
abbrev SF (h:Value)(N bp cap:Nat):Value:=.func (.func 224) #[] #[.slice (some ⟨bp,0,none⟩) N cap,h]
theorem Hr (O:Value)(ah:Hid (O=typeHandle Tryz.prog 230))(N E al G:Nat)(d:Nat->Int×Int)(a b n:Nat)(w:World)(av:N<=288)(aw:a+n<=N)(au:b+n<=N)(ao:E<w.heap.size)(aa:PS N E d w):
 Calls Tryz.prog 264 #[.agg #[LF al,SF O N E G],.int .i64 a,.int .i64 b,.int .i64 n] w fun e w'=>e=.returned (.tuple #[])/\PS N E (Stab.swr d a b n) w'/\w.grownBy w' (some E):=by
 have ae:=Ab aa;clear aa;go_enter Tryz.func264,Tryz.ntmps264
 go_wp2;go_loopw [8] (fun H wr=>∃i:Nat,i<=n/\H=.int .i64 i/\PS N E (Stab.swr d a b i) wr/\w.grownBy wr (some E)/\wr.cell? ⟨w.heap.size,1,none⟩=some (SF O N E G)/\w.heap.size<wr.heap.size) (fun H _=>n-(intOf H).toNat)
 case atStart=>exact⟨0,VH _,rfl,(Aa ae).alloc ao _,Bt (Bp _ _) _,by simp,by simp⟩
 case round=>
  obtain⟨i,hi,rfl,U,T,hc,ak⟩:=hrel;have I:=Ab U;have Z:=Ab T;have af:Hid (Stab.swr d a b (i+1)=Stab.swp (Stab.swr d a b i) (a+i) (b+i)):=rfl;clear U T
  by_cases ar:i<n
  . generalize Stab.swr d a b i=M at*;have Y:=Ou N E G M wr (a+i) (b+i) (by omega) (by omega) (Aa I);rw[<-Aa ah]at Y;push_cast at Y
    have aj:=Ab ((Aa I).sw (a+i) (b+i) (by omega) (by omega));have F:=Pi wr E M (a+i) (b+i);have ag:=Ab (Bf (Aa Z) F);have ac:=F.cell hc (by simp;omega);have ai:=VG ak F.size;clear F;generalize swW wr E M (a+i) (b+i)=ap at*;go_wp2;go_roundw
    case rel=>exact⟨i+1,by omega,by go_num,by rw[Aa af];exact Aa aj,Aa ag,ac,ai⟩
    case measure=>simp[intOf];omega
  . obtain rfl:i=n:=by omega
    go_wp2;go_end0
    exact⟨rfl,Aa I,Aa Z⟩
theorem Jv (H:Value)(ah:Hid (H=typeHandle Tryz.prog 230))(N F Y I:Nat)(d:Nat->Int×Int)(a m b:Nat)(w:World)(af:N<=288)(bb:a<m)(ba:m<b)(a9:b<=N)(a1:F<w.heap.size)(av:PS N F d w):
 Calls Tryz.prog 246 #[.agg #[LF Y,SF H N F I],.int .i64 a,.int .i64 m,.int .i64 b] w fun e w'=>e=.returned (.tuple #[])/\PS N F (Stab.rot d a m b) w'/\w.grownBy w' (some F):=by
 have a3:=Ab av;have a8:Hid (Stab.rot d (m-(m-a)) m (m+(b-m))=Stab.rot d a m b):=by rw[show m-(m-a)=a by omega,show m+(b-m)=b by omega];exact rfl
 clear av;go_enter Tryz.func246,Tryz.ntmps246
 go_wp2
 go_loopw [8,9] (fun ac al wr=>∃(i j:Nat) (dk:Nat->Int×Int),0<i/\0<j/\i<=m-a/\j<=b-m/\ac=.int .i64 i/\al=.int .i64 j/\Stab.rot dk (m-i) m (m+j)=Stab.rot d a m b/\PS N F dk wr/\w.grownBy wr (some F)/\
  (wr.cell? ⟨w.heap.size,0,none⟩=some (LF Y)/\wr.cell? ⟨w.heap.size,1,none⟩=some (SF H N F I))/\w.heap.size<wr.heap.size) (fun ac al _=>(intOf ac).toNat+(intOf al).toNat)
 case atStart=>exact⟨m-a,b-m,d,by omega,by omega,VB _,VB _,by go_num,by go_num,Aa a8,(Aa a3).alloc a1 _,Bt (Bp _ _) _,⟨by simp,by simp⟩,by simp⟩
 case round=>
  obtain⟨i,j,dk,a2,a7,hi,a4,rfl,rfl,az,au,aa,⟨aw,ax⟩,ay⟩:=hrel;have aj:=Ab au;have ai:=Ab aa;have ag:=Ab az;have ae:=VG a1 aa.size;clear au aa az
  rcases ZR i j with M|M|M
  . have ap:((i:Int)!=(j:Int))=true:=by rw[bne_iff_ne];omega
    have a6:¬(j:Int)<(i:Int):=by omega
    have ar:(m:Int)-(i:Int)=((m-i:Nat):Int):=by omega
    have e2:(m:Int)+(j:Int)-(i:Int)=((m+j-i:Nat):Int):=by omega
    have T:=Ab ar;have a5:=Ab e2;clear ar e2;go_wp2_with fail
    rw[Aa T,Aa a5];refine(Hr H ah N F Y I dk _ _ _ _ af (by omega) (by omega) ae (Aa aj)).mono ?_;rintro e ao ⟨rfl,G,E⟩;have U:=Ab G;have O:=Ab (Bf (Aa ai) E);have c0:=E.cell aw (by simp;omega);have c1:=E.cell ax (by simp;omega);have ak:=VG ay E.size;have Z:=Ab ((Stab.rot_lt dk m i j M (by omega)).trans (Aa ag));clear G E;go_wp2;go_roundw
    case rel=>exact⟨i,j-i,_,a2,by omega,hi,by omega,rfl,by go_num,Aa Z,Aa U,Aa O,⟨c0,c1⟩,ak⟩
    case measure=>simp[intOf];omega
  . subst M;have ap:((i:Int)!=(i:Int))=false:=by simp
    have T:Hid ((m:Int)-(i:Int)=((m-i:Nat):Int)):=by unfold Hid;omega
    go_wp2_with fail
    rw[Aa T];refine(Hr H ah N F Y I dk _ _ _ _ af (by omega) (by omega) ae (Aa aj)).mono ?_;rintro e ao ⟨rfl,G,E⟩;rw[Stab.rot_eq dk m i (by omega),Aa ag]at G;have U:=Ab G;have O:=Ab (Bf (Aa ai) E);clear G E;go_wp2;go_end0
    exact⟨rfl,Aa U,Aa O⟩
  . have ap:((i:Int)!=(j:Int))=true:=by rw[bne_iff_ne];omega
    have a6:(j:Int)<(i:Int):=by omega
    have T:Hid ((m:Int)-(i:Int)=((m-i:Nat):Int)):=by unfold Hid;omega
    go_wp2_with fail
    rw[Aa T];refine(Hr H ah N F Y I dk _ _ _ _ af (by omega) (by omega) ae (Aa aj)).mono ?_;rintro e ao ⟨rfl,G,E⟩;have U:=Ab G;have O:=Ab (Bf (Aa ai) E);have c0:=E.cell aw (by simp;omega);have c1:=E.cell ax (by simp;omega);have ak:=VG ay E.size;have Z:=Ab ((Stab.rot_gt dk m i j M (by omega)).trans (Aa ag));clear G E;go_wp2;go_roundw
    case rel=>exact⟨i-j,j,_,by omega,a7,by omega,a4,by go_num,rfl,Aa Z,Aa U,Aa O,⟨c0,c1⟩,ak⟩
    case measure=>simp[intOf];omega
set_option maxRecDepth 100000 in
theorem A3 (H:Value)(bj:Hid (H=typeHandle Tryz.prog 230))(N F I G:Nat)(d:Nat->Int×Int)(a m b:Nat)(w:World)(ah:Hid (m=a+1))(bi:N<=288)(b5:m<b)(b3:b<=N)(al:F<w.heap.size)(bf:I<w.heap.size)(ce:I≠F)
 (az:w.cell? ⟨I,0,none⟩=some (.slice (some ⟨F,0,none⟩) N G)) (ak:PS N F d w) (av:Stab.Srt Stab.lx d m b) (ao:Stab.Cross d a m b):
 Calls Tryz.prog 226 #[.agg #[LF I,SF H N F G],.int .i64 a,.int .i64 m,.int .i64 b] w fun e w'=>e=.returned (.tuple #[])/\∃d',PS N F d' w'/\Stab.Moved a b d d'/\Stab.Srt Stab.lx d' a b/\w.grownBy w' (some F):=by
 have au:=Ab ak;have bc:=Ab av;have bb:=Ab ao;have a6:=Ab az;have cd:((m:Int)-(a:Int)==1)=true:=by rw[beq_iff_eq];have:=Aa ah;omega
 have bo:a<m:=by have:=Aa ah;omega
 clear ak av ao az;go_enter Tryz.func226,Tryz.ntmps226
 go_wp2;go_loopw [8,9,10] (fun ae af b7 wr=>∃i j q:Nat,m<=i/\i<=j/\j<=b/\ae=.int .i64 i/\af=.int .i64 j/\(m<i->Stab.lx (d (i-1)) (d a))/\(j<b->Stab.lx (d a) (d j))/\wr=(w.alloc (.cells #[LF I,SF H N F G] 277)).drewN q) (fun ae af _ _=>(intOf af).toNat-(intOf ae).toNat)
 case atStart=>exact⟨m,b,0,VB _,by omega,VB _,rfl,rfl,fun H=>by omega,fun H=>by omega,rfl⟩
 case round=>
  obtain⟨i,j,q,hi,b0,aa,rfl,rfl,a2,ap,rfl⟩:=hrel;have ac:=Ab a2;have ay:=Ab ap;clear a2 ap
  by_cases b9:i<j
  . obtain⟨c,bh⟩:∃c,c=(i+j)/2:=⟨_,rfl⟩
    have a1:i<=c:=by omega
    have ar:c<j:=by omega
    have E:Hid (((i:Int)+(j:Int))/2=(c:Int)):=by unfold Hid;omega
    have Y:=Stab.cross_less (Aa bb a c (VB _) bo (by omega) (by omega));clear bh;go_wp2_with fail
    rw[Aa E];refine(Pe N F I G d _ c a (by omega) (by omega) bi (((Aa au).alloc al _).drewN q) (by rw[World.cell?_drewN,World.cell?_alloc_past _ _ _ bf];exact Aa a6)).mono ?_;rintro e a5 ⟨rfl,cg,rfl⟩;rw[World.drewN_drewN]
    cases U:decide ((d c).1<(d a).1)with
    |true=>
     have Z:=Ab (Y.1 U);clear Y U;go_wp2;go_roundw
     case rel=>exact⟨c+1,j,_,by omega,by omega,aa,by go_num,rfl,fun _=>Aa Z,Aa ay,rfl⟩
     case measure=>simp[intOf];omega
    |false=>
     have Z:=Ab (Y.2 U);clear Y U;go_wp2;go_roundw
     case rel=>exact⟨i,c,_,hi,by omega,by omega,rfl,rfl,Aa ac,fun _=>Aa Z,rfl⟩
     case measure=>simp[intOf];omega
  . obtain rfl:i=j:=by omega
    have cj:¬(i:Int)<(i:Int):=by omega
    have a7:Hid (Stab.rot d a (a+1) (a+1)=d):=Stab.rot_right d a (a+1);have bv:Hid (PS N F d ((w.alloc (.cells #[LF I,SF H N F G] 277)).drewN q)):=((Aa au).alloc al _).drewN q;have bq:Hid (w.grownBy ((w.alloc (.cells #[LF I,SF H N F G] 277)).drewN q) (some F)):=Fa (Bt (Bp _ _) _) q;have bd:((w.alloc (.cells #[LF I,SF H N F G] 277)).drewN q).cell? ⟨w.heap.size,1,none⟩=some (SF H N F G):=by simp
    have bw:w.heap.size<((w.alloc (.cells #[LF I,SF H N F G] 277)).drewN q).heap.size:=by simp
    generalize (w.alloc (.cells #[LF I,SF H N F G] 277)).drewN q=bz at*;go_wp2;go_loopw [11] (fun vk T=>∃k:Nat,a<=k/\k<i/\vk=.int .i64 k/\PS N F (Stab.rot d a (a+1) (k+1)) T/\w.grownBy T (some F)/\T.cell? ⟨w.heap.size,1,none⟩=some (SF H N F G)/\w.heap.size<T.heap.size) (fun vk _=>i-(intOf vk).toNat)
    case atStart=>exact⟨a,VB _,by omega,rfl,by rw[Aa a7];exact Aa bv,Aa bq,bd,bw⟩
    case round=>
     obtain⟨k,ba,b4,rfl,aj,ai,a1,bn⟩:=hrel;have M:=Ab aj;have ax:=Ab ai;clear aj ai
     by_cases b8:k<i-1
     . have ck:(k:Int)<(i:Int)-1:=by omega
       have bk:=Ab (Stab.rot_up d a k ba);generalize Stab.rot d a (a+1) (k+1)=dk at*;have aw:=Ou N F G dk wr k (k+1) (by omega) (by omega) (Aa M);rw[<-Aa bj]at aw;push_cast at aw
       have bm:=Ab ((Aa M).sw k (k+1) (by omega) (by omega));have O:=Pi wr F dk k (k+1);have bg:=Ab (Bf (Aa ax) O);have ar:=O.cell a1 (by simp;omega);have a8:=VG bn O.size;clear O;generalize swW wr F dk k (k+1)=a5 at*;go_wp2;go_roundw
       case rel=>exact⟨k+1,by omega,by omega,by go_num,by rw[<-Aa bk];exact Aa bm,Aa bg,ar,a8⟩
       case measure=>simp[intOf];omega
     . obtain rfl:k=i-1:=by omega
       have ci:¬((i-1:Nat):Int)<(i:Int)-1:=by omega
       have a3:i-1+1=i:=by omega
       have a4:Hid (PS N F (Stab.rot d a (a+1) i) wr):=by rw[a3]at M;exact M
       have bu:=Ab ((Stab.moved_rot d a (a+1) i (by omega) (by omega)).wider (VB _) (by omega) aa);have ag:=Aa bc;rw[Aa ah]at ag ac;have a9:=Ab (Stab.ins_first (by omega) aa ag (Aa ac) (Aa ay));clear a3 ag M;go_wp2;refine bodyPost_ret (results_none rfl _ _ _) rfl ?_;exact⟨rfl,_,Aa a4,Aa bu,Aa a9,Aa ax⟩
set_option maxRecDepth 100000 in
theorem Xa (H:Value)(bj:Hid (H=typeHandle Tryz.prog 230))(N F I G:Nat)(d:Nat->Int×Int)(a m b:Nat)(w:World)(ah:Hid (b=m+1))(bh:N<=288)(ci:a+1<m)(a4:m<b)(b0:b<=N)(ap:F<w.heap.size)(bd:I<w.heap.size)(cd:I≠F)
 (a1:w.cell? ⟨I,0,none⟩=some (.slice (some ⟨F,0,none⟩) N G)) (ao:PS N F d w) (ax:Stab.Srt Stab.lx d a m) (ar:Stab.Cross d a m b):
 Calls Tryz.prog 226 #[.agg #[LF I,SF H N F G],.int .i64 a,.int .i64 m,.int .i64 b] w fun e w'=>e=.returned (.tuple #[])/\∃d',PS N F d' w'/\Stab.Moved a b d d'/\Stab.Srt Stab.lx d' a b/\w.grownBy w' (some F):=by
 have aw:=Ab ao;have bb:=Ab ax;have ba:=Ab ar;have a6:=Ab a1;have b4:((m:Int)-(a:Int)==1)=false:=by rw[beq_eq_false_iff_ne];omega
 have b9:((b:Int)-(m:Int)==1)=true:=by rw[beq_iff_eq];have:=Aa ah;omega
 clear ao ax ar a1;go_enter Tryz.func226,Tryz.ntmps226
 go_wp2;go_loopw [12,13,14] (fun aa ae b3 wr=>∃i j q:Nat,a<=i/\i<=j/\j<=m/\aa=.int .i64 i/\ae=.int .i64 j/\(a<i->Stab.lx (d (i-1)) (d m))/\(j<m->Stab.lx (d m) (d j))/\wr=(w.alloc (.cells #[LF I,SF H N F G] 277)).drewN q) (fun aa ae _ _=>(intOf ae).toNat-(intOf aa).toNat)
 case atStart=>exact⟨a,m,0,VB _,by omega,VB _,rfl,rfl,fun H=>by omega,fun H=>by omega,rfl⟩
 case round=>
  obtain⟨i,j,q,hi,bz,ai,rfl,rfl,a3,au,rfl⟩:=hrel;have aj:=Ab a3;have az:=Ab au;clear a3 au
  by_cases b8:i<j
  . obtain⟨c,bg⟩:∃c,c=(i+j)/2:=⟨_,rfl⟩
    have a2:i<=c:=by omega
    have av:c<j:=by omega
    have E:Hid (((i:Int)+(j:Int))/2=(c:Int)):=by unfold Hid;omega
    have Y:=Stab.cross_less (Aa ba c m (by omega) (by omega) (VB _) a4);clear bg;go_wp2_with fail
    rw[Aa E];refine(Pe N F I G d _ m c (by omega) (by omega) bh (((Aa aw).alloc ap _).drewN q) (by rw[World.cell?_drewN,World.cell?_alloc_past _ _ _ bd];exact Aa a6)).mono ?_;rintro e a5 ⟨rfl,ce,rfl⟩;rw[World.drewN_drewN]
    cases U:decide ((d m).1<(d c).1)with
    |true=>
     have Z:=Ab (Y.1 U);clear Y U;go_wp2;go_roundw
     case rel=>exact⟨i,c,_,hi,by omega,by omega,rfl,rfl,Aa aj,fun _=>Aa Z,rfl⟩
     case measure=>simp[intOf];omega
    |false=>
     have Z:=Ab (Y.2 U);clear Y U;go_wp2;go_roundw
     case rel=>exact⟨c+1,j,_,by omega,by omega,ai,by go_num,rfl,fun _=>Aa Z,Aa az,rfl⟩
     case measure=>simp[intOf];omega
  . obtain rfl:i=j:=by omega
    have cj:¬(i:Int)<(i:Int):=by omega
    have a7:Hid (Stab.rot d m m (m+1)=d):=Stab.rot_left d m (m+1);have bu:Hid (PS N F d ((w.alloc (.cells #[LF I,SF H N F G] 277)).drewN q)):=((Aa aw).alloc ap _).drewN q;have bo:Hid (w.grownBy ((w.alloc (.cells #[LF I,SF H N F G] 277)).drewN q) (some F)):=Fa (Bt (Bp _ _) _) q;have bc:((w.alloc (.cells #[LF I,SF H N F G] 277)).drewN q).cell? ⟨w.heap.size,1,none⟩=some (SF H N F G):=by simp
    have bv:w.heap.size<((w.alloc (.cells #[LF I,SF H N F G] 277)).drewN q).heap.size:=by simp
    generalize (w.alloc (.cells #[LF I,SF H N F G] 277)).drewN q=bw at*;go_wp2;go_loopw [15] (fun vk T=>∃k:Nat,i<=k/\k<=m/\vk=.int .i64 k/\PS N F (Stab.rot d k m (m+1)) T/\w.grownBy T (some F)/\T.cell? ⟨w.heap.size,1,none⟩=some (SF H N F G)/\w.heap.size<T.heap.size) (fun vk _=>(intOf vk).toNat)
    case atStart=>exact⟨m,ai,VB _,rfl,by rw[Aa a7];exact Aa bu,Aa bo,bc,bv⟩
    case round=>
     obtain⟨k,b7,ac,rfl,al,ak,a2,bn⟩:=hrel;have M:=Ab al;have ay:=Ab ak;clear al ak
     by_cases b5:i<k
     . have bk:=Ab (Stab.rot_down d k m (by omega) ac);generalize Stab.rot d k m (m+1)=dk at*;have bi:=Ou N F G dk wr k (k-1) (by omega) (by omega) (Aa M);rw[<-Aa bj,show ((k-1:Nat):Int)=(k:Int)-1 by omega]at bi;have bm:=Ab ((Aa M).sw k (k-1) (by omega) (by omega));have O:=Pi wr F dk k (k-1);have bf:=Ab (Bf (Aa ay) O);have av:=O.cell a2 (by simp;omega);have a8:=VG bn O.size;clear O;generalize swW wr F dk k (k-1)=a5 at*;go_wp2;go_roundw
       case rel=>exact⟨k-1,by omega,by omega,by go_num,by rw[<-Aa bk];exact Aa bm,Aa bf,av,a8⟩
       case measure=>simp[intOf];omega
     . obtain rfl:k=i:=by omega
       have cg:¬(k:Int)<(k:Int):=by omega
       have af:=(Stab.moved_rot d k m (m+1) ac (by omega)).wider hi (by omega) (VB _);have ag:=Stab.ins_last hi ac (Aa bb) (Aa aj) (Aa az);rw[<-Aa ah]at af ag;have bq:=Ab af;have a9:=Ab ag;rw[<-Aa ah]at M;clear af ag;go_wp2;refine bodyPost_ret (results_none rfl _ _ _) rfl ?_;exact⟨rfl,_,Aa M,Aa bq,Aa a9,Aa ay⟩
def Q0 (h:Value)(N bp bx cap L:Nat):Prop:=∀(d:Nat->Int×Int) (a m b:Nat) (w:World),b-a<=L->a<m->m<b->b<=N->bp<w.heap.size->bx<w.heap.size->
 w.cell? ⟨bx,0,none⟩=some (.slice (some ⟨bp,0,none⟩) N cap)->PS N bp d w->Stab.Srt Stab.lx d a m->Stab.Srt Stab.lx d m b->Stab.Cross d a m b->
 Calls Tryz.prog 226 #[.agg #[LF bx,SF h N bp cap],.int .i64 a,.int .i64 m,.int .i64 b] w fun e w'=>e=.returned (.tuple #[])/\∃d',PS N bp d' w'/\Stab.Moved a b d d'/\Stab.Srt Stab.lx d' a b/\w.grownBy w' (some bp)
structure MSt (h:Value)(N bp bx cap:Nat)(w W:World)(D:Nat->Int×Int):Prop where
 ps:PS N bp D W
 grown:w.grownBy W (some bp)
 c0:W.cell? ⟨w.heap.size,0,none⟩=some (LF bx)
 c1:W.cell? ⟨w.heap.size,1,none⟩=some (SF h N bp cap)
 box:W.cell? ⟨bx,0,none⟩=some (.slice (some ⟨bp,0,none⟩) N cap)
 new:bp<w.heap.size
theorem MSt.next {I:Value}{N E F M:Nat}{w W W':World}{O H:Nat->Int×Int}(s:MSt I N E F M w W O)(U:F<w.heap.size)(T:F≠E)(p:PS N E H W')(G:W.grownBy W' (some E)):MSt I N E F M w W' H:=
 ⟨p,Bf s.grown G,G.cell s.c0 (by have:=s.new;simp;omega),G.cell s.c1 (by have:=s.new;simp;omega),G.cell s.box (by simpa using T),s.new⟩
theorem Ko {F H:Nat->Int×Int}{a st E G b:Nat}(M:(Stab.Srt Stab.lx F a st/\Stab.Srt Stab.lx F st E/\Stab.Cross F a st E)/\(Stab.Srt Stab.lx F E G/\Stab.Srt Stab.lx F G b/\Stab.Cross F E G b))(I:Stab.Moved a E F H)(T:E<=G):
 Stab.Srt Stab.lx H E G/\Stab.Srt Stab.lx H G b/\Stab.Cross H E G b:=
 ⟨M.2.1.congr (fun k O _=>I.out k (by omega)),M.2.2.1.congr (fun k O _=>I.out k (by omega)),M.2.2.2.congr (fun k O _=>I.out k (by omega))⟩
set_option maxRecDepth 100000 in
theorem Lh (Z:Value)(bj:Hid (Z=typeHandle Tryz.prog 230))(N ae al ao L:Nat)(bc:Hid (Q0 Z N ae al ao L))(d:Nat->Int×Int)(a m b H az a3:Nat)(w:World)(bh:N<=288)(dj:b-a<=L+1)(dv:a+1<m)(dc:m+1<b)(df:b<=N)(ar:ae<w.heap.size)(aj:al<w.heap.size)(ax:al≠ae)
 (cj:Hid (H=(a+b)/2)) (bg:Hid ((H<m/\az+b=H+m/\a3=H)\/ (m<=H/\az=a/\a3=m)))
 (cq:w.cell? ⟨al,0,none⟩=some (.slice (some ⟨ae,0,none⟩) N ao)) (b9:PS N ae d w) (co:Stab.Srt Stab.lx d a m) (ck:Stab.Srt Stab.lx d m b) (cd:Stab.Cross d a m b):
 Calls Tryz.prog 226 #[.agg #[LF al,SF Z N ae ao],.int .i64 a,.int .i64 m,.int .i64 b] w fun e w'=>e=.returned (.tuple #[])/\∃d',PS N ae d' w'/\Stab.Moved a b d d'/\Stab.Srt Stab.lx d' a b/\w.grownBy w' (some ae):=by
 have cg:=Ab b9;have a2:=Ab co;have a5:=Ab ck;have ci:=Ab cd;have b7:=Ab cq;have dw:((m:Int)-(a:Int)==1)=false:=by rw[beq_eq_false_iff_ne];omega
 have dh:((b:Int)-(m:Int)==1)=false:=by rw[beq_eq_false_iff_ne];omega
 have bk:a<=az/\az<=a3/\a3<=m/\a3<=H/\a<H/\H<b/\H+m<=az+b:=by have:=Aa cj;have:=Aa bg;omega
 obtain⟨dm,cn,ds,db,du,de,di⟩:=bk;have b5:((a:Int)+(b:Int))/2=(H:Int):=by have:=Aa cj;omega
 have bf:=Ab b5;clear b9 co ck cd cq b5
 rcases Aa bg with ⟨cv,bz,b0⟩|⟨cv,bz,b0⟩
 case' inl=>have cz:((a:Int)+(b:Int))/2<(m:Int):=by rw[Aa bf];omega
 case' inr=>have cz:¬((a:Int)+(b:Int))/2<(m:Int):=by rw[Aa bf];omega
 all_goals
  have cm:=Ab bz;have b8:=Ab b0;clear bz b0;go_enter Tryz.func226,Tryz.ntmps226
  go_wp2;go_loopw [18,19,21] (fun bv bw dn wr=>∃st r q:Nat,az<=st/\st<=r/\r<=a3/\bv=.int .i64 st/\bw=.int .i64 r/\(az<st->Stab.lx (d (st-1)) (d (H+m-st)))/\(r<a3->Stab.lx (d (H+m-1-r)) (d r))/\wr=(w.alloc (.cells #[LF al,SF Z N ae ao] 277)).drewN q) (fun bv bw _ _=>(intOf bw).toNat-(intOf bv).toNat)
  case atStart=>exact⟨az,a3,0,VB _,cn,VB _,congrArg (Value.int .i64) (by have:=Aa cm;have:=Aa bf;omega),congrArg (Value.int .i64) (by have:=Aa b8;have:=Aa bf;omega),fun Z=>by omega,fun Z=>by omega,rfl⟩
  case round=>
   obtain⟨st,r,q,cw,dd,cu,rfl,rfl,bk,ce,rfl⟩:=hrel;have bu:=Ab bk;have b3:=Ab ce;clear bk ce
   by_cases dr:st<r
   . obtain⟨c,c7⟩:∃c,c=(st+r)/2:=⟨_,rfl⟩
     have da:st<=c:=by omega
     have dp:c<r:=by omega
     have E:Hid (((st:Int)+(r:Int))/2=(c:Int)):=by unfold Hid;omega
     have c5:Hid (((a:Int)+(b:Int))/2+(m:Int)-1-(c:Int)=((H+m-1-c:Nat):Int)):=by unfold Hid;have:=Aa bf;omega
     have bm:=Stab.cross_less (Aa ci c (H+m-1-c) (by omega) (by omega) (by omega) (by omega));clear c7;go_wp2_with fail
     rw[Aa E,Aa c5];refine(Pe N ae al ao d _ (H+m-1-c) c (by omega) (by omega) bh (((Aa cg).alloc ar _).drewN q) (by rw[World.cell?_drewN,World.cell?_alloc_past _ _ _ aj];exact Aa b7)).mono ?_;rintro e bq ⟨rfl,cn,rfl⟩;rw[World.drewN_drewN]
     cases bi:decide ((d (H+m-1-c)).1<(d c).1)with
     |true=>
      have bn:=Ab (bm.1 bi);clear bm bi;go_wp2;go_roundw
      case rel=>exact⟨st,c,_,cw,da,by omega,rfl,rfl,Aa bu,fun _=>Aa bn,rfl⟩
      case measure=>simp[intOf];omega
     |false=>
      have bn:=Ab (bm.2 bi);have c6:Hid (H+m-(c+1)=H+m-1-c):=by unfold Hid;omega
      clear bm bi;go_wp2;go_roundw
      case rel=>exact⟨c+1,r,_,by omega,by omega,cu,by go_num,rfl,fun _=>by rw[Aa c6];exact Aa bn,Aa b3,rfl⟩
      case measure=>simp[intOf];omega
   . obtain rfl:st=r:=by omega
     have dx:¬(st:Int)<(st:Int):=by omega
     obtain⟨G,c9⟩:∃G,G+st=H+m:=⟨H+m-st,by omega⟩
     have dl:(H:Int)+(m:Int)-(st:Int)=(G:Int):=by omega
     have a7:H+m=st+G:=by omega
     have c8:m<=G:=by have:=Aa bg;omega
     have cy:G<=b:=by omega
     have a9:H<=G:=by omega
     have aa:=Ab (Stab.merge_parts (show a<=st by omega) (show st<=m by omega) c8 cy a7 (Aa a2) (Aa a5) (Aa ci))
     have a8:Hid (a<st->G<b->Stab.lx (d (st-1)) (d G)):=fun c1 c2=>by
      have Z:=Aa bu (by have:=Aa cm;have:=Aa bg;omega);rw[show H+m-st=G by omega]at Z;exact Z
     have ba:Hid (st<m->m<G->Stab.lx (d (G-1)) (d st)):=fun c1 c2=>by
      have Z:=Aa b3 (by have:=Aa b8;have:=Aa bg;omega);rw[show H+m-1-st=G-1 by omega]at Z;exact Z
     have ak:Hid (MSt Z N ae al ao w ((w.alloc (.cells #[LF al,SF Z N ae ao] 277)).drewN q) d):=⟨((Aa cg).alloc ar _).drewN q,Fa (Bt (Bp _ _) _) q,by rw[World.cell?_drewN];simp,by rw[World.cell?_drewN];simp,by rw[World.cell?_drewN,World.cell?_alloc_past _ _ _ aj];exact Aa b7,ar⟩
     have dt:=(Aa ak).c0;have dq:=(Aa ak).c1;rw[Aa bf];generalize (w.alloc (.cells #[LF al,SF Z N ae ao] 277)).drewN q=b4 at*;have Y:(st<m/\m<G/\a<st/\G<b/\st<H/\H<G)\/ (st<m/\m<G/\a<st/\G=b/\st<H/\H<G)\/ (st<m/\m<G/\st=a/\G<b/\st<H/\H<G)\/ (st<m/\m<G/\st=a/\G=b/\st<H/\H<G)\/ (st=m/\G=H/\a<st/\st<H)\/ (st=m/\G=H/\a<st/\st=H)\/ (st<m/\G=m/\st=H/\a<st/\H<G/\G<b):=by omega
     clear bu b3 c9
     rcases Y with Y|Y|Y|Y|Y|Y|Y
     . have k1:(st:Int)<(m:Int):=by omega
       have k2:(m:Int)<(G:Int):=by omega
       have l1:(a:Int)<(st:Int):=by omega
       have l2:(st:Int)<(H:Int):=by omega
       have n1:(H:Int)<(G:Int):=by omega
       have n2:(G:Int)<(b:Int):=by omega
       have F:=Ab Y;clear Y;go_wp2_with fail
       refine(Jv Z bj N ae al ao d st m G _ bh (by have:=Aa F;omega) (by have:=Aa F;omega) (by have:=Aa F;omega) (VG ar (Aa ak).grown.size) (Aa ak).ps).mono ?_;rintro e bo ⟨rfl,aw,g1⟩;have I:=Ab ((Aa ak).next aj ax aw g1);have bd:=(Aa I).c0;have bb:=(Aa I).c1;clear aw g1;go_wp2_with fail
       refine(Aa bc (Stab.rot d st m G) a st H _ (by have:=Aa F;omega) (by have:=Aa F;omega) (by have:=Aa F;omega) (by have:=Aa F;omega) (VG ar (Aa I).grown.size) (VG aj (Aa I).grown.size) (Aa I).box (Aa I).ps (Aa aa).1.1 (Aa aa).1.2.1 (Aa aa).1.2.2).mono ?_;rintro e bq ⟨rfl,O,ay,m1,a4,g2⟩;have M:=Ab ((Aa I).next aj ax ay g2);have ac:=Ab m1;have ap:=Ab a4;have cp:=(Aa M).c0;have ct:=(Aa M).c1;clear ay g2 m1 a4;have ai:=Ab (Ko (Aa aa) (Aa ac) a9);go_wp2_with fail
       refine(Aa bc O H G b _ (by have:=Aa F;omega) (by have:=Aa F;omega) (by have:=Aa F;omega) (by have:=Aa F;omega) (VG ar (Aa M).grown.size) (VG aj (Aa M).grown.size) (Aa M).box (Aa M).ps (Aa ai).1 (Aa ai).2.1 (Aa ai).2.2).mono ?_;rintro e w3 ⟨rfl,T,a6,m2,a1,g3⟩;have U:=Ab ((Aa M).next aj ax a6 g3);have au:=Ab m2;have av:=Ab a1;clear a6 g3 m2 a1;have af:=Ab (Stab.merge_step Stab.lx_trans (by have:=Aa F;omega) (by have:=Aa F;omega) (by have:=Aa F;omega) (by have:=Aa F;omega) a7 (Aa a2) (Aa a5) (Aa a8) (Aa ba) (Aa ac) (Aa ap) (Aa au) (Aa av));go_wp2
       all_goals (go_end0;exact⟨rfl,T,(Aa U).ps,(Aa af).2,(Aa af).1,(Aa U).grown⟩)
     . have k1:(st:Int)<(m:Int):=by omega
       have k2:(m:Int)<(G:Int):=by omega
       have l1:(a:Int)<(st:Int):=by omega
       have l2:(st:Int)<(H:Int):=by omega
       have n1:(H:Int)<(G:Int):=by omega
       have n2:¬(G:Int)<(b:Int):=by omega
       have F:=Ab Y;clear Y;go_wp2_with fail
       refine(Jv Z bj N ae al ao d st m G _ bh (by have:=Aa F;omega) (by have:=Aa F;omega) (by have:=Aa F;omega) (VG ar (Aa ak).grown.size) (Aa ak).ps).mono ?_;rintro e bo ⟨rfl,aw,g1⟩;have I:=Ab ((Aa ak).next aj ax aw g1);have bd:=(Aa I).c0;have bb:=(Aa I).c1;clear aw g1;go_wp2_with fail
       refine(Aa bc (Stab.rot d st m G) a st H _ (by have:=Aa F;omega) (by have:=Aa F;omega) (by have:=Aa F;omega) (by have:=Aa F;omega) (VG ar (Aa I).grown.size) (VG aj (Aa I).grown.size) (Aa I).box (Aa I).ps (Aa aa).1.1 (Aa aa).1.2.1 (Aa aa).1.2.2).mono ?_;rintro e bq ⟨rfl,O,ay,m1,a4,g2⟩;have M:=Ab ((Aa I).next aj ax ay g2);have ac:=Ab m1;have ap:=Ab a4;have cp:=(Aa M).c0;have ct:=(Aa M).c1;clear ay g2 m1 a4;have ai:=Ab (Ko (Aa aa) (Aa ac) a9);have U:=M;obtain⟨T,ag⟩:∃T,T=O:=⟨_,rfl⟩
       rw[<-ag]at U;have au:Hid (Stab.Moved H b O T):=by rw[ag];exact Stab.Moved.refl _ _ _
       have av:Hid (Stab.Srt Stab.lx T H b):=by rw[ag];exact(Aa ai).1.sub (VB _) (by have:=Aa F;omega)
       clear ag;have af:=Ab (Stab.merge_step Stab.lx_trans (by have:=Aa F;omega) (by have:=Aa F;omega) (by have:=Aa F;omega) (by have:=Aa F;omega) a7 (Aa a2) (Aa a5) (Aa a8) (Aa ba) (Aa ac) (Aa ap) (Aa au) (Aa av));go_wp2
       all_goals (go_end0;exact⟨rfl,T,(Aa U).ps,(Aa af).2,(Aa af).1,(Aa U).grown⟩)
     . have k1:(st:Int)<(m:Int):=by omega
       have k2:(m:Int)<(G:Int):=by omega
       have l1:¬(a:Int)<(st:Int):=by omega
       have n1:(H:Int)<(G:Int):=by omega
       have n2:(G:Int)<(b:Int):=by omega
       have F:=Ab Y;clear Y;go_wp2_with fail
       refine(Jv Z bj N ae al ao d st m G _ bh (by have:=Aa F;omega) (by have:=Aa F;omega) (by have:=Aa F;omega) (VG ar (Aa ak).grown.size) (Aa ak).ps).mono ?_;rintro e bo ⟨rfl,aw,g1⟩;have I:=Ab ((Aa ak).next aj ax aw g1);have bd:=(Aa I).c0;have bb:=(Aa I).c1;clear aw g1;have M:=I;obtain⟨O,ah⟩:∃O,O=Stab.rot d st m G:=⟨_,rfl⟩
       rw[<-ah]at M;have ac:Hid (Stab.Moved a H (Stab.rot d st m G) O):=by rw[ah];exact Stab.Moved.refl _ _ _
       have ap:Hid (Stab.Srt Stab.lx O a H):=by rw[ah];exact(Aa aa).1.2.1.sub (by have:=Aa F;omega) (VB _)
       clear ah;have ai:=Ab (Ko (Aa aa) (Aa ac) a9);go_wp2_with fail
       refine(Aa bc O H G b _ (by have:=Aa F;omega) (by have:=Aa F;omega) (by have:=Aa F;omega) (by have:=Aa F;omega) (VG ar (Aa M).grown.size) (VG aj (Aa M).grown.size) (Aa M).box (Aa M).ps (Aa ai).1 (Aa ai).2.1 (Aa ai).2.2).mono ?_;rintro e w3 ⟨rfl,T,a6,m2,a1,g3⟩;have U:=Ab ((Aa M).next aj ax a6 g3);have au:=Ab m2;have av:=Ab a1;clear a6 g3 m2 a1;have af:=Ab (Stab.merge_step Stab.lx_trans (by have:=Aa F;omega) (by have:=Aa F;omega) (by have:=Aa F;omega) (by have:=Aa F;omega) a7 (Aa a2) (Aa a5) (Aa a8) (Aa ba) (Aa ac) (Aa ap) (Aa au) (Aa av));go_wp2
       all_goals (go_end0;exact⟨rfl,T,(Aa U).ps,(Aa af).2,(Aa af).1,(Aa U).grown⟩)
     . have k1:(st:Int)<(m:Int):=by omega
       have k2:(m:Int)<(G:Int):=by omega
       have l1:¬(a:Int)<(st:Int):=by omega
       have n1:(H:Int)<(G:Int):=by omega
       have n2:¬(G:Int)<(b:Int):=by omega
       have F:=Ab Y;clear Y;go_wp2_with fail
       refine(Jv Z bj N ae al ao d st m G _ bh (by have:=Aa F;omega) (by have:=Aa F;omega) (by have:=Aa F;omega) (VG ar (Aa ak).grown.size) (Aa ak).ps).mono ?_;rintro e bo ⟨rfl,aw,g1⟩;have I:=Ab ((Aa ak).next aj ax aw g1);have bd:=(Aa I).c0;have bb:=(Aa I).c1;clear aw g1;have M:=I;obtain⟨O,ah⟩:∃O,O=Stab.rot d st m G:=⟨_,rfl⟩
       rw[<-ah]at M;have ac:Hid (Stab.Moved a H (Stab.rot d st m G) O):=by rw[ah];exact Stab.Moved.refl _ _ _
       have ap:Hid (Stab.Srt Stab.lx O a H):=by rw[ah];exact(Aa aa).1.2.1.sub (by have:=Aa F;omega) (VB _)
       clear ah;have ai:=Ab (Ko (Aa aa) (Aa ac) a9);have U:=M;obtain⟨T,ag⟩:∃T,T=O:=⟨_,rfl⟩
       rw[<-ag]at U;have au:Hid (Stab.Moved H b O T):=by rw[ag];exact Stab.Moved.refl _ _ _
       have av:Hid (Stab.Srt Stab.lx T H b):=by rw[ag];exact(Aa ai).1.sub (VB _) (by have:=Aa F;omega)
       clear ag;have af:=Ab (Stab.merge_step Stab.lx_trans (by have:=Aa F;omega) (by have:=Aa F;omega) (by have:=Aa F;omega) (by have:=Aa F;omega) a7 (Aa a2) (Aa a5) (Aa a8) (Aa ba) (Aa ac) (Aa ap) (Aa au) (Aa av));go_wp2
       all_goals (go_end0;exact⟨rfl,T,(Aa U).ps,(Aa af).2,(Aa af).1,(Aa U).grown⟩)
     . have k1:¬(st:Int)<(m:Int):=by omega
       have l1:(a:Int)<(st:Int):=by omega
       have l2:(st:Int)<(H:Int):=by omega
       have n1:¬(H:Int)<(G:Int):=by omega
       have F:=Ab Y;clear Y;have I:Hid (MSt Z N ae al ao w b4 (Stab.rot d st m G)):=by rw[show Stab.rot d st m G=d from by rw[show st=m by have:=Aa F;omega];exact Stab.rot_left d m G];exact Aa ak
       have bd:=(Aa I).c0;have bb:=(Aa I).c1;go_wp2_with fail
       refine(Aa bc (Stab.rot d st m G) a st H _ (by have:=Aa F;omega) (by have:=Aa F;omega) (by have:=Aa F;omega) (by have:=Aa F;omega) (VG ar (Aa I).grown.size) (VG aj (Aa I).grown.size) (Aa I).box (Aa I).ps (Aa aa).1.1 (Aa aa).1.2.1 (Aa aa).1.2.2).mono ?_;rintro e bq ⟨rfl,O,ay,m1,a4,g2⟩;have M:=Ab ((Aa I).next aj ax ay g2);have ac:=Ab m1;have ap:=Ab a4;have cp:=(Aa M).c0;have ct:=(Aa M).c1;clear ay g2 m1 a4;have ai:=Ab (Ko (Aa aa) (Aa ac) a9);have U:=M;obtain⟨T,ag⟩:∃T,T=O:=⟨_,rfl⟩
       rw[<-ag]at U;have au:Hid (Stab.Moved H b O T):=by rw[ag];exact Stab.Moved.refl _ _ _
       have av:Hid (Stab.Srt Stab.lx T H b):=by rw[ag];exact(Aa ai).2.1.sub (by have:=Aa F;omega) (VB _)
       clear ag;have af:=Ab (Stab.merge_step Stab.lx_trans (by have:=Aa F;omega) (by have:=Aa F;omega) (by have:=Aa F;omega) (by have:=Aa F;omega) a7 (Aa a2) (Aa a5) (Aa a8) (Aa ba) (Aa ac) (Aa ap) (Aa au) (Aa av));go_wp2
       all_goals (go_end0;exact⟨rfl,T,(Aa U).ps,(Aa af).2,(Aa af).1,(Aa U).grown⟩)
     . have k1:¬(st:Int)<(m:Int):=by omega
       have l1:(a:Int)<(st:Int):=by omega
       have l2:¬(st:Int)<(H:Int):=by omega
       have n1:¬(H:Int)<(G:Int):=by omega
       have F:=Ab Y;clear Y;have I:Hid (MSt Z N ae al ao w b4 (Stab.rot d st m G)):=by rw[show Stab.rot d st m G=d from by rw[show st=m by have:=Aa F;omega];exact Stab.rot_left d m G];exact Aa ak
       have bd:=(Aa I).c0;have bb:=(Aa I).c1;have M:=I;obtain⟨O,ah⟩:∃O,O=Stab.rot d st m G:=⟨_,rfl⟩
       rw[<-ah]at M;have ac:Hid (Stab.Moved a H (Stab.rot d st m G) O):=by rw[ah];exact Stab.Moved.refl _ _ _
       have ap:Hid (Stab.Srt Stab.lx O a H):=by rw[ah];exact(Aa aa).1.1.sub (VB _) (by have:=Aa F;omega)
       clear ah;have ai:=Ab (Ko (Aa aa) (Aa ac) a9);have U:=M;obtain⟨T,ag⟩:∃T,T=O:=⟨_,rfl⟩
       rw[<-ag]at U;have au:Hid (Stab.Moved H b O T):=by rw[ag];exact Stab.Moved.refl _ _ _
       have av:Hid (Stab.Srt Stab.lx T H b):=by rw[ag];exact(Aa ai).2.1.sub (by have:=Aa F;omega) (VB _)
       clear ag;have af:=Ab (Stab.merge_step Stab.lx_trans (by have:=Aa F;omega) (by have:=Aa F;omega) (by have:=Aa F;omega) (by have:=Aa F;omega) a7 (Aa a2) (Aa a5) (Aa a8) (Aa ba) (Aa ac) (Aa ap) (Aa au) (Aa av));go_wp2
       all_goals (go_end0;exact⟨rfl,T,(Aa U).ps,(Aa af).2,(Aa af).1,(Aa U).grown⟩)
     . have k1:(st:Int)<(m:Int):=by omega
       have k2:¬(m:Int)<(G:Int):=by omega
       have l1:(a:Int)<(st:Int):=by omega
       have l2:¬(st:Int)<(H:Int):=by omega
       have n1:(H:Int)<(G:Int):=by omega
       have n2:(G:Int)<(b:Int):=by omega
       have F:=Ab Y;clear Y;have I:Hid (MSt Z N ae al ao w b4 (Stab.rot d st m G)):=by rw[show Stab.rot d st m G=d from by rw[show G=m by have:=Aa F;omega];exact Stab.rot_right d st m];exact Aa ak
       have bd:=(Aa I).c0;have bb:=(Aa I).c1;have M:=I;obtain⟨O,ah⟩:∃O,O=Stab.rot d st m G:=⟨_,rfl⟩
       rw[<-ah]at M;have ac:Hid (Stab.Moved a H (Stab.rot d st m G) O):=by rw[ah];exact Stab.Moved.refl _ _ _
       have ap:Hid (Stab.Srt Stab.lx O a H):=by rw[ah];exact(Aa aa).1.1.sub (VB _) (by have:=Aa F;omega)
       clear ah;have ai:=Ab (Ko (Aa aa) (Aa ac) a9);go_wp2_with fail
       refine(Aa bc O H G b _ (by have:=Aa F;omega) (by have:=Aa F;omega) (by have:=Aa F;omega) (by have:=Aa F;omega) (VG ar (Aa M).grown.size) (VG aj (Aa M).grown.size) (Aa M).box (Aa M).ps (Aa ai).1 (Aa ai).2.1 (Aa ai).2.2).mono ?_;rintro e w3 ⟨rfl,T,a6,m2,a1,g3⟩;have U:=Ab ((Aa M).next aj ax a6 g3);have au:=Ab m2;have av:=Ab a1;clear a6 g3 m2 a1;have af:=Ab (Stab.merge_step Stab.lx_trans (by have:=Aa F;omega) (by have:=Aa F;omega) (by have:=Aa F;omega) (by have:=Aa F;omega) a7 (Aa a2) (Aa a5) (Aa a8) (Aa ba) (Aa ac) (Aa ap) (Aa au) (Aa av));go_wp2
       all_goals (go_end0;exact⟨rfl,T,(Aa U).ps,(Aa af).2,(Aa af).1,(Aa U).grown⟩)
end Go.Proofs.YtleocpdblhbimaaGreatDoor
