import Derived.Test.YtleocpdblhbimaaGreatDoorQ1
import Derived.Lib.ReflectliteSwap
import Derived.Laws.IdiomCopy
set_option linter.unusedSimpArgs false
set_option maxHeartbeats 4000000
namespace Go.Proofs.YtleocpdblhbimaaGreatDoor
open Go.RowKit
set_option linter.unusedVariables false
def PS (N bp:Nat)(d:Nat->Int×Int)(W:World):Prop:=
 ∀k,k<N->(W.cell? ⟨bp,k*2,none⟩=some (.int .i64 (d k).1)/\W.frozen? ⟨bp,k*2,none⟩=false)/\(W.cell? ⟨bp,k*2+1,none⟩=some (.int .i64 (d k).2)/\W.frozen? ⟨bp,k*2+1,none⟩=false)
theorem Pe (N F G M:Nat)(d:Nat->Int×Int)(W:World)(i j:Nat)(H:i<N)(I:j<N)(U:N<=288)(E:PS N F d W)(T:W.cell? ⟨G,0,none⟩=some (.slice (some ⟨F,0,none⟩) N M)):
 Calls Tryz.prog 163 #[.int .i64 i,.int .i64 j,.pointer (some ⟨G,0,none⟩)] W fun e w'=>e=.returned (.bool (decide ((d i).1<(d j).1)))/\∃q,w'=W.drewN q:=by
 have c1:=(E i H).1.1;have c2:=(E j I).1.1;generalize (d i).1=x at*;generalize (d j).1=y at*;have Y:(i:Int)<(N:Int):=by omega
 have O:(j:Int)<(N:Int):=by omega
 clear E;go_enter Tryz.func163,Tryz.ntmps163
 go_wp2;go_quiet (fail)
 go_wp2;go_ret;exact⟨rfl,_,rfl⟩
def swW (W:World)(bp:Nat)(d:Nat->Int×Int)(i j:Nat):World:=
 (W.setCells bp (0+i*2) [.int .i64 (d j).1,.int .i64 (d j).2]).setCells bp (0+j*2) [.int .i64 (d i).1,.int .i64 (d i).2]
theorem Z84:(Tryz.prog.info? 230).map (·.size)=some 2:=by kernel_rfl
theorem Z9l (w:World):(isAgg 230).run Tryz.prog w=.ok true w:=by kernel_rfl
theorem Ou (N O T:Nat)(d:Nat->Int×Int)(W:World)(i j:Nat)(H:i<N)(M:j<N)(F:PS N O d W):
 (callFunc 224 #[.int .i64 i,.int .i64 j,.slice (some ⟨O,0,none⟩) N T,typeHandle Tryz.prog 230]).run Tryz.prog W=.ok (.value (.tuple #[])) (swW W O d i j):=by
 obtain⟨Y,U,G⟩:=XF.1 Z84
 have h:=Lib.run_swap_cells (P:=Tryz.prog) false 230 Y U Z9l O 0 N T i j H M [.int .i64 (d i).1,.int .i64 (d i).2] [.int .i64 (d j).1,.int .i64 (d j).2] (by rw[G];rfl) (by rw[G];rfl)
  (by intro v I;simp at I;rcases I with rfl|rfl<;>rfl) (by intro v I;simp at I;rcases I with rfl|rfl<;>rfl) W
  (by intro k v E;rw[G];match k,E with
   |0,E=>simp at E;subst E;simpa using (F i H).1.1
   |1,E=>simp at E;subst E;simpa using (F i H).2.1)
  (by intro k v E;rw[G];match k,E with
   |0,E=>simp at E;subst E;simpa using (F j M).1.1
   |1,E=>simp at E;subst E;simpa using (F j M).2.1)
  (by rw[G];intro k E;match k,E with
   |0,_=>simpa using (F i H).1.2
   |1,_=>simpa using (F i H).2.2)
  (by rw[G];intro k E;match k,E with
   |0,_=>simpa using (F j M).1.2
   |1,_=>simpa using (F j M).2.2)
 rw[run_callFunc_extern Tryz.func224 (by kernel_rfl) (by kernel_rfl) (by kernel_rfl) (e:=Extern.ReflectliteSwapper.swap false) (by kernel_rfl),h,G];rfl
theorem Bp (w:World)(r:Option Nat):w.grownBy w r:=⟨rfl,rfl,rfl,VB _,fun _ _ _=>rfl⟩
theorem Bf {a b c:World}{r:Option Nat}(E:a.grownBy b r)(k:b.grownBy c r):a.grownBy c r:=
 ⟨k.os.trans E.os,k.tape.trans E.tape,k.output.trans E.output,VU E.size k.size,fun i hi hr=>(k.block i (VG hi E.size) hr).trans (E.block i hi hr)⟩
theorem Fa {a b:World}{r:Option Nat}(E:a.grownBy b r)(n:Nat):a.grownBy (b.drewN n) r:=⟨E.os,E.tape,E.output,E.size,E.block⟩
theorem Bt {a b:World}{r:Option Nat}(E:a.grownBy b r)(o:Obj):a.grownBy (b.alloc o) r:=Bf E (World.grownBy_alloc b o r)
theorem GQ (w:World)(b i:Nat)(v:Value):w.grownBy (w.setCell ⟨b,i,none⟩ v) (some b):=
 ⟨rfl,rfl,rfl,by simp,fun k _ E=>heap_setCell_other w ⟨b,i,none⟩ k v (fun e=>E (by simp[e]))⟩
theorem Ji (b:Nat):∀(E:List Value) (o:Nat) (w:World),w.grownBy (w.setCells b o E) (some b)
 | [],o,w=>Bp _ _
 |v::E,o,w=>Bf (GQ w b o v) (Ji b E (o+1) _)
theorem Pi (W:World)(E:Nat)(d:Nat->Int×Int)(i j:Nat):W.grownBy (swW W E d i j) (some E):=Bf (Ji E _ _ W) (Ji E _ _ _)
theorem KP {W:World}{E o:Nat}{x y:Value}(G:(W.cell? ⟨E,o,none⟩).isSome=true)(I:(W.cell? ⟨E,o+1,none⟩).isSome=true):(W.setCells E o [x,y]).cell? ⟨E,o,none⟩=some x/\(W.setCells E o [x,y]).cell? ⟨E,o+1,none⟩=some y:=by
 have F:∀j,j< [x,y].length->(W.cell? ⟨E,o+j,none⟩).isSome=true:=by
  intro j H
  match j,H with
  |0,_=>exact G
  |1,_=>exact I
 exact⟨World.cell?_setCells_in E [x,y] o W F 0 (by simp),World.cell?_setCells_in E [x,y] o W F 1 (by simp)⟩
theorem Nc {W:World}{E o k:Nat}{x y:Value}(F:k<o\/o+2<=k):(W.setCells E o [x,y]).cell? ⟨E,k,none⟩=W.cell? ⟨E,k,none⟩:=
 World.cell?_setCells_out E [x,y] o W ⟨E,k,none⟩ (fun _ _=>by simpa using F)
theorem PS.sw {N E:Nat}{d:Nat->Int×Int}{W:World}(M:PS N E d W)(i j:Nat)(T:i<N)(U:j<N):PS N E (Stab.swp d i j) (swW W E d i j):=by
 intro k G;obtain⟨⟨c0,f0⟩,c1,f1⟩:=M k G;unfold swW;simp only[WG,World.frozen?_setCells,f0,f1,and_true];have I:∀q,q<N->(W.cell? ⟨E,q*2,none⟩).isSome=true/\(W.cell? ⟨E,q*2+1,none⟩).isSome=true:=fun q F=>⟨by rw[(M q F).1.1];rfl,by rw[(M q F).2.1];rfl⟩
 have O:∀q,q<N->((W.setCells E (i*2) [.int .i64 (d j).1,.int .i64 (d j).2]).cell? ⟨E,q*2,none⟩).isSome=true/\((W.setCells E (i*2) [.int .i64 (d j).1,.int .i64 (d j).2]).cell? ⟨E,q*2+1,none⟩).isSome=true:=by
  intro q F
  by_cases e:q=i
  . subst e;have:=KP (x:=.int .i64 (d j).1) (y:=.int .i64 (d j).2) (I q F).1 (I q F).2
    exact⟨by rw[this.1];rfl,by rw[this.2];rfl⟩
  . rw[Nc (o:=i*2) (k:=q*2) (by omega),Nc (o:=i*2) (k:=q*2+1) (by omega)];exact I q F
 unfold Stab.swp
 by_cases e2:k=j
 . subst e2;have:=KP (x:=.int .i64 (d i).1) (y:=.int .i64 (d i).2) (O k G).1 (O k G).2
   by_cases H:k=i
   . subst H;rw[if_pos rfl];exact this
   . rw[if_neg H,if_pos rfl];exact this
 . rw[Nc (o:=j*2) (k:=k*2) (by omega),Nc (o:=j*2) (k:=k*2+1) (by omega)]
   by_cases H:k=i
   . subst H;rw[if_pos rfl];exact KP (x:=.int .i64 (d j).1) (y:=.int .i64 (d j).2) (I k G).1 (I k G).2
   . rw[if_neg H,if_neg e2,Nc (o:=i*2) (k:=k*2) (by omega),Nc (o:=i*2) (k:=k*2+1) (by omega)];exact⟨c0,c1⟩
theorem PS.kept {N E:Nat}{d:Nat->Int×Int}{W W':World}(I:PS N E d W)(F:W.grownBy W' none)(G:E<W.heap.size):PS N E d W':=by
 intro k H;obtain⟨⟨c0,f0⟩,c1,f1⟩:=I k H;have e:=F.block E G (by simp);exact⟨⟨by rw[World.cell?_of_block (w:=W) (a:=⟨E,k*2,none⟩) e];exact c0,by rw[World.frozen?_of_block (w:=W) (a:=⟨E,k*2,none⟩) e];exact f0⟩,by rw[World.cell?_of_block (w:=W) (a:=⟨E,k*2+1,none⟩) e];exact c1,by rw[World.frozen?_of_block (w:=W) (a:=⟨E,k*2+1,none⟩) e];exact f1⟩
theorem PS.drewN {N E:Nat}{d:Nat->Int×Int}{W:World}(F:PS N E d W)(n:Nat):PS N E d (W.drewN n):=F
theorem PS.alloc {N E:Nat}{d:Nat->Int×Int}{W:World}(G:PS N E d W)(F:E<W.heap.size)(o:Obj):PS N E d (W.alloc o):=G.kept (World.grownBy_alloc W o none) F
abbrev LF (bx:Nat):Value:=.func (.func 163) #[] #[.pointer (some ⟨bx,0,none⟩)]
abbrev SF (h:Value)(N bp cap:Nat):Value:=.func (.func 224) #[] #[.slice (some ⟨bp,0,none⟩) N cap,h]
theorem Hr (I:Value)(ag:Hid (I=typeHandle Tryz.prog 230))(N E ai H:Nat)(d:Nat->Int×Int)(a b n:Nat)(w:World)(aq:N<=288)(am:a+n<=N)(ao:b+n<=N)(ae:E<w.heap.size)(aa:PS N E d w):
 Calls Tryz.prog 264 #[.agg #[LF ai,SF I N E H],.int .i64 a,.int .i64 b,.int .i64 n] w fun e w'=>e=.returned (.tuple #[])/\PS N E (Stab.swr d a b n) w'/\w.grownBy w' (some E):=by
 have ak:=Ab aa;clear aa;go_enter Tryz.func264,Tryz.ntmps264
 go_wp2;go_loopw [8] (fun G wr=>∃i:Nat,i<=n/\G=.int .i64 i/\PS N E (Stab.swr d a b i) wr/\w.grownBy wr (some E)/\wr.cell? ⟨w.heap.size,1,none⟩=some (SF I N E H)/\w.heap.size<wr.heap.size) (fun G _=>n-(intOf G).toNat)
 case atStart=>exact⟨0,VH _,rfl,(Aa ak).alloc ae _,Bt (Bp _ _) _,by simp,by simp⟩
 case round=>
  obtain⟨i,hi,rfl,T,Y,hc,al⟩:=hrel;have O:=Ab T;have Z:=Ab Y;have ah:Hid (Stab.swr d a b (i+1)=Stab.swp (Stab.swr d a b i) (a+i) (b+i)):=rfl;clear T Y
  by_cases ap:i<n
  . generalize Stab.swr d a b i=M at*;have U:=Ou N E H M wr (a+i) (b+i) (by omega) (by omega) (Aa O);rw[<-Aa ag]at U;push_cast at U
    have ac:=Ab ((Aa O).sw (a+i) (b+i) (by omega) (by omega));have F:=Pi wr E M (a+i) (b+i);have aj:=Ab (Bf (Aa Z) F);have ab:=F.cell hc (by simp;omega);have af:=VG al F.size;clear F;generalize swW wr E M (a+i) (b+i)=an at*;go_wp2;go_roundw
    case rel=>exact⟨i+1,by omega,by go_num,by rw[Aa ah];exact Aa ac,Aa aj,ab,af⟩
    case measure=>simp[intOf];omega
  . obtain rfl:i=n:=by omega
    go_wp2;go_end0
    exact⟨rfl,Aa O,Aa Z⟩
theorem Jv (H:Value)(af:Hid (H=typeHandle Tryz.prog 230))(N F T I:Nat)(d:Nat->Int×Int)(a m b:Nat)(w:World)(ac:N<=288)(a3:a<m)(a4:m<b)(a5:b<=N)(an:F<w.heap.size)(au:PS N F d w):
 Calls Tryz.prog 246 #[.agg #[LF T,SF H N F I],.int .i64 a,.int .i64 m,.int .i64 b] w fun e w'=>e=.returned (.tuple #[])/\PS N F (Stab.rot d a m b) w'/\w.grownBy w' (some F):=by
 have a2:=Ab au;have aw:Hid (Stab.rot d (m-(m-a)) m (m+(b-m))=Stab.rot d a m b):=by rw[show m-(m-a)=a by omega,show m+(b-m)=b by omega];exact rfl
 clear au;go_enter Tryz.func246,Tryz.ntmps246
 go_wp2
 go_loopw [8,9] (fun Z ah wr=>∃(i j:Nat) (dk:Nat->Int×Int),0<i/\0<j/\i<=m-a/\j<=b-m/\Z=.int .i64 i/\ah=.int .i64 j/\Stab.rot dk (m-i) m (m+j)=Stab.rot d a m b/\PS N F dk wr/\w.grownBy wr (some F)/\
  (wr.cell? ⟨w.heap.size,0,none⟩=some (LF T)/\wr.cell? ⟨w.heap.size,1,none⟩=some (SF H N F I))/\w.heap.size<wr.heap.size) (fun Z ah _=>(intOf Z).toNat+(intOf ah).toNat)
 case atStart=>exact⟨m-a,b-m,d,by omega,by omega,VB _,VB _,by go_num,by go_num,Aa aw,(Aa a2).alloc an _,Bt (Bp _ _) _,⟨by simp,by simp⟩,by simp⟩
 case round=>
  obtain⟨i,j,dk,ax,az,hi,a0,rfl,rfl,aq,as,ab,⟨ao,ap⟩,av⟩:=hrel;have aj:=Ab as;have ai:=Ab ab;have ak:=Ab aq;have aa:=VG an ab.size;clear as ab aq
  rcases ZR i j with M|M|M
  . have ar:((i:Int)!=(j:Int))=true:=by rw[bne_iff_ne];omega
    have a1:¬(j:Int)<(i:Int):=by omega
    have am:(m:Int)-(i:Int)=((m-i:Nat):Int):=by omega
    have e2:(m:Int)+(j:Int)-(i:Int)=((m+j-i:Nat):Int):=by omega
    have U:=Ab am;have ay:=Ab e2;clear am e2;go_wp2_with fail
    rw[Aa U,Aa ay];refine(Hr H af N F T I dk _ _ _ _ ac (by omega) (by omega) aa (Aa aj)).mono ?_;rintro e al ⟨rfl,G,E⟩;have Y:=Ab G;have O:=Ab (Bf (Aa ai) E);have c0:=E.cell ao (by simp;omega);have c1:=E.cell ap (by simp;omega);have ae:=VG av E.size;have ag:=Ab ((Stab.rot_lt dk m i j M (by omega)).trans (Aa ak));clear G E;go_wp2;go_roundw
    case rel=>exact⟨i,j-i,_,ax,by omega,hi,by omega,rfl,by go_num,Aa ag,Aa Y,Aa O,⟨c0,c1⟩,ae⟩
    case measure=>simp[intOf];omega
  . subst M;have ar:((i:Int)!=(i:Int))=false:=by simp
    have U:Hid ((m:Int)-(i:Int)=((m-i:Nat):Int)):=by unfold Hid;omega
    go_wp2_with fail
    rw[Aa U];refine(Hr H af N F T I dk _ _ _ _ ac (by omega) (by omega) aa (Aa aj)).mono ?_;rintro e al ⟨rfl,G,E⟩;rw[Stab.rot_eq dk m i (by omega),Aa ak]at G;have Y:=Ab G;have O:=Ab (Bf (Aa ai) E);clear G E;go_wp2;go_end0
    exact⟨rfl,Aa Y,Aa O⟩
  . have ar:((i:Int)!=(j:Int))=true:=by rw[bne_iff_ne];omega
    have a1:(j:Int)<(i:Int):=by omega
    have U:Hid ((m:Int)-(i:Int)=((m-i:Nat):Int)):=by unfold Hid;omega
    go_wp2_with fail
    rw[Aa U];refine(Hr H af N F T I dk _ _ _ _ ac (by omega) (by omega) aa (Aa aj)).mono ?_;rintro e al ⟨rfl,G,E⟩;have Y:=Ab G;have O:=Ab (Bf (Aa ai) E);have c0:=E.cell ao (by simp;omega);have c1:=E.cell ap (by simp;omega);have ae:=VG av E.size;have ag:=Ab ((Stab.rot_gt dk m i j M (by omega)).trans (Aa ak));clear G E;go_wp2;go_roundw
    case rel=>exact⟨i-j,j,_,by omega,az,by omega,a0,by go_num,rfl,Aa ag,Aa Y,Aa O,⟨c0,c1⟩,ae⟩
    case measure=>simp[intOf];omega
set_option maxRecDepth 100000 in
theorem A3 (H:Value)(bh:Hid (H=typeHandle Tryz.prog 230))(N F I G:Nat)(d:Nat->Int×Int)(a m b:Nat)(w:World)(aa:Hid (m=a+1))(bf:N<=288)(b3:m<b)(bo:b<=N)(ar:F<w.heap.size)(a9:I<w.heap.size)(b4:I≠F)
 (av:w.cell? ⟨I,0,none⟩=some (.slice (some ⟨F,0,none⟩) N G)) (al:PS N F d w) (ah:Stab.Srt Stab.lx d m b) (ax:Stab.Cross d a m b):
 Calls Tryz.prog 226 #[.agg #[LF I,SF H N F G],.int .i64 a,.int .i64 m,.int .i64 b] w fun e w'=>e=.returned (.tuple #[])/\∃d',PS N F d' w'/\Stab.Moved a b d d'/\Stab.Srt Stab.lx d' a b/\w.grownBy w' (some F):=by
 have aw:=Ab al;have bi:=Ab ah;have a3:=Ab ax;have a7:=Ab av;have b0:((m:Int)-(a:Int)==1)=true:=by rw[beq_iff_eq];have:=Aa aa;omega
 have ay:a<m:=by have:=Aa aa;omega
 clear al ah ax av;go_enter Tryz.func226,Tryz.ntmps226
 go_wp2;go_loopw [8,9,10] (fun Z af bn wr=>∃i j q:Nat,m<=i/\i<=j/\j<=b/\Z=.int .i64 i/\af=.int .i64 j/\(m<i->Stab.lx (d (i-1)) (d a))/\(j<b->Stab.lx (d a) (d j))/\wr=(w.alloc (.cells #[LF I,SF H N F G] 277)).drewN q) (fun Z af _ _=>(intOf af).toNat-(intOf Z).toNat)
 case atStart=>exact⟨m,b,0,VB _,by omega,VB _,rfl,rfl,fun H=>by omega,fun H=>by omega,rfl⟩
 case round=>
  obtain⟨i,j,q,hi,bv,ae,rfl,rfl,ap,aq,rfl⟩:=hrel;have ac:=Ab ap;have ai:=Ab aq;clear ap aq
  by_cases bw:i<j
  . obtain⟨c,a1⟩:∃c,c=(i+j)/2:=⟨_,rfl⟩
    have as:i<=c:=by omega
    have am:c<j:=by omega
    have E:Hid (((i:Int)+(j:Int))/2=(c:Int)):=by unfold Hid;omega
    have U:=Stab.cross_less (Aa a3 a c (VB _) ay (by omega) (by omega));clear a1;go_wp2_with fail
    rw[Aa E];refine(Pe N F I G d _ c a (by omega) (by omega) bf (((Aa aw).alloc ar _).drewN q) (by rw[World.cell?_drewN,World.cell?_alloc_past _ _ _ a9];exact Aa a7)).mono ?_;rintro e bc ⟨rfl,bm,rfl⟩;rw[World.drewN_drewN]
    cases T:decide ((d c).1<(d a).1)with
    |true=>
     have ab:=Ab (U.1 T);clear U T;go_wp2;go_roundw
     case rel=>exact⟨c+1,j,_,by omega,by omega,ae,by go_num,rfl,fun _=>Aa ab,Aa ai,rfl⟩
     case measure=>simp[intOf];omega
    |false=>
     have ab:=Ab (U.2 T);clear U T;go_wp2;go_roundw
     case rel=>exact⟨i,c,_,hi,by omega,by omega,rfl,rfl,Aa ac,fun _=>Aa ab,rfl⟩
     case measure=>simp[intOf];omega
  . obtain rfl:i=j:=by omega
    have bt:¬(i:Int)<(i:Int):=by omega
    have a6:Hid (Stab.rot d a (a+1) (a+1)=d):=Stab.rot_right d a (a+1);have bd:Hid (PS N F d ((w.alloc (.cells #[LF I,SF H N F G] 277)).drewN q)):=((Aa aw).alloc ar _).drewN q;have a0:Hid (w.grownBy ((w.alloc (.cells #[LF I,SF H N F G] 277)).drewN q) (some F)):=Fa (Bt (Bp _ _) _) q;have az:((w.alloc (.cells #[LF I,SF H N F G] 277)).drewN q).cell? ⟨w.heap.size,1,none⟩=some (SF H N F G):=by simp
    have ba:w.heap.size<((w.alloc (.cells #[LF I,SF H N F G] 277)).drewN q).heap.size:=by simp
    generalize (w.alloc (.cells #[LF I,SF H N F G] 277)).drewN q=b5 at*;go_wp2;go_loopw [11] (fun vk O=>∃k:Nat,a<=k/\k<i/\vk=.int .i64 k/\PS N F (Stab.rot d a (a+1) (k+1)) O/\w.grownBy O (some F)/\O.cell? ⟨w.heap.size,1,none⟩=some (SF H N F G)/\w.heap.size<O.heap.size) (fun vk _=>i-(intOf vk).toNat)
    case atStart=>exact⟨a,VB _,by omega,rfl,by rw[Aa a6];exact Aa bd,Aa a0,az,ba⟩
    case round=>
     obtain⟨k,a4,bq,rfl,au,ao,as,bk⟩:=hrel;have M:=Ab au;have ak:=Ab ao;clear au ao
     by_cases bz:k<i-1
     . have bu:(k:Int)<(i:Int)-1:=by omega
       have be:=Ab (Stab.rot_up d a k a4);generalize Stab.rot d a (a+1) (k+1)=dk at*;have aj:=Ou N F G dk wr k (k+1) (by omega) (by omega) (Aa M);rw[<-Aa bh]at aj;push_cast at aj
       have bb:=Ab ((Aa M).sw k (k+1) (by omega) (by omega));have Y:=Pi wr F dk k (k+1);have a8:=Ab (Bf (Aa ak) Y);have am:=Y.cell as (by simp;omega);have bg:=VG bk Y.size;clear Y;generalize swW wr F dk k (k+1)=bc at*;go_wp2;go_roundw
       case rel=>exact⟨k+1,by omega,by omega,by go_num,by rw[<-Aa be];exact Aa bb,Aa a8,am,bg⟩
       case measure=>simp[intOf];omega
     . obtain rfl:k=i-1:=by omega
       have b7:¬((i-1:Nat):Int)<(i:Int)-1:=by omega
       have an:i-1+1=i:=by omega
       have a2:Hid (PS N F (Stab.rot d a (a+1) i) wr):=by rw[an]at M;exact M
       have bj:=Ab ((Stab.moved_rot d a (a+1) i (by omega) (by omega)).wider (VB _) (by omega) ae);have ag:=Aa bi;rw[Aa aa]at ag ac;have a5:=Ab (Stab.ins_first (by omega) ae ag (Aa ac) (Aa ai));clear an ag M;go_wp2;refine bodyPost_ret (results_none rfl _ _ _) rfl ?_;exact⟨rfl,_,Aa a2,Aa bj,Aa a5,Aa ak⟩
set_option maxRecDepth 100000 in
theorem Xa (H:Value)(bf:Hid (H=typeHandle Tryz.prog 230))(N F I G:Nat)(d:Nat->Int×Int)(a m b:Nat)(w:World)(ab:Hid (b=m+1))(bd:N<=288)(bm:a+1<m)(bi:m<b)(bq:b<=N)(ar:F<w.heap.size)(a7:I<w.heap.size)(b3:I≠F)
 (av:w.cell? ⟨I,0,none⟩=some (.slice (some ⟨F,0,none⟩) N G)) (al:PS N F d w) (aj:Stab.Srt Stab.lx d a m) (ax:Stab.Cross d a m b):
 Calls Tryz.prog 226 #[.agg #[LF I,SF H N F G],.int .i64 a,.int .i64 m,.int .i64 b] w fun e w'=>e=.returned (.tuple #[])/\∃d',PS N F d' w'/\Stab.Moved a b d d'/\Stab.Srt Stab.lx d' a b/\w.grownBy w' (some F):=by
 have aw:=Ab al;have bg:=Ab aj;have a2:=Ab ax;have a5:=Ab av;have bo:((m:Int)-(a:Int)==1)=false:=by rw[beq_eq_false_iff_ne];omega
 have b0:((b:Int)-(m:Int)==1)=true:=by rw[beq_iff_eq];have:=Aa ab;omega
 clear al aj ax av;go_enter Tryz.func226,Tryz.ntmps226
 go_wp2;go_loopw [12,13,14] (fun aa ag bn wr=>∃i j q:Nat,a<=i/\i<=j/\j<=m/\aa=.int .i64 i/\ag=.int .i64 j/\(a<i->Stab.lx (d (i-1)) (d m))/\(j<m->Stab.lx (d m) (d j))/\wr=(w.alloc (.cells #[LF I,SF H N F G] 277)).drewN q) (fun aa ag _ _=>(intOf ag).toNat-(intOf aa).toNat)
 case atStart=>exact⟨a,m,0,VB _,by omega,VB _,rfl,rfl,fun H=>by omega,fun H=>by omega,rfl⟩
 case round=>
  obtain⟨i,j,q,hi,bv,ap,rfl,rfl,ao,aq,rfl⟩:=hrel;have ak:=Ab ao;have ah:=Ab aq;clear ao aq
  by_cases bw:i<j
  . obtain⟨c,a0⟩:∃c,c=(i+j)/2:=⟨_,rfl⟩
    have as:i<=c:=by omega
    have am:c<j:=by omega
    have E:Hid (((i:Int)+(j:Int))/2=(c:Int)):=by unfold Hid;omega
    have T:=Stab.cross_less (Aa a2 c m (by omega) (by omega) (VB _) bi);clear a0;go_wp2_with fail
    rw[Aa E];refine(Pe N F I G d _ m c (by omega) (by omega) bd (((Aa aw).alloc ar _).drewN q) (by rw[World.cell?_drewN,World.cell?_alloc_past _ _ _ a7];exact Aa a5)).mono ?_;rintro e ba ⟨rfl,bk,rfl⟩;rw[World.drewN_drewN]
    cases O:decide ((d m).1<(d c).1)with
    |true=>
     have ac:=Ab (T.1 O);clear T O;go_wp2;go_roundw
     case rel=>exact⟨i,c,_,hi,by omega,by omega,rfl,rfl,Aa ak,fun _=>Aa ac,rfl⟩
     case measure=>simp[intOf];omega
    |false=>
     have ac:=Ab (T.2 O);clear T O;go_wp2;go_roundw
     case rel=>exact⟨c+1,j,_,by omega,by omega,ap,by go_num,rfl,fun _=>Aa ac,Aa ah,rfl⟩
     case measure=>simp[intOf];omega
  . obtain rfl:i=j:=by omega
    have bu:¬(i:Int)<(i:Int):=by omega
    have a4:Hid (Stab.rot d m m (m+1)=d):=Stab.rot_left d m (m+1);have bb:Hid (PS N F d ((w.alloc (.cells #[LF I,SF H N F G] 277)).drewN q)):=((Aa aw).alloc ar _).drewN q;have az:Hid (w.grownBy ((w.alloc (.cells #[LF I,SF H N F G] 277)).drewN q) (some F)):=Fa (Bt (Bp _ _) _) q;have ay:((w.alloc (.cells #[LF I,SF H N F G] 277)).drewN q).cell? ⟨w.heap.size,1,none⟩=some (SF H N F G):=by simp
    have a8:w.heap.size<((w.alloc (.cells #[LF I,SF H N F G] 277)).drewN q).heap.size:=by simp
    generalize (w.alloc (.cells #[LF I,SF H N F G] 277)).drewN q=b4 at*;go_wp2;go_loopw [15] (fun vk M=>∃k:Nat,i<=k/\k<=m/\vk=.int .i64 k/\PS N F (Stab.rot d k m (m+1)) M/\w.grownBy M (some F)/\M.cell? ⟨w.heap.size,1,none⟩=some (SF H N F G)/\w.heap.size<M.heap.size) (fun vk _=>(intOf vk).toNat)
    case atStart=>exact⟨m,ap,VB _,rfl,by rw[Aa a4];exact Aa bb,Aa az,ay,a8⟩
    case round=>
     obtain⟨k,bt,ae,rfl,au,an,as,bj⟩:=hrel;have Y:=Ab au;have ai:=Ab an;clear au an
     by_cases bz:i<k
     . have bc:=Ab (Stab.rot_down d k m (by omega) ae);generalize Stab.rot d k m (m+1)=dk at*;have a1:=Ou N F G dk wr k (k-1) (by omega) (by omega) (Aa Y);rw[<-Aa bf,show ((k-1:Nat):Int)=(k:Int)-1 by omega]at a1;have a9:=Ab ((Aa Y).sw k (k-1) (by omega) (by omega));have U:=Pi wr F dk k (k-1);have a6:=Ab (Bf (Aa ai) U);have am:=U.cell as (by simp;omega);have be:=VG bj U.size;clear U;generalize swW wr F dk k (k-1)=ba at*;go_wp2;go_roundw
       case rel=>exact⟨k-1,by omega,by omega,by go_num,by rw[<-Aa bc];exact Aa a9,Aa a6,am,be⟩
       case measure=>simp[intOf];omega
     . obtain rfl:k=i:=by omega
       have b5:¬(k:Int)<(k:Int):=by omega
       have Z:=(Stab.moved_rot d k m (m+1) ae (by omega)).wider hi (by omega) (VB _);have af:=Stab.ins_last hi ae (Aa bg) (Aa ak) (Aa ah);rw[<-Aa ab]at Z af;have bh:=Ab Z;have a3:=Ab af;rw[<-Aa ab]at Y;clear Z af;go_wp2;refine bodyPost_ret (results_none rfl _ _ _) rfl ?_;exact⟨rfl,_,Aa Y,Aa bh,Aa a3,Aa ai⟩
def Q0 (h:Value)(N bp bx cap L:Nat):Prop:=∀(d:Nat->Int×Int) (a m b:Nat) (w:World),b-a<=L->a<m->m<b->b<=N->bp<w.heap.size->bx<w.heap.size->
 w.cell? ⟨bx,0,none⟩=some (.slice (some ⟨bp,0,none⟩) N cap)->PS N bp d w->Stab.Srt Stab.lx d a m->Stab.Srt Stab.lx d m b->Stab.Cross d a m b->
 Calls Tryz.prog 226 #[.agg #[LF bx,SF h N bp cap],.int .i64 a,.int .i64 m,.int .i64 b] w fun e w'=>e=.returned (.tuple #[])/\∃d',PS N bp d' w'/\Stab.Moved a b d d'/\Stab.Srt Stab.lx d' a b/\w.grownBy w' (some bp)
structure MSt (h:Value)(N bp bx cap:Nat)(w W:World)(D:Nat->Int×Int):Prop where
 ps:PS N bp D W
 grown:w.grownBy W (some bp)
 c0:W.cell? ⟨w.heap.size,0,none⟩=some (LF bx)
 c1:W.cell? ⟨w.heap.size,1,none⟩=some (SF h N bp cap)
 box:W.cell? ⟨bx,0,none⟩=some (.slice (some ⟨bp,0,none⟩) N cap)
 new:bp<w.heap.size
theorem MSt.next {H:Value}{N E F I:Nat}{w W W':World}{T M:Nat->Int×Int}(s:MSt H N E F I w W T)(U:F<w.heap.size)(O:F≠E)(p:PS N E M W')(G:W.grownBy W' (some E)):MSt H N E F I w W' M:=
 ⟨p,Bf s.grown G,G.cell s.c0 (by have:=s.new;simp;omega),G.cell s.c1 (by have:=s.new;simp;omega),G.cell s.box (by simpa using O),s.new⟩
theorem Ko {F H:Nat->Int×Int}{a st E G b:Nat}(M:(Stab.Srt Stab.lx F a st/\Stab.Srt Stab.lx F st E/\Stab.Cross F a st E)/\(Stab.Srt Stab.lx F E G/\Stab.Srt Stab.lx F G b/\Stab.Cross F E G b))(I:Stab.Moved a E F H)(T:E<=G):
 Stab.Srt Stab.lx H E G/\Stab.Srt Stab.lx H G b/\Stab.Cross H E G b:=
 ⟨M.2.1.congr (fun k O _=>I.out k (by omega)),M.2.2.1.congr (fun k O _=>I.out k (by omega)),M.2.2.2.congr (fun k O _=>I.out k (by omega))⟩
set_option maxRecDepth 100000 in
theorem Lh (Y:Value)(be:Hid (Y=typeHandle Tryz.prog 230))(N ab ak al L:Nat)(a5:Hid (Q0 Y N ab ak al L))(d:Nat->Int×Int)(a m b H av az:Nat)(w:World)(ba:N<=288)(da:b-a<=L+1)(cy:a+1<m)(di:m+1<b)(c4:b<=N)(ap:ab<w.heap.size)(ai:ak<w.heap.size)(ar:ak≠ab)
 (bv:Hid (H=(a+b)/2)) (a9:Hid ((H<m/\av+b=H+m/\az=H)\/ (m<=H/\av=a/\az=m)))
 (cd:w.cell? ⟨ak,0,none⟩=some (.slice (some ⟨ab,0,none⟩) N al)) (b4:PS N ab d w) (b0:Stab.Srt Stab.lx d a m) (bu:Stab.Srt Stab.lx d m b) (ch:Stab.Cross d a m b):
 Calls Tryz.prog 226 #[.agg #[LF ak,SF Y N ab al],.int .i64 a,.int .i64 m,.int .i64 b] w fun e w'=>e=.returned (.tuple #[])/\∃d',PS N ab d' w'/\Stab.Moved a b d d'/\Stab.Srt Stab.lx d' a b/\w.grownBy w' (some ab):=by
 have cg:=Ab b4;have a1:=Ab b0;have au:=Ab bu;have bw:=Ab ch;have bz:=Ab cd;have c3:((m:Int)-(a:Int)==1)=false:=by rw[beq_eq_false_iff_ne];omega
 have c5:((b:Int)-(m:Int)==1)=false:=by rw[beq_eq_false_iff_ne];omega
 have bd:a<=av/\av<=az/\az<=m/\az<=H/\a<H/\H<b/\H+m<=av+b:=by have:=Aa bv;have:=Aa a9;omega
 obtain⟨cz,bt,db,cv,c8,c6,dh⟩:=bd;have b8:((a:Int)+(b:Int))/2=(H:Int):=by have:=Aa bv;omega
 have a8:=Ab b8;clear b4 b0 bu ch cd b8
 rcases Aa a9 with ⟨cm,bo,bk⟩|⟨cm,bo,bk⟩
 case' inl=>have ck:((a:Int)+(b:Int))/2<(m:Int):=by rw[Aa a8];omega
 case' inr=>have ck:¬((a:Int)+(b:Int))/2<(m:Int):=by rw[Aa a8];omega
 all_goals
  have b5:=Ab bo;have ce:=Ab bk;clear bo bk;go_enter Tryz.func226,Tryz.ntmps226
  go_wp2;go_loopw [18,19,21] (fun bg bm cw wr=>∃st r q:Nat,av<=st/\st<=r/\r<=az/\bg=.int .i64 st/\bm=.int .i64 r/\(av<st->Stab.lx (d (st-1)) (d (H+m-st)))/\(r<az->Stab.lx (d (H+m-1-r)) (d r))/\wr=(w.alloc (.cells #[LF ak,SF Y N ab al] 277)).drewN q) (fun bg bm _ _=>(intOf bm).toNat-(intOf bg).toNat)
  case atStart=>exact⟨av,az,0,VB _,bt,VB _,congrArg (Value.int .i64) (by have:=Aa b5;have:=Aa a8;omega),congrArg (Value.int .i64) (by have:=Aa ce;have:=Aa a8;omega),fun Y=>by omega,fun Y=>by omega,rfl⟩
  case round=>
   obtain⟨st,r,q,ct,dd,co,rfl,rfl,bd,b7,rfl⟩:=hrel;have bi:=Ab bd;have bf:=Ab b7;clear bd b7
   by_cases de:st<r
   . obtain⟨c,cj⟩:∃c,c=(st+r)/2:=⟨_,rfl⟩
     have cq:st<=c:=by omega
     have dc:c<r:=by omega
     have E:Hid (((st:Int)+(r:Int))/2=(c:Int)):=by unfold Hid;omega
     have cn:Hid (((a:Int)+(b:Int))/2+(m:Int)-1-(c:Int)=((H+m-1-c:Nat):Int)):=by unfold Hid;have:=Aa a8;omega
     have bc:=Stab.cross_less (Aa bw c (H+m-1-c) (by omega) (by omega) (by omega) (by omega));clear cj;go_wp2_with fail
     rw[Aa E,Aa cn];refine(Pe N ab ak al d _ (H+m-1-c) c (by omega) (by omega) ba (((Aa cg).alloc ap _).drewN q) (by rw[World.cell?_drewN,World.cell?_alloc_past _ _ _ ai];exact Aa bz)).mono ?_;rintro e bj ⟨rfl,bt,rfl⟩;rw[World.drewN_drewN]
     cases bb:decide ((d (H+m-1-c)).1<(d c).1)with
     |true=>
      have bh:=Ab (bc.1 bb);clear bc bb;go_wp2;go_roundw
      case rel=>exact⟨st,c,_,ct,cq,by omega,rfl,rfl,Aa bi,fun _=>Aa bh,rfl⟩
      case measure=>simp[intOf];omega
     |false=>
      have bh:=Ab (bc.2 bb);have cl:Hid (H+m-(c+1)=H+m-1-c):=by unfold Hid;omega
      clear bc bb;go_wp2;go_roundw
      case rel=>exact⟨c+1,r,_,by omega,by omega,co,by go_num,rfl,fun _=>by rw[Aa cl];exact Aa bh,Aa bf,rfl⟩
      case measure=>simp[intOf];omega
   . obtain rfl:st=r:=by omega
     have c9:¬(st:Int)<(st:Int):=by omega
     obtain⟨G,cu⟩:∃G,G+st=H+m:=⟨H+m-st,by omega⟩
     have dg:(H:Int)+(m:Int)-(st:Int)=(G:Int):=by omega
     have ax:H+m=st+G:=by omega
     have cp:m<=G:=by have:=Aa a9;omega
     have ci:G<=b:=by omega
     have a3:H<=G:=by omega
     have aa:=Ab (Stab.merge_parts (show a<=st by omega) (show st<=m by omega) cp ci ax (Aa a1) (Aa au) (Aa bw))
     have a2:Hid (a<st->G<b->Stab.lx (d (st-1)) (d G)):=fun c1 c2=>by
      have Y:=Aa bi (by have:=Aa b5;have:=Aa a9;omega);rw[show H+m-st=G by omega]at Y;exact Y
     have a4:Hid (st<m->m<G->Stab.lx (d (G-1)) (d st)):=fun c1 c2=>by
      have Y:=Aa bf (by have:=Aa ce;have:=Aa a9;omega);rw[show H+m-1-st=G-1 by omega]at Y;exact Y
     have aj:Hid (MSt Y N ab ak al w ((w.alloc (.cells #[LF ak,SF Y N ab al] 277)).drewN q) d):=⟨((Aa cg).alloc ap _).drewN q,Fa (Bt (Bp _ _) _) q,by rw[World.cell?_drewN];simp,by rw[World.cell?_drewN];simp,by rw[World.cell?_drewN,World.cell?_alloc_past _ _ _ ai];exact Aa bz,ap⟩
     have df:=(Aa aj).c0;have c7:=(Aa aj).c1;rw[Aa a8];generalize (w.alloc (.cells #[LF ak,SF Y N ab al] 277)).drewN q=bq at*;have Z:(st<m/\m<G/\a<st/\G<b/\st<H/\H<G)\/ (st<m/\m<G/\a<st/\G=b/\st<H/\H<G)\/ (st<m/\m<G/\st=a/\G<b/\st<H/\H<G)\/ (st<m/\m<G/\st=a/\G=b/\st<H/\H<G)\/ (st=m/\G=H/\a<st/\st<H)\/ (st=m/\G=H/\a<st/\st=H)\/ (st<m/\G=m/\st=H/\a<st/\H<G/\G<b):=by omega
     clear bi bf cu
     rcases Z with Z|Z|Z|Z|Z|Z|Z
     . have k1:(st:Int)<(m:Int):=by omega
       have k2:(m:Int)<(G:Int):=by omega
       have l1:(a:Int)<(st:Int):=by omega
       have l2:(st:Int)<(H:Int):=by omega
       have n1:(H:Int)<(G:Int):=by omega
       have n2:(G:Int)<(b:Int):=by omega
       have F:=Ab Z;clear Z;go_wp2_with fail
       refine(Jv Y be N ab ak al d st m G _ ba (by have:=Aa F;omega) (by have:=Aa F;omega) (by have:=Aa F;omega) (VG ap (Aa aj).grown.size) (Aa aj).ps).mono ?_;rintro e bn ⟨rfl,aq,g1⟩;have I:=Ab ((Aa aj).next ai ar aq g1);have a6:=(Aa I).c0;have a7:=(Aa I).c1;clear aq g1;go_wp2_with fail
       refine(Aa a5 (Stab.rot d st m G) a st H _ (by have:=Aa F;omega) (by have:=Aa F;omega) (by have:=Aa F;omega) (by have:=Aa F;omega) (VG ap (Aa I).grown.size) (VG ai (Aa I).grown.size) (Aa I).box (Aa I).ps (Aa aa).1.1 (Aa aa).1.2.1 (Aa aa).1.2.2).mono ?_;rintro e bj ⟨rfl,O,a0,m1,aw,g2⟩;have M:=Ab ((Aa I).next ai ar a0 g2);have ac:=Ab m1;have am:=Ab aw;have b3:=(Aa M).c0;have b9:=(Aa M).c1;clear a0 g2 m1 aw;have ah:=Ab (Ko (Aa aa) (Aa ac) a3);go_wp2_with fail
       refine(Aa a5 O H G b _ (by have:=Aa F;omega) (by have:=Aa F;omega) (by have:=Aa F;omega) (by have:=Aa F;omega) (VG ap (Aa M).grown.size) (VG ai (Aa M).grown.size) (Aa M).box (Aa M).ps (Aa ah).1 (Aa ah).2.1 (Aa ah).2.2).mono ?_;rintro e w3 ⟨rfl,T,as,m2,ay,g3⟩;have U:=Ab ((Aa M).next ai ar as g3);have ao:=Ab m2;have an:=Ab ay;clear as g3 m2 ay;have ae:=Ab (Stab.merge_step Stab.lx_trans (by have:=Aa F;omega) (by have:=Aa F;omega) (by have:=Aa F;omega) (by have:=Aa F;omega) ax (Aa a1) (Aa au) (Aa a2) (Aa a4) (Aa ac) (Aa am) (Aa ao) (Aa an));go_wp2
       all_goals (go_end0;exact⟨rfl,T,(Aa U).ps,(Aa ae).2,(Aa ae).1,(Aa U).grown⟩)
     . have k1:(st:Int)<(m:Int):=by omega
       have k2:(m:Int)<(G:Int):=by omega
       have l1:(a:Int)<(st:Int):=by omega
       have l2:(st:Int)<(H:Int):=by omega
       have n1:(H:Int)<(G:Int):=by omega
       have n2:¬(G:Int)<(b:Int):=by omega
       have F:=Ab Z;clear Z;go_wp2_with fail
       refine(Jv Y be N ab ak al d st m G _ ba (by have:=Aa F;omega) (by have:=Aa F;omega) (by have:=Aa F;omega) (VG ap (Aa aj).grown.size) (Aa aj).ps).mono ?_;rintro e bn ⟨rfl,aq,g1⟩;have I:=Ab ((Aa aj).next ai ar aq g1);have a6:=(Aa I).c0;have a7:=(Aa I).c1;clear aq g1;go_wp2_with fail
       refine(Aa a5 (Stab.rot d st m G) a st H _ (by have:=Aa F;omega) (by have:=Aa F;omega) (by have:=Aa F;omega) (by have:=Aa F;omega) (VG ap (Aa I).grown.size) (VG ai (Aa I).grown.size) (Aa I).box (Aa I).ps (Aa aa).1.1 (Aa aa).1.2.1 (Aa aa).1.2.2).mono ?_;rintro e bj ⟨rfl,O,a0,m1,aw,g2⟩;have M:=Ab ((Aa I).next ai ar a0 g2);have ac:=Ab m1;have am:=Ab aw;have b3:=(Aa M).c0;have b9:=(Aa M).c1;clear a0 g2 m1 aw;have ah:=Ab (Ko (Aa aa) (Aa ac) a3);have U:=M;obtain⟨T,ag⟩:∃T,T=O:=⟨_,rfl⟩
       rw[<-ag]at U;have ao:Hid (Stab.Moved H b O T):=by rw[ag];exact Stab.Moved.refl _ _ _
       have an:Hid (Stab.Srt Stab.lx T H b):=by rw[ag];exact(Aa ah).1.sub (VB _) (by have:=Aa F;omega)
       clear ag;have ae:=Ab (Stab.merge_step Stab.lx_trans (by have:=Aa F;omega) (by have:=Aa F;omega) (by have:=Aa F;omega) (by have:=Aa F;omega) ax (Aa a1) (Aa au) (Aa a2) (Aa a4) (Aa ac) (Aa am) (Aa ao) (Aa an));go_wp2
       all_goals (go_end0;exact⟨rfl,T,(Aa U).ps,(Aa ae).2,(Aa ae).1,(Aa U).grown⟩)
     . have k1:(st:Int)<(m:Int):=by omega
       have k2:(m:Int)<(G:Int):=by omega
       have l1:¬(a:Int)<(st:Int):=by omega
       have n1:(H:Int)<(G:Int):=by omega
       have n2:(G:Int)<(b:Int):=by omega
       have F:=Ab Z;clear Z;go_wp2_with fail
       refine(Jv Y be N ab ak al d st m G _ ba (by have:=Aa F;omega) (by have:=Aa F;omega) (by have:=Aa F;omega) (VG ap (Aa aj).grown.size) (Aa aj).ps).mono ?_;rintro e bn ⟨rfl,aq,g1⟩;have I:=Ab ((Aa aj).next ai ar aq g1);have a6:=(Aa I).c0;have a7:=(Aa I).c1;clear aq g1;have M:=I;obtain⟨O,af⟩:∃O,O=Stab.rot d st m G:=⟨_,rfl⟩
       rw[<-af]at M;have ac:Hid (Stab.Moved a H (Stab.rot d st m G) O):=by rw[af];exact Stab.Moved.refl _ _ _
       have am:Hid (Stab.Srt Stab.lx O a H):=by rw[af];exact(Aa aa).1.2.1.sub (by have:=Aa F;omega) (VB _)
       clear af;have ah:=Ab (Ko (Aa aa) (Aa ac) a3);go_wp2_with fail
       refine(Aa a5 O H G b _ (by have:=Aa F;omega) (by have:=Aa F;omega) (by have:=Aa F;omega) (by have:=Aa F;omega) (VG ap (Aa M).grown.size) (VG ai (Aa M).grown.size) (Aa M).box (Aa M).ps (Aa ah).1 (Aa ah).2.1 (Aa ah).2.2).mono ?_;rintro e w3 ⟨rfl,T,as,m2,ay,g3⟩;have U:=Ab ((Aa M).next ai ar as g3);have ao:=Ab m2;have an:=Ab ay;clear as g3 m2 ay;have ae:=Ab (Stab.merge_step Stab.lx_trans (by have:=Aa F;omega) (by have:=Aa F;omega) (by have:=Aa F;omega) (by have:=Aa F;omega) ax (Aa a1) (Aa au) (Aa a2) (Aa a4) (Aa ac) (Aa am) (Aa ao) (Aa an));go_wp2
       all_goals (go_end0;exact⟨rfl,T,(Aa U).ps,(Aa ae).2,(Aa ae).1,(Aa U).grown⟩)
     . have k1:(st:Int)<(m:Int):=by omega
       have k2:(m:Int)<(G:Int):=by omega
       have l1:¬(a:Int)<(st:Int):=by omega
       have n1:(H:Int)<(G:Int):=by omega
       have n2:¬(G:Int)<(b:Int):=by omega
       have F:=Ab Z;clear Z;go_wp2_with fail
       refine(Jv Y be N ab ak al d st m G _ ba (by have:=Aa F;omega) (by have:=Aa F;omega) (by have:=Aa F;omega) (VG ap (Aa aj).grown.size) (Aa aj).ps).mono ?_;rintro e bn ⟨rfl,aq,g1⟩;have I:=Ab ((Aa aj).next ai ar aq g1);have a6:=(Aa I).c0;have a7:=(Aa I).c1;clear aq g1;have M:=I;obtain⟨O,af⟩:∃O,O=Stab.rot d st m G:=⟨_,rfl⟩
       rw[<-af]at M;have ac:Hid (Stab.Moved a H (Stab.rot d st m G) O):=by rw[af];exact Stab.Moved.refl _ _ _
       have am:Hid (Stab.Srt Stab.lx O a H):=by rw[af];exact(Aa aa).1.2.1.sub (by have:=Aa F;omega) (VB _)
       clear af;have ah:=Ab (Ko (Aa aa) (Aa ac) a3);have U:=M;obtain⟨T,ag⟩:∃T,T=O:=⟨_,rfl⟩
       rw[<-ag]at U;have ao:Hid (Stab.Moved H b O T):=by rw[ag];exact Stab.Moved.refl _ _ _
       have an:Hid (Stab.Srt Stab.lx T H b):=by rw[ag];exact(Aa ah).1.sub (VB _) (by have:=Aa F;omega)
       clear ag;have ae:=Ab (Stab.merge_step Stab.lx_trans (by have:=Aa F;omega) (by have:=Aa F;omega) (by have:=Aa F;omega) (by have:=Aa F;omega) ax (Aa a1) (Aa au) (Aa a2) (Aa a4) (Aa ac) (Aa am) (Aa ao) (Aa an));go_wp2
       all_goals (go_end0;exact⟨rfl,T,(Aa U).ps,(Aa ae).2,(Aa ae).1,(Aa U).grown⟩)
     . have k1:¬(st:Int)<(m:Int):=by omega
       have l1:(a:Int)<(st:Int):=by omega
       have l2:(st:Int)<(H:Int):=by omega
       have n1:¬(H:Int)<(G:Int):=by omega
       have F:=Ab Z;clear Z;have I:Hid (MSt Y N ab ak al w bq (Stab.rot d st m G)):=by rw[show Stab.rot d st m G=d from by rw[show st=m by have:=Aa F;omega];exact Stab.rot_left d m G];exact Aa aj
       have a6:=(Aa I).c0;have a7:=(Aa I).c1;go_wp2_with fail
       refine(Aa a5 (Stab.rot d st m G) a st H _ (by have:=Aa F;omega) (by have:=Aa F;omega) (by have:=Aa F;omega) (by have:=Aa F;omega) (VG ap (Aa I).grown.size) (VG ai (Aa I).grown.size) (Aa I).box (Aa I).ps (Aa aa).1.1 (Aa aa).1.2.1 (Aa aa).1.2.2).mono ?_;rintro e bj ⟨rfl,O,a0,m1,aw,g2⟩;have M:=Ab ((Aa I).next ai ar a0 g2);have ac:=Ab m1;have am:=Ab aw;have b3:=(Aa M).c0;have b9:=(Aa M).c1;clear a0 g2 m1 aw;have ah:=Ab (Ko (Aa aa) (Aa ac) a3);have U:=M;obtain⟨T,ag⟩:∃T,T=O:=⟨_,rfl⟩
       rw[<-ag]at U;have ao:Hid (Stab.Moved H b O T):=by rw[ag];exact Stab.Moved.refl _ _ _
       have an:Hid (Stab.Srt Stab.lx T H b):=by rw[ag];exact(Aa ah).2.1.sub (by have:=Aa F;omega) (VB _)
       clear ag;have ae:=Ab (Stab.merge_step Stab.lx_trans (by have:=Aa F;omega) (by have:=Aa F;omega) (by have:=Aa F;omega) (by have:=Aa F;omega) ax (Aa a1) (Aa au) (Aa a2) (Aa a4) (Aa ac) (Aa am) (Aa ao) (Aa an));go_wp2
       all_goals (go_end0;exact⟨rfl,T,(Aa U).ps,(Aa ae).2,(Aa ae).1,(Aa U).grown⟩)
     . have k1:¬(st:Int)<(m:Int):=by omega
       have l1:(a:Int)<(st:Int):=by omega
       have l2:¬(st:Int)<(H:Int):=by omega
       have n1:¬(H:Int)<(G:Int):=by omega
       have F:=Ab Z;clear Z;have I:Hid (MSt Y N ab ak al w bq (Stab.rot d st m G)):=by rw[show Stab.rot d st m G=d from by rw[show st=m by have:=Aa F;omega];exact Stab.rot_left d m G];exact Aa aj
       have a6:=(Aa I).c0;have a7:=(Aa I).c1;have M:=I;obtain⟨O,af⟩:∃O,O=Stab.rot d st m G:=⟨_,rfl⟩
       rw[<-af]at M;have ac:Hid (Stab.Moved a H (Stab.rot d st m G) O):=by rw[af];exact Stab.Moved.refl _ _ _
       have am:Hid (Stab.Srt Stab.lx O a H):=by rw[af];exact(Aa aa).1.1.sub (VB _) (by have:=Aa F;omega)
       clear af;have ah:=Ab (Ko (Aa aa) (Aa ac) a3);have U:=M;obtain⟨T,ag⟩:∃T,T=O:=⟨_,rfl⟩
       rw[<-ag]at U;have ao:Hid (Stab.Moved H b O T):=by rw[ag];exact Stab.Moved.refl _ _ _
       have an:Hid (Stab.Srt Stab.lx T H b):=by rw[ag];exact(Aa ah).2.1.sub (by have:=Aa F;omega) (VB _)
       clear ag;have ae:=Ab (Stab.merge_step Stab.lx_trans (by have:=Aa F;omega) (by have:=Aa F;omega) (by have:=Aa F;omega) (by have:=Aa F;omega) ax (Aa a1) (Aa au) (Aa a2) (Aa a4) (Aa ac) (Aa am) (Aa ao) (Aa an));go_wp2
       all_goals (go_end0;exact⟨rfl,T,(Aa U).ps,(Aa ae).2,(Aa ae).1,(Aa U).grown⟩)
     . have k1:(st:Int)<(m:Int):=by omega
       have k2:¬(m:Int)<(G:Int):=by omega
       have l1:(a:Int)<(st:Int):=by omega
       have l2:¬(st:Int)<(H:Int):=by omega
       have n1:(H:Int)<(G:Int):=by omega
       have n2:(G:Int)<(b:Int):=by omega
       have F:=Ab Z;clear Z;have I:Hid (MSt Y N ab ak al w bq (Stab.rot d st m G)):=by rw[show Stab.rot d st m G=d from by rw[show G=m by have:=Aa F;omega];exact Stab.rot_right d st m];exact Aa aj
       have a6:=(Aa I).c0;have a7:=(Aa I).c1;have M:=I;obtain⟨O,af⟩:∃O,O=Stab.rot d st m G:=⟨_,rfl⟩
       rw[<-af]at M;have ac:Hid (Stab.Moved a H (Stab.rot d st m G) O):=by rw[af];exact Stab.Moved.refl _ _ _
       have am:Hid (Stab.Srt Stab.lx O a H):=by rw[af];exact(Aa aa).1.1.sub (VB _) (by have:=Aa F;omega)
       clear af;have ah:=Ab (Ko (Aa aa) (Aa ac) a3);go_wp2_with fail
       refine(Aa a5 O H G b _ (by have:=Aa F;omega) (by have:=Aa F;omega) (by have:=Aa F;omega) (by have:=Aa F;omega) (VG ap (Aa M).grown.size) (VG ai (Aa M).grown.size) (Aa M).box (Aa M).ps (Aa ah).1 (Aa ah).2.1 (Aa ah).2.2).mono ?_;rintro e w3 ⟨rfl,T,as,m2,ay,g3⟩;have U:=Ab ((Aa M).next ai ar as g3);have ao:=Ab m2;have an:=Ab ay;clear as g3 m2 ay;have ae:=Ab (Stab.merge_step Stab.lx_trans (by have:=Aa F;omega) (by have:=Aa F;omega) (by have:=Aa F;omega) (by have:=Aa F;omega) ax (Aa a1) (Aa au) (Aa a2) (Aa a4) (Aa ac) (Aa am) (Aa ao) (Aa an));go_wp2
       all_goals (go_end0;exact⟨rfl,T,(Aa U).ps,(Aa ae).2,(Aa ae).1,(Aa U).grown⟩)
end Go.Proofs.YtleocpdblhbimaaGreatDoor
