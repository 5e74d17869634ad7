import Derived.Test.YtleocpdblhbimaaGreatDoorQ44
import Derived.Test.YtleocpdblhbimaaGreatDoorQ40
set_option linter.unusedSimpArgs false
set_option linter.unusedVariables false
set_option maxRecDepth 100000
set_option maxHeartbeats 2000000
namespace Go.Proofs.YtleocpdblhbimaaGreatDoor
open Go.RowKit Go.Lib
theorem Rr (E F:Value)(I:E.oneCell'=true)(H:F.oneCell'=true)(n:Nat)(M:n<=1)(w:World):
 Calls Tryz.prog 225 #[.agg #[E,F],.int .i64 0,.int .i64 n] w fun e w'=>e=.returned (.tuple #[])/\w.grownBy w' none:=by
 go_enter Tryz.func225,Tryz.ntmps225
 go_wp2;go_loop [6] (fun G=>G=.int .i64 1) (fun _=>0)
 case atStart=>exact rfl
 case round=>
  obtain rfl:=hrel;have h:¬(1:Int)<(n:Int):=by omega
  go_wp2;go_end0
  exact⟨rfl,Bt (Bp _ _) _⟩
theorem A9 (T M:Fn)(O lb Y U:Array Value)(n:Nat)(Z:n<=1)(w:World):
 Calls Tryz.prog 197 #[.agg #[.func T O lb,.func M Y U],.int .i64 n] w fun e w'=>e=.returned (.tuple #[])/\w.grownBy w' none:=by
 go_enter Tryz.func197,Tryz.ntmps197
 go_wp2;go_loop [5,6] (fun H F=>H=.int .i64 0/\F=.int .i64 20) (fun _ _=>0)
 case atStart=>exact⟨rfl,rfl⟩
 case round=>
  obtain⟨rfl,rfl⟩:=hrel;have h:¬(20:Int)<=(n:Int):=by omega
  have aa:¬(20:Int)<(n:Int):=by omega
  go_wp2_with fail
  refine(Rr _ _ rfl rfl n Z _).mono ?_;rintro e ac ⟨rfl,E⟩;have G:=Ab (Bf (Bt (Bp w none) _) E);clear E;go_wp2;go_loop [4,5,6,7] (fun I _ _ _=>I=.int .i64 20) (fun _ _ _ _=>0)
  case atStart=>exact rfl
  case round=>
   obtain rfl:=hrel;go_wp2;go_end0
   exact⟨rfl,Aa G⟩
theorem swk (n:Nat)(E:TypeInfo)(H:E.hasPointers=false)(I:E.bytes=16):swapperK n E 25=if n=0 then 1 else if n=1 then 2 else 9:=by
 unfold swapperK;rw[H,I]
 by_cases G:n=0
 . simp[G]
 . by_cases F:n=1
   . simp[F]
   . simp[G,F]
def DY (N bp:Nat)(d:Nat->Int×Int)(w w':World):Prop:=∃d',PS N bp d' w'/\Stab.Moved 0 N d d'/\Stab.Srt Stab.lx d' 0 N/\w.grownBy w' (some bp)
theorem Qp (N E M G:Nat)(p:Option Addr)(d:Nat->Int×Int)(w:World)(aj:N<=288)(ac:N=0\/p=some ⟨E,0,none⟩)(ay:N=0\/E<w.heap.size)(ah:M<w.heap.size)(ak:M≠E)
 (ao:w.cell? ⟨M,0,none⟩=some (.slice p N G)) (Z:PS N E d w) (av:RW d 0 N):
 Calls Tryz.prog 162 #[.iface 228 (.slice p N G),LF M] w fun e w'=>e=.returned (.tuple #[])/\DY N E d w w':=by
 obtain⟨O,U,Y⟩:=XF.1 Z72;have al:O.hasPointers=false:=congrArg Prod.fst Y;have ar:O.bytes=16:=congrArg Prod.snd Y;have H:=swk N O al ar;have F:w.grownBy (stW Tryz.prog.globals.size p N G w) none:=Bt (Bt (Bp w none) _) _
 by_cases au:N<=1
 . have small:∀f B,Calls Tryz.prog 197 #[.agg #[LF M,.func (.func f) #[] B],.int .i64 N] (stW Tryz.prog.globals.size p N G w) fun e w'=>e=.returned (.tuple #[])/\DY N E d w w':=fun f B=>by
    refine(A9 _ _ _ _ _ _ N au _).mono ?_;rintro e w' ⟨rfl,af⟩;have I:=Bf F af;refine⟨rfl,d, ?_,Stab.Moved.refl _ _ _,fun i j aw az ax=>by omega,⟨I.os,I.tape,I.output,I.size,fun i hi _=>I.block i hi (by simp)⟩⟩
    by_cases T:N=0
    . subst T;intro k H;omega
    . exact Z.kept I (by omega)
   by_cases T:N=0
   . rw[if_pos T]at H;exact Gv _ rfl O U p N G 216 (by rw[H];kernel_rfl) _ rfl _ _ _ w _ (Ab (small _ _))
   . rw[if_neg T,if_pos (by omega)]at H;exact Gv _ rfl O U p N G 217 (by rw[H];kernel_rfl) _ rfl _ _ _ w _ (Ab (small _ _))
 . rw[if_neg (by omega),if_neg (by omega)]at H
   obtain rfl:p=some ⟨E,0,none⟩:=by
    rcases ac with h|h
    . omega
    . exact h
   have aa:E<w.heap.size:=by omega
   refine Gv _ rfl O U (some ⟨E,0,none⟩) N G 224 (by rw[H];kernel_rfl) _ rfl _ _ _ w _ (Ab ?_);rw[H];refine(EY (typeHandle Tryz.prog 230) (Ab rfl) N E M G d _ aj (VG aa F.size) (VG ah F.size) ak (F.cell ao (by simp)) (Z.kept F aa) av).mono ?_;rintro e w' ⟨rfl,d',ap,ae,ag,ai⟩;exact⟨rfl,d',ap,ae,ag,Bf ⟨F.os,F.tape,F.output,F.size,fun i hi _=>F.block i hi (by simp)⟩ ai⟩
theorem Z17 (a:List Bool)(t:Nat)(w:World)(ae:a.length+1+t<=16):
 Calls Tryz.prog 164 #[.string (text (a++false::List.replicate t true)),.int .u8 48] w fun e w'=>e=.returned (.int .i64 (a.length:Int))/\w'=w:=by
 have M:(a++false::List.replicate t true).length=a.length+1+t:=by simp;omega
 have T:=Ct (a++false::List.replicate t true);rw[M]at T;have O:=Ab (LC (a++false::List.replicate t true));have ah:=Ab M
 have Y:Hid (∀j,a.length<j->(H:j<(a++false::List.replicate t true).length)->(a++false::List.replicate t true)[j]=true):=fun j ag H=>by
  rw[List.getElem_append_right (by omega)];obtain⟨m,hm⟩:∃m,j-a.length=m+1:=⟨j-a.length-1,by omega⟩
  simp[hm]
 have U:Hid ((H:a.length<(a++false::List.replicate t true).length)->(a++false::List.replicate t true)[a.length]=false):=fun H=>by
  rw[List.getElem_append_right (by omega)];simp
 generalize a++false::List.replicate t true=l at*
 have Z:Hid (∀w,Calls Tryz.prog 199 #[.string (text l),.int .u8 48] w fun e w'=>e=.returned (.int .i64 (a.length:Int))/\w'=w):=by
  intro w;go_enter Tryz.func199,Tryz.ntmps199
  go_wp2;go_loop [5] (fun G=>∃j:Nat,a.length<=j/\j<a.length+1+t/\G=.int .i64 (j:Int)) (fun G=>(RowKit.intOf G).toNat)
  case atStart=>exact⟨a.length+t,by omega,by omega,by go_num⟩
  case round=>
   obtain⟨j,ac,af,rfl⟩:=hrel;have F:j<l.length:=by omega
   have I:j<(text l).size:=by omega
   have E:=Aa O j F I
   by_cases aa:a.length<j
   . rw[Aa Y j aa F]at E;have hb:((((text l)[j]'I).toNat:Int)==48)=false:=by rw[E];rfl
     clear E;go_wp2;go_round
     case rel=>exact⟨j-1,by omega,by omega,by go_num⟩
     case measure=>simp[RowKit.intOf];omega
   . obtain rfl:j=a.length:=by omega
     rw[Aa U F]at E;have hb:((((text l)[a.length]'I).toNat:Int)==48)=true:=by rw[E];rfl
     clear E;go_wp2;go_ret;exact⟨rfl,rfl⟩
 go_enter Tryz.func164,Tryz.ntmps164
 go_wp2_with fail
 refine(Aa Z _).mono ?_;rintro e w' ⟨rfl,rfl⟩;go_wp2;go_ret;exact⟨rfl,rfl⟩
open Go.RowKit
theorem Wo (l:List Int):∀k x,x∈Bu l k->∃q:Nat,q<k/\0<l.getD q 0/\x=(l.getD q 0,(q:Int))
 |0,x,h=>by simp[Bu]at h
 |k+1,x,h=>by
  rw[Bu,WP]at h
  rcases h with h|h
  . obtain⟨q,G,E,F⟩:=Wo l k x h;exact⟨q,by omega,E,F⟩
  . by_cases e:0<l.getD k 0
    . rw[if_pos e]at h;exact⟨k,by omega,e,by simpa using h⟩
    . rw[if_neg e]at h;simp at h
theorem AZ (l:List Int):∀k (q:Nat),q<k->0<l.getD q 0->(l.getD q 0,(q:Int))∈Bu l k
 |0,q,h,_=>by omega
 |k+1,q,h,h2=>by
  rw[Bu,WP]
  by_cases e:q=k
  . subst e;right;rw[if_pos h2];simp
  . left;exact AZ l k q (by omega) h2
theorem Zj (l:List Int):∀k,(Bu l k).Pairwise (fun x y=>x.2<y.2)
 |0=>List.Pairwise.nil
 |k+1=>by
  rw[Bu,List.pairwise_append];refine⟨Zj l k, ?_, ?_⟩
  . split<;>simp
  . intro x F y E;obtain⟨q,H,_,G⟩:=Wo l k x F
    split at E
    . simp at E
      rw[G,E];simp only
      omega
    . simp at E
theorem Q9 (l:List Int):∀k,(Bu l k).length<=k
 |0=>by simp[Bu]
 |k+1=>by
  have:=Q9 l k
  rw[Bu,VE]
  split<;>simp<;>omega
def dU (l:List Int):Nat->Int×Int:=fun k=>(Bu l l.length).getD k (0,0)
theorem Z59 (l:List Int):RW (dU l) 0 (Bu l l.length).length:=by
 intro i j _ F E;have h:=YE.1 (Zj l l.length) i j (by omega) E F;unfold dU;have G:(Bu l l.length).getD i (0,0)=(Bu l l.length)[i]:=by simp[List.getD,show i<(Bu l l.length).length by omega]
 have e2:(Bu l l.length).getD j (0,0)=(Bu l l.length)[j]:=by simp[List.getD,E]
 rw[G,e2];exact h
theorem Z77 (l:List Int):Stab.seg (dU l) 0 (Bu l l.length).length=Bu l l.length:=by
 apply XK
 . simp[Stab.seg]
 . intro i F E;simp[Stab.seg,dU,List.getD,E]
structure Sorted (l:List Int)(N:Nat)(d:Nat->Int×Int):Prop where
 at':∀i,i<N->∃n q:Nat,d i=((n:Int),(q:Int))/\q<l.length/\l.getD q 0=(n:Int)/\0<n/\n<=15/\vsum d i=codeN l q*2^(15-n)
 srt:Stab.Srt Stab.lx d 0 N
 all:∀q:Nat,q<l.length->0<l.getD q 0->∃i,i<N/\d i=(l.getD q 0,(q:Int))
theorem LR (l:List Int)(F:Good l)(d:Nat->Int×Int)(T:Stab.Moved 0 (Bu l l.length).length (dU l) d)(H:Stab.Srt Stab.lx d 0 (Bu l l.length).length):Sorted l (Bu l l.length).length d:=by
 have G:(Stab.seg d 0 (Bu l l.length).length).Perm (Bu l l.length):=by
  have:=T.perm
  rw[Z77]at this
  first|exact this|exact this.symm
 refine⟨fun i hi=> ?_,H,fun q O U=> ?_⟩
 . have Y:d i∈Stab.seg d 0 (Bu l l.length).length:=Stab.mem_seg.2 ⟨i,VH _,hi,rfl⟩;obtain⟨q,E,Z,M⟩:=Wo l _ _ (G.mem_iff.1 Y);obtain⟨n,hn⟩:=WF (F.ok q E).1;have aa:=(F.ok q E).2;have I:=AF d _ H hi;rw[RC _ G,M,hn,RD l F E hn (by omega)]at I;exact⟨n,q,by rw[M,hn],E,hn,by omega,by omega,I.symm⟩
 . have:=G.mem_iff.2 (AZ l _ q O U)
   obtain⟨i,_,hi,h⟩:=Stab.mem_seg.1 this;exact⟨i,hi,h⟩
theorem Sorted.first {l:List Int}{N:Nat}{d:Nat->Int×Int}(E:Sorted l N d){n q:Nat}(H:0<N)(I:d 0=((n:Int),(q:Int))):codeN l q=0:=by
 obtain⟨F,q',e,_,_,_,_,G⟩:=E.at' 0 H;rw[I]at e;have e2:q=q':=by have:=congrArg Prod.snd e;simp at this;omega
 subst e2;have:codeN l q*2^(15-F)=0:=G.symm
 rcases Nat.mul_eq_zero.1 this with E|E
 . exact E
 . have:=Nat.pow_pos (n:=15-F) (show 0<2 by decide);omega
theorem Sorted.next {l:List Int}(ak:Good l){N:Nat}{d:Nat->Int×Int}(M:Sorted l N d){i n q E q':Nat}(T:i+1<N)(H:d i=((n:Int),(q:Int)))(U:d (i+1)=((E:Int),(q':Int))):n<=E/\codeN l q+1<2^n/\codeN l q'=(codeN l q+1)*2^(E-n):=by
 obtain⟨a,b,e,_,_,_,au,ag⟩:=M.at' i (by omega);obtain⟨aa,ac,I,al,ae,aj,av,O⟩:=M.at' (i+1) T;rw[H]at e;rw[U]at I;have ai:n=a:=by have:=congrArg Prod.fst e;simp at this;omega
 have e2:q=b:=by have:=congrArg Prod.snd e;simp at this;omega
 have e3:E=aa:=by have:=congrArg Prod.fst I;simp at this;omega
 have ao:q'=ac:=by have:=congrArg Prod.snd I;simp at this;omega
 subst ai e2 e3 ao;have F:=M.srt i (i+1) (VH _) (by omega) T;rw[H,U]at F;have af:n<=E:=by unfold Stab.lx at F;simp only at F;omega
 have ah:wt (d i)=2^(15-n):=by rw[H];simp[wt]
 rw[vsum,ag,ah]at O;have Z:2^(15-n)=2^(E-n)*2^(15-E):=by rw[<-Nat.pow_add];congr 1;omega
 have ap:((codeN l q+1)*2^(E-n))*2^(15-E)=codeN l q'*2^(15-E):=by
  rw[<-O,XY,<-Z,ZW,Nat.one_mul]
 have Y:=Nat.eq_of_mul_eq_mul_right (Nat.pow_pos (n:=15-E) (show 0<2 by decide)) ap;have G:=(Ig l ak al ae aj).2.2;rw[<-Y]at G;have ar:2^E=2^n*2^(E-n):=by rw[<-Nat.pow_add];congr 1;omega
 rw[ar]at G;exact⟨af,Nat.lt_of_mul_lt_mul_right G,Y.symm⟩
def Jn (xs:List (Int×Int)):List Value:=xs.flatMap fun p=> [.int .i64 p.1,.int .i64 p.2]
theorem Ys (xs ys:List (Int×Int)):Jn (xs++ys)=Jn xs++Jn ys:=by simp[Jn]
theorem O1:∀(xs:List (Int×Int)) (k:Nat),k<xs.length->(Jn xs)[k*2]? =some (.int .i64 (xs.getD k (0,0)).1)/\(Jn xs)[k*2+1]? =some (.int .i64 (xs.getD k (0,0)).2)
 | [],k,h=>by simp at h
 |x::r,0,_=>by simp[Jn]
 |x::r,k+1,h=>by
  have ih:=O1 r k (by simpa using h);have e:Jn (x::r)=.int .i64 x.1::.int .i64 x.2::Jn r:=by simp[Jn]
  rw[e,show (k+1)*2=k*2+1+1 by omega];simpa using ih
theorem Z4y:(Tryz.prog.info? 9).map (fun i=>(i.zero,i.size,i.bytes))=some (some (.string ByteArray.empty),1,16):=by kernel_rfl
theorem Z70:(Tryz.prog.info? 230).map (fun i=>(i.zero,i.size,i.bytes))=some (some (.agg #[.int .i64 0,.int .i64 0]),2,16):=by kernel_rfl
theorem BW {w:World}{B e F n:Nat}{v:Value}{xs:List Value}(E:w.ownsRow B e F v n xs){b:Nat}(G:b<B):v.ownBlock≠some b:=by
 intro e;have:=(E.lt b e).1
 omega
theorem MU {w:World}{B e H n:Nat}{v:Value}{xs:List Value}(G:w.ownsRow B e H v n xs):∃a c,v=.slice a n c/\(n=0\/∃g,a=some ⟨g,0,none⟩/\B<=g/\g<w.heap.size):=by
 rcases G.2 with ⟨E,F⟩|⟨g,cap,cur,E,F,I⟩
 . subst F;exact⟨none,0,E,.inl rfl⟩
 . exact⟨_,_,E,.inr ⟨g,rfl,F,(G.lt g (by rw[E];rfl)).2⟩⟩
theorem Ku {w:World}{b o:Nat}{v:Value}(E:w.cell? ⟨b,o,none⟩=some v)(x:Obj):(w.alloc x).cell? ⟨b,o,none⟩=some v:=by
 rw[World.cell?_alloc_past _ _ _ (block_lt_of_cell E)];exact E
theorem Id {w:World}{b o:Nat}(E:w.frozen? ⟨b,o,none⟩=false)(F:b<w.heap.size)(x:Obj):(w.alloc x).frozen? ⟨b,o,none⟩=false:=by
 have:=((Below.refl w.heap.size w).alloc (VB _) x).frozen (p:=⟨b,o,none⟩) F
 rw[this];exact E
theorem Ot (a b:List Bool):text a++text b=text (a++b):=by
 apply ByteArray.ext
 simp[text]
theorem TQ (a b:List Bool):(text (a++b)).extract 0 a.length=text a:=by
 apply ByteArray.ext
 simp[text]
theorem PS.other {N E:Nat}{d:Nat->Int×Int}{W:World}(H:PS N E d W){a:Addr}(I:E≠a.block)(v:Value):PS N E d (W.setCell a v):=by
 intro k G;have F:=Below.heap_setCell W a v E I;rw[World.cell?_of_block (a:=⟨E,k*2,none⟩) F,World.frozen?_of_block (a:=⟨E,k*2,none⟩) F,World.cell?_of_block (a:=⟨E,k*2+1,none⟩) F,World.frozen?_of_block (a:=⟨E,k*2+1,none⟩) F];exact H k G
structure OutTo (l:List Int)(at':Nat->Nat)(len i:Nat)(xs:List Value):Prop where
 size:xs.length=len
 set:∀j,j<i->xs[at' j]? =some (.string (text (codeT l (at' j))))
 or':∀q,q<len->xs[q]? =some (.string (text (codeT l q)))\/xs[q]? =some (.string (text []))
theorem Z0h {l:List Int}{F:Nat->Nat}{G i q:Nat}{xs:List Value}(E:OutTo l F G i xs)(H:F i=q)(M:q<G):OutTo l F G (i+1) (xs.set q (.string (text (codeT l q)))):=by
 refine⟨by rw[XS];exact E.size,fun j O=> ?_,fun r hr=> ?_⟩
 . rw[YM]
   by_cases e:q=F j
   . rw[if_pos e,if_pos (by rw[E.size];omega),<-e]
   . rw[if_neg e]
     by_cases I:j=i
     . subst I;exact absurd H.symm e
     . exact E.set j (by omega)
 . rw[YM]
   by_cases e:q=r
   . subst e;rw[if_pos rfl,if_pos (by rw[E.size];omega)];exact .inl rfl
   . rw[if_neg e];exact E.or' r hr
theorem Z47 {l:List Int}{d:Nat->Int×Int}{F N:Nat}{xs:List Value}(O:Good l)(aa:l.length=F)(E:OutTo l (fun i=>(d i).2.toNat) F N xs)(M:Sorted l N d):xs=(List.range F).map fun q=>.string (text (codeT l q)):=by
 apply List.ext_getElem?
 intro q
 by_cases G:q<F
 . have e:((List.range F).map fun q=>Value.string (text (codeT l q)))[q]? =some (.string (text (codeT l q))):=by simp[G]
   rw[e]
   by_cases Y:0<l.getD q 0
   . obtain⟨i,hi,Z⟩:=M.all q (by omega) Y;have:=E.set i hi
     rw[Z]at this;simpa using this
   . have H:l.getD q 0=0:=by have:=(O.ok q (by omega)).1;omega
     have T:codeT l q= []:=by unfold codeT;rw[H];rfl
     rcases E.or' q G with E|E
     . exact E
     . rw[T];exact E
 . have U:xs[q]? =none:=by simp;rw[E.size];omega
   have I:((List.range F).map fun q=>Value.string (text (codeT l q)))[q]? =none:=WJ (by simp;omega);rw[U,I]
def Z33 (l:List Int)(d:Nat->Int×Int)(i:Nat)(cs:List Bool):Prop:=(i=0/\cs= [])\/ (0<i/\∃n q:Nat,d (i-1)=((n:Int),(q:Int))/\cs=hb (codeN l q) n/\n<=15)
theorem Z9 (a:Option Addr)(H ag:Nat)(l:List Int)(w:World)(a6:l.length=H)(cu:RowIn .i64 w a l)(bh:Good l):
 Calls Tryz.prog 125 #[.slice a H ag] w fun e w'=>∃g,e=.returned (.slice (some ⟨g,0,none⟩) H H)/\Below w.heap.size w w'/\w.heap.size<=g/\
  w'.ownsRow w.heap.size 9 1 (.slice (some ⟨g,0,none⟩) H H) H ((List.range H).map fun q=>.string (text (codeT l q))):=by
 obtain⟨d8,hi,di,ei,dj⟩:=info_parts Z70;have e7:=bh.len;have a7:=Ab bh;have dn:=Ab cu;have fe:=Ab a6;clear cu bh;go_enter Tryz.func125,Tryz.ntmps125
 go_wp2;have db:w.heap.size+1<=(w.alloc (.cells #[.slice none 0 0] 228)).heap.size:=by simp
 have a4:=Ab (World.ownsRow_nil (w.alloc (.cells #[.slice none 0 0] 228)) (w.heap.size+1) 230 2);have a3:=Ab ((Below.refl w.heap.size w).alloc (VB _) (.cells #[.slice none 0 0] 228));go_loopw [13] (fun i wr=>∃(k:Nat) (v:Value),k<=H/\i=.int .i64 (k:Int)/\wr.cell? ⟨w.heap.size,0,none⟩=some v/\wr.frozen? ⟨w.heap.size,0,none⟩=false/\wr.ownsRow (w.heap.size+1) 230 2 v (Bu l k).length (Jn (Bu l k))/\Below w.heap.size w wr/\w.heap.size+1<=wr.heap.size) (fun i _=>H-(intOf i).toNat)
 case atStart=>exact⟨0,_,VH _,rfl,by simp,by simp,Aa a4,Aa a3,db⟩
 case round=>
  obtain⟨k,v,fi,rfl,hc,ay,E,I,et⟩:=hrel;have O:=Ab E;have ac:=Ab I;obtain⟨T,ah,rfl,cv⟩:=MU E
  by_cases aj:k<H
  . have c6:k<l.length:=by omega
    obtain⟨b,o,rfl,hb,cq⟩:∃b o,a=some ⟨b,o,none⟩/\b<w.heap.size/\Row .i64 w b o l:=by
     rcases Aa dn with rfl|h
     . simp at c6
     . exact h
    have c1:=(I.cell (p:=⟨b,o+k,none⟩) hb).trans (cq k c6);have af:Hid (Bu l (k+1)=Bu l k++(if 0<l.getD k 0 then [(l.getD k 0,(k:Int))]else [])):=rfl;have e1:=Q9 l k;clear E I cq a4 a3;generalize l.getD k 0=x at*
    by_cases c9:0<x
    . rw[if_pos c9]at af;generalize bw:(Bu l k).length=ax at*;have ek:=Ab bw;clear bw;go_wp2_with (at_builtin;refine wpList_append_own _ rfl _ _ 228 rfl (w.heap.size+1) 230 d8 (.agg #[.int .i64 0,.int .i64 0]) 2 16 Tryz.underlying228 hi di ei dj rfl (by decide) _ _ _ rfl ((Aa O).alloc _) ⟨wr.heap.size,0,none⟩ 1 1 [.int .i64 x,.int .i64 (k:Int)] rfl rfl (by intro j u G;match j,G with|0,G=>simp at G;subst G;simp[Addr.add]|1,G=>simp at G;subst G;simp[Addr.add]) (by intro u co;simp at co;rcases co with rfl|rfl<;>rfl) (by unfold maxLen;omega) (by omega) (by simp;omega) ?_)
      intro v' ar ap aw _;have ds:=BW (Aa O) (b:=w.heap.size) (by omega);have M:w.heap.size<wr.heap.size:=by omega
      have a5:=aw.block w.heap.size (by simp;omega) (fun e=>ds e.symm)
      have b5:ar.cell? ⟨w.heap.size,0,none⟩=some (.slice T ax ah):=by
       rw[World.cell?_of_block a5];exact Ku hc _
      have ed:ar.frozen? ⟨w.heap.size,0,none⟩=false:=by
       rw[World.frozen?_of_block a5];exact Id ay M _
      obtain⟨bi,a2,rfl,_⟩:=MU ap;have dq:=Ab (ap.kept (Ad ar w.heap.size 0 (.slice bi (ax+1) a2)) (.inr (BW ap (by omega))));have d7:=Ab ((((Aa ac).alloc (by omega) (.cells #[.int .i64 x,.int .i64 (k:Int)] 230)).grown aw (by simp;omega) (fun j G=>by have:=((Aa O).lt j G).1;omega)).setCell (p:=⟨w.heap.size,0,none⟩) (VB _) (.slice bi (ax+1) a2))
      have df:w.heap.size+1<=(ar.setCell ⟨w.heap.size,0,none⟩ (.slice bi (ax+1) a2)).heap.size:=by
       have:=aw.size
       simp only[World.size_alloc]at this;simp;omega
      clear ap aw a5 O ac hc ay;go_wp2;go_roundw
      case rel=>
       refine⟨k+1,_,by omega,by go_num,World.cell?_setCell_same _ _ _ b5,by rw[World.frozen?_setCell];exact ed, ?_,Aa d7,df⟩;rw[Aa af,Ys,VE,Aa ek];exact Aa dq
      case measure=>simp[intOf];omega
    . rw[if_neg c9,XA]at af;go_wp2;go_roundw
      case rel=>exact⟨k+1,_,by omega,by go_num,hc,ay,by rw[Aa af];exact Aa O,Aa ac,et⟩
      case measure=>simp[intOf];omega
  . obtain rfl:k=H:=by omega
    have az:Bu l k=Bu l l.length:=by rw[a6]
    have en:(Bu l k).length<=288:=by have:=Q9 l k;omega
    obtain⟨bp,bf,ey,ci,fw⟩:∃bp,((Bu l k).length=0\/T=some ⟨bp,0,none⟩)/\((Bu l k).length=0\/bp<wr.heap.size)/\w.heap.size≠bp/\w.heap.size+1<=bp:=by
     rcases cv with h|⟨g,dy,dh,dm⟩
     . exact⟨w.heap.size+1,.inl h,.inl h,by omega,by omega⟩
     . exact⟨g,.inr dy,.inr dm,by omega,dh⟩
    have da:Hid (PS (Bu l k).length bp (dU l) wr):=by
     intro j G
     have dz:T=some ⟨bp,0,none⟩:=by
      rcases bf with h|h
      . omega
      . exact h
     subst dz;obtain⟨dl,dv⟩:=O1 (Bu l k) j G;have e:dU l j=(Bu l k).getD j (0,0):=by unfold dU;rw[az]
     rw[e];exact⟨⟨(E.cellAt (j*2) (by omega)).trans dl,E.frozenAt _⟩,⟨(E.cellAt (j*2+1) (by omega)).trans dv,E.frozenAt _⟩⟩
    have ck:Hid (RW (dU l) 0 (Bu l k).length):=by rw[az];exact Z59 l
    have cy:Hid (∀d,Stab.Moved 0 (Bu l k).length (dU l) d->Stab.Srt Stab.lx d 0 (Bu l k).length->Sorted l (Bu l k).length d):=by
     rw[az];exact fun d=>LR l (Aa a7) d
    have dw:∀(b7:Fn) (first ag:Array Value) (w:World),(Instr.makeFunc b7 first ag).run Tryz.prog w=.ok (.func b7 first ag) w:=fun _ _ _ _=>rfl
    clear E I a4 a3 az cv;generalize (Bu l k).length=N at*;generalize Bu l k=U at*;go_wp2_with fail
    refine(Qp N bp w.heap.size ah T (dU l) wr en bf ey (by omega) ci hc (Aa da) (Aa ck)).mono ?_;rintro e a9 ⟨rfl,d,ce,cm,b4,g2⟩;have al:=Ab (Aa cy d cm b4);have bq:=Ab ce;have c2:=g2.cell hc (by simpa using ci);have bu:=Ab ((Aa ac).grown g2 (by omega) (fun j h=>by cases h;omega));have fp:=g2.size;clear ce cm b4 g2 hc ay da ck cy O ac dw;obtain⟨ct,cp,c8,y1,y2⟩:=info_parts Z4y;go_wp2_with (at_make;refine wpList_make_full _ rfl _ _ 43 rfl w.heap.size 9 ct (.string ByteArray.empty) 1 Tryz.underlying43 cp c8 y1 _ _ _ _ k rfl rfl rfl rfl (by rw[y2];omega) (by unfold maxLen;omega) (by omega) ?_)
    intro w3 au ae
    have e0:(madeCells #[Value.string ByteArray.empty] k).toList=List.replicate k (.string (text [])):=by
     rw[toList_madeCells_one];rfl
    rw[e0]at au;have du:=Ab au;have em:=(au.lt _ rfl).2;have dx:=Ab (Hq (Aa bu) ae (by omega))
    have ej:Hid (PS N bp d w3):=by
     by_cases eh:N=0
     . subst eh;intro j G;omega
     . exact(Aa bq).kept ae (by omega)
    have b5:=ae.cell c2 (by simp);have fq:N=0\/bp<a9.heap.size:=by omega
    have e8:=ae.size;have fu:w.heap.size+1<=a9.heap.size:=by omega
    have eu:Hid (OutTo l (fun i=>(d i).2.toNat) k 0 (List.replicate k (.string (text [])))):=⟨by simp,fun i h=>by omega,fun q bn=>.inr (by simp[bn])⟩
    clear au ae e0 bq bu c2 cp c8 y1 y2 ct;generalize a9.heap.size=g at*;go_wp2;go_loopw [7,36] (fun ah bc ak=>∃(i:Nat) (cs:List Bool) (xs:List Value),i<=N/\bc=.int .i64 (i:Int)/\ah=.string (text cs)/\Z33 l d i cs/\ak.ownsRow w.heap.size 9 1 (.slice (some ⟨g,0,none⟩) k k) k xs/\OutTo l (fun i=>(d i).2.toNat) k i xs/\PS N bp d ak/\Below w.heap.size w ak/\g<ak.heap.size) (fun _ bc _=>N-(intOf bc).toNat)
    case atStart=>exact⟨0,[],_,VH _,rfl,rfl,.inl ⟨rfl,rfl⟩,Aa du,Aa eu,Aa ej,Aa dx,em⟩
    case round=>
     obtain⟨i,cs,xs,fm,rfl,rfl,a8,E,M,Y,I,cg⟩:=hrel;have a1:=Ab E;have ee:=Ab M;have b0:=Ab Y;have bb:=Ab I;have b9:=Ab a8
     by_cases aj:i<N
     . obtain⟨n,q,bg,bn,d5,e5,cn,_⟩:=(Aa al).at' i aj;have c1:=(Y i aj).1.1;have c2:=(Y i aj).2.1;rw[bg]at c1 c2;simp only at c1 c2
       have ai:=Ab bg;obtain⟨y,bo⟩:∃y,xs[q]? =some y:=⟨xs[q]'(by rw[E.1];omega),by simp⟩
       have fh:(q:Int)<(k:Int):=by omega
       have cw:=(E.cellAt q (by omega)).trans bo;have c5:=E.frozenAt q;clear E M Y I a8 bg bo;have aa:Hid (∀bj:World,bj.ownsRow w.heap.size 9 1 (.slice (some ⟨g,0,none⟩) k k) k xs->(bj.setCell ⟨g,q,none⟩ (.string (text (codeT l q)))).ownsRow w.heap.size 9 1 (.slice (some ⟨g,0,none⟩) k k) k (xs.set q (.string (text (codeT l q))))):=fun bj h=>(h.stored q _).1
       have av:Hid (OutTo l (fun i=>(d i).2.toNat) k (i+1) (xs.set q (.string (text (codeT l q))))):=Z0h (Aa ee) (by rw[Aa ai];simp) (by omega);have b8:Hid (Z33 l d (i+1) (hb (codeN l q) n)):=.inr ⟨by omega,n,q,Aa ai,rfl,cn⟩;have cz:Hid (codeT l q=hb (codeN l q) n):=by unfold Hid codeT;rw[d5];simp
       have bm:bp≠g:=by omega
       obtain rfl:T=some ⟨bp,0,none⟩:=by
        rcases bf with h|h
        . omega
        . exact h
       by_cases ba:i=0
       . have ao:cs= []:=by
          rcases Aa b9 with ⟨_,h⟩|⟨h,_⟩
          . exact h
          . omega
         subst ao;have fj:¬(0:Int)<(i:Int):=by omega
         have e2:codeN l q=0:=(Aa al).first (by omega) (by rw[<-ba];exact Aa ai);have e3:hb (codeN l q) n=List.replicate n false:=by rw[e2,OW]
         have dd:=Ab e3;have ts:(text []).size=0:=rfl;have bd:=Ct (List.replicate n false);rw[XD]at bd;clear e2 e3 ba;have e6:text []++text (List.replicate n false)=text (hb (codeN l q) n):=by rw[Ot,List.nil_append,Aa dd]
         go_wp2_with fail
         refine(T6 n cn _).mono ?_;rintro e bv ⟨rfl,rfl⟩;rw[Aa cz]at aa av;have cj:=Ab (Aa aa wr (Aa a1));have eg:=Ku cw (.cells #[.int .i64 (n:Int),.int .i64 (q:Int)] 230);have d9:=Id c5 cg (.cells #[.int .i64 (n:Int),.int .i64 (q:Int)] 230);go_wp2;go_roundw
         case rel=>exact⟨i+1,hb (codeN l q) n,_,by omega,by go_num,rfl,Aa b8,(Aa cj).alloc _,Aa av,((Aa b0).other bm _).alloc (by simp;omega) _,((Aa bb).setCell (p:=⟨g,q,none⟩) (by simp;omega) _).alloc (by simp;omega) _,by simp;omega⟩
         case measure=>simp[intOf];omega
       . obtain⟨n0,Z,bk,ao,dp⟩:∃n0 Z:Nat,d (i-1)=((n0:Int),(Z:Int))/\cs=hb (codeN l Z) n0/\n0<=15:=by
          rcases Aa b9 with ⟨h,_⟩|⟨_,h⟩
          . omega
          . exact h
         have ft:(0:Int)<(i:Int):=by omega
         obtain⟨m1,m2,b3⟩:=(Aa al).next (Aa a7) (i:=i-1) (by omega) bk (by rw[show i-1+1=i by omega];exact Aa ai);obtain⟨F,t,b1,b2⟩:=Z2v n0 (codeN l Z) m2
         have de:F.length+1+t=n0:=by
          have:=congrArg List.length b1
          rw[Bd]at this;simp at this;omega
         have c7:hb (codeN l q) n=(F++true::List.replicate t false)++List.replicate (n-n0) false:=by
          have bz:=Z2u (codeN l Z+1) n0 (n-n0);rw[show n0+(n-n0)=n by omega,<-b3,b2]at bz;exact bz
         rw[b1]at ao;subst ao;have dt:=Ab c7
         have dr:Hid (((text (F++false::List.replicate t true)).extract 0 F.length++⟨#[49]⟩)++text (List.replicate t false)=text (F++true::List.replicate t false)):=by
          rw[TQ,show (⟨#[49]⟩:ByteArray)=text [true] from rfl,Ot,Ot,VS];exact rfl
         have fk:text (F++true::List.replicate t false)++text (List.replicate (n-n0) false)=text (hb (codeN l q) n):=by rw[Ot,Aa dt]
         have ew:=Ct (F++false::List.replicate t true);rw[show (F++false::List.replicate t true).length=n0 by simp;omega]at ew;have ep:=Ct (F++true::List.replicate t false);rw[show (F++true::List.replicate t false).length=n0 by simp;omega]at ep;have bd:=Ct (List.replicate t false);rw[XD]at bd;have dc:=Ct (List.replicate (n-n0) false);rw[XD]at dc;have eb:=Ab (fun w=>Z17 F t w (by omega));have fg:(F.length:Int)<=(n0:Int):=by omega
         have e4:(n0:Int)-(F.length:Int)-1=(t:Int):=by omega
         have fo:(n:Int)-(n0:Int)=((n-n0:Nat):Int):=by omega
         have eo:t<=15:=by omega
         clear ba bk dp m1 m2 b3 b1 b2 c7 de;generalize F.length=la at*;generalize cd:text (F++false::List.replicate t true)=e9 at*;have ff:=Ab cd;clear cd;go_wp2_with fail
         refine(Aa eb _).mono ?_;rintro e bv ⟨rfl,rfl⟩;go_wp2;go_quiet ((go_at_call 165;refine Calls.quiet_of_same (T6 t eo _)))
         rw[Aa dr];go_wp2_with fail
         refine(T6 (n-n0) (by omega) _).mono ?_;rintro e bv ⟨rfl,rfl⟩;rw[Aa cz]at aa av;have cj:=Ab (Aa aa wr (Aa a1));have eg:=Ku cw (.cells #[.int .i64 (n:Int),.int .i64 (q:Int)] 230);have d9:=Id c5 cg (.cells #[.int .i64 (n:Int),.int .i64 (q:Int)] 230);go_wp2;go_roundw
         case rel=>exact⟨i+1,hb (codeN l q) n,_,by omega,by go_num,rfl,Aa b8,Aa aa ((wr.alloc _).drewN nq) ((Aa a1).alloc _),Aa av,PS.other (a:=⟨g,q,none⟩) (PS.drewN ((Aa b0).alloc (by omega) _) nq) bm _,Below.setCell (p:=⟨g,q,none⟩) (Ae ((Aa bb).alloc (by omega) _) nq) (by simp;omega) _,by simp;omega⟩
         case measure=>simp[intOf];omega
     . obtain rfl:i=N:=by omega
       have d6:Hid (xs=(List.range k).map fun q=>.string (text (codeT l q))):=Z47 (Aa a7) a6 M (Aa al);clear E M Y I a8;go_wp2;go_ret;exact⟨g,rfl,Aa bb,by omega,by rw[<-Aa d6];exact Aa a1⟩
end Go.Proofs.YtleocpdblhbimaaGreatDoor
