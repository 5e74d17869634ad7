import Derived.Test.YtleocpdblhbimaaGreatDoorQ44
import Derived.Test.YtleocpdblhbimaaGreatDoorQ40
set_option linter.unusedSimpArgs false
set_option maxHeartbeats 2000000
namespace Go.Proofs.YtleocpdblhbimaaGreatDoor
open Go.RowKit Go.Lib
set_option linter.unusedVariables false
set_option maxRecDepth 100000
theorem Rr (E F:Value)(M:E.oneCell'=true)(H:F.oneCell'=true)(n:Nat)(I:n<=1)(w:World):
 Calls Tryz.prog 225 #[.agg #[E,F],.int .i64 0,.int .i64 n] w fun e w'=>e=.returned (.tuple #[])/\w.grownBy w' none:=by
 go_enter Tryz.func225,Tryz.ntmps225
 go_wp2;go_loop [6] (fun G=>G=.int .i64 1) (fun _=>0)
 case atStart=>exact rfl
 case round=>
  obtain rfl:=hrel;have h:¬(1:Int)<(n:Int):=by omega
  go_wp2;go_end0
  exact⟨rfl,Bt (Bp _ _) _⟩
theorem A9 (I F:Fn)(H lb U Z:Array Value)(n:Nat)(O:n<=1)(w:World):
 Calls Tryz.prog 197 #[.agg #[.func I H lb,.func F U Z],.int .i64 n] w fun e w'=>e=.returned (.tuple #[])/\w.grownBy w' none:=by
 go_enter Tryz.func197,Tryz.ntmps197
 go_wp2;go_loop [5,6] (fun M Y=>M=.int .i64 0/\Y=.int .i64 20) (fun _ _=>0)
 case atStart=>exact⟨rfl,rfl⟩
 case round=>
  obtain⟨rfl,rfl⟩:=hrel;have h:¬(20:Int)<=(n:Int):=by omega
  have ac:¬(20:Int)<(n:Int):=by omega
  go_wp2_with fail
  refine(Rr _ _ rfl rfl n O _).mono ?_;rintro e aa ⟨rfl,E⟩;have T:=Ab (Bf (Bt (Bp w none) _) E);clear E;go_wp2;go_loop [4,5,6,7] (fun G _ _ _=>G=.int .i64 20) (fun _ _ _ _=>0)
  case atStart=>exact rfl
  case round=>
   obtain rfl:=hrel;go_wp2;go_end0
   exact⟨rfl,Aa T⟩
theorem swk (n:Nat)(E:TypeInfo)(I:E.hasPointers=false)(H:E.bytes=16):swapperK n E 25=if n=0 then 1 else if n=1 then 2 else 9:=by
 unfold swapperK;rw[I,H]
 by_cases G:n=0
 . simp[G]
 . by_cases F:n=1
   . simp[F]
   . simp[G,F]
def DY (N bp:Nat)(d:Nat->Int×Int)(w w':World):Prop:=∃d',PS N bp d' w'/\Stab.Moved 0 N d d'/\Stab.Srt Stab.lx d' 0 N/\w.grownBy w' (some bp)
theorem Qp (N E I H:Nat)(p:Option Addr)(d:Nat->Int×Int)(w:World)(ae:N<=288)(ao:N=0\/p=some ⟨E,0,none⟩)(ay:N=0\/E<w.heap.size)(ap:I<w.heap.size)(al:I≠E)
 (af:w.cell? ⟨I,0,none⟩=some (.slice p N H)) (Z:PS N E d w) (ar:RW d 0 N):
 Calls Tryz.prog 162 #[.iface 228 (.slice p N H),LF I] w fun e w'=>e=.returned (.tuple #[])/\DY N E d w w':=by
 obtain⟨M,U,aa⟩:=XF.1 Z72;have ah:M.hasPointers=false:=congrArg Prod.fst aa;have av:M.bytes=16:=congrArg Prod.snd aa;have G:=swk N M ah av;have F:w.grownBy (stW Tryz.prog.globals.size p N H w) none:=Bt (Bt (Bp w none) _) _
 by_cases ac:N<=1
 . have small:∀f B,Calls Tryz.prog 197 #[.agg #[LF I,.func (.func f) #[] B],.int .i64 N] (stW Tryz.prog.globals.size p N H w) fun e w'=>e=.returned (.tuple #[])/\DY N E d w w':=fun f B=>by
    refine(A9 _ _ _ _ _ _ N ac _).mono ?_;rintro e w' ⟨rfl,aj⟩;have O:=Bf F aj;refine⟨rfl,d, ?_,Stab.Moved.refl _ _ _,fun i j az ax aw=>by omega,⟨O.os,O.tape,O.output,O.size,fun i hi _=>O.block i hi (by simp)⟩⟩
    by_cases T:N=0
    . subst T;intro k G;omega
    . exact Z.kept O (by omega)
   by_cases T:N=0
   . rw[if_pos T]at G;exact Gv _ rfl M U p N H 216 (by rw[G];kernel_rfl) _ rfl _ _ _ w _ (Ab (small _ _))
   . rw[if_neg T,if_pos (by omega)]at G;exact Gv _ rfl M U p N H 217 (by rw[G];kernel_rfl) _ rfl _ _ _ w _ (Ab (small _ _))
 . rw[if_neg (by omega),if_neg (by omega)]at G
   obtain rfl:p=some ⟨E,0,none⟩:=by
    rcases ao with h|h
    . omega
    . exact h
   have Y:E<w.heap.size:=by omega
   refine Gv _ rfl M U (some ⟨E,0,none⟩) N H 224 (by rw[G];kernel_rfl) _ rfl _ _ _ w _ (Ab ?_);rw[G];refine(EY (typeHandle Tryz.prog 230) (Ab rfl) N E I H d _ ae (VG Y F.size) (VG ap F.size) al (F.cell af (by simp)) (Z.kept F Y) ar).mono ?_;rintro e w' ⟨rfl,d',ai,ak,ag,au⟩;exact⟨rfl,d',ai,ak,ag,Bf ⟨F.os,F.tape,F.output,F.size,fun i hi _=>F.block i hi (by simp)⟩ au⟩
theorem Z17 (a:List Bool)(t:Nat)(w:World)(ae:a.length+1+t<=16):
 Calls Tryz.prog 164 #[.string (text (a++false::List.replicate t true)),.int .u8 48] w fun e w'=>e=.returned (.int .i64 (a.length:Int))/\w'=w:=by
 have I:(a++false::List.replicate t true).length=a.length+1+t:=by simp;omega
 have M:=Ct (a++false::List.replicate t true);rw[I]at M;have U:=Ab (LC (a++false::List.replicate t true));have ag:=Ab I
 have Y:Hid (∀j,a.length<j->(F:j<(a++false::List.replicate t true).length)->(a++false::List.replicate t true)[j]=true):=fun j ac F=>by
  rw[List.getElem_append_right (by omega)];obtain⟨m,hm⟩:∃m,j-a.length=m+1:=⟨j-a.length-1,by omega⟩
  simp[hm]
 have aa:Hid ((F:a.length<(a++false::List.replicate t true).length)->(a++false::List.replicate t true)[a.length]=false):=fun F=>by
  rw[List.getElem_append_right (by omega)];simp
 generalize a++false::List.replicate t true=l at*
 have T:Hid (∀w,Calls Tryz.prog 199 #[.string (text l),.int .u8 48] w fun e w'=>e=.returned (.int .i64 (a.length:Int))/\w'=w):=by
  intro w;go_enter Tryz.func199,Tryz.ntmps199
  go_wp2;go_loop [5] (fun G=>∃j:Nat,a.length<=j/\j<a.length+1+t/\G=.int .i64 (j:Int)) (fun G=>(RowKit.intOf G).toNat)
  case atStart=>exact⟨a.length+t,by omega,by omega,by go_num⟩
  case round=>
   obtain⟨j,af,ah,rfl⟩:=hrel;have H:j<l.length:=by omega
   have O:j<(text l).size:=by omega
   have E:=Aa U j H O
   by_cases Z:a.length<j
   . rw[Aa Y j Z H]at E;have hb:((((text l)[j]'hjs).toNat:Int)==48)=false:=by rw[E];rfl
     clear E;go_wp2;go_round
     case rel=>exact⟨j-1,by omega,by omega,by go_num⟩
     case measure=>simp[RowKit.intOf];omega
   . obtain rfl:j=a.length:=by omega
     rw[Aa aa H]at E;have hb:((((text l)[a.length]'hjs).toNat:Int)==48)=true:=by rw[E];rfl
     clear E;go_wp2;go_ret;exact⟨rfl,rfl⟩
 go_enter Tryz.func164,Tryz.ntmps164
 go_wp2_with fail
 refine(Aa T _).mono ?_;rintro e w' ⟨rfl,rfl⟩;go_wp2;go_ret;exact⟨rfl,rfl⟩
end Go.Proofs.YtleocpdblhbimaaGreatDoor
namespace Go.Proofs.YtleocpdblhbimaaGreatDoor
open Go.RowKit
set_option linter.unusedVariables false
set_option maxRecDepth 100000
theorem Wo (l:List Int):∀k x,x∈Bu l k->∃q:Nat,q<k/\0<l.getD q 0/\x=(l.getD q 0,(q:Int))
 |0,x,h=>by simp[Bu]at h
 |k+1,x,h=>by
  rw[Bu,WP]at h
  rcases h with h|h
  . obtain⟨q,G,F,E⟩:=Wo l k x h;exact⟨q,by omega,F,E⟩
  . by_cases e:0<l.getD k 0
    . rw[if_pos e]at h;exact⟨k,by omega,e,by simpa using h⟩
    . rw[if_neg e]at h;simp at h
theorem AZ (l:List Int):∀k (q:Nat),q<k->0<l.getD q 0->(l.getD q 0,(q:Int))∈Bu l k
 |0,q,h,_=>by omega
 |k+1,q,h,h2=>by
  rw[Bu,WP]
  by_cases e:q=k
  . subst e;right;rw[if_pos h2];simp
  . left;exact AZ l k q (by omega) h2
theorem Zj (l:List Int):∀k,(Bu l k).Pairwise (fun x y=>x.2<y.2)
 |0=>List.Pairwise.nil
 |k+1=>by
  rw[Bu,List.pairwise_append];refine⟨Zj l k, ?_, ?_⟩
  . split<;>simp
  . intro x G y E;obtain⟨q,H,_,F⟩:=Wo l k x G
    split at E
    . simp at E
      rw[F,E];simp only
      omega
    . simp at E
theorem Q9 (l:List Int):∀k,(Bu l k).length<=k
 |0=>by simp[Bu]
 |k+1=>by
  have:=Q9 l k
  rw[Bu,VE]
  split<;>simp<;>omega
def dU (l:List Int):Nat->Int×Int:=fun k=>(Bu l l.length).getD k (0,0)
theorem Z59 (l:List Int):RW (dU l) 0 (Bu l l.length).length:=by
 intro i j _ F E;have h:=YE.1 (Zj l l.length) i j (by omega) E F;unfold dU;have G:(Bu l l.length).getD i (0,0)=(Bu l l.length)[i]:=by simp[List.getD,show i<(Bu l l.length).length by omega]
 have e2:(Bu l l.length).getD j (0,0)=(Bu l l.length)[j]:=by simp[List.getD,E]
 rw[G,e2];exact h
theorem Z77 (l:List Int):Stab.seg (dU l) 0 (Bu l l.length).length=Bu l l.length:=by
 apply XK
 . simp[Stab.seg]
 . intro i F E;simp[Stab.seg,dU,List.getD,E]
structure Sorted (l:List Int)(N:Nat)(d:Nat->Int×Int):Prop where
 at':∀i,i<N->∃n q:Nat,d i=((n:Int),(q:Int))/\q<l.length/\l.getD q 0=(n:Int)/\0<n/\n<=15/\vsum d i=codeN l q*2^(15-n)
 srt:Stab.Srt Stab.lx d 0 N
 all:∀q:Nat,q<l.length->0<l.getD q 0->∃i,i<N/\d i=(l.getD q 0,(q:Int))
theorem LR (l:List Int)(F:Good l)(d:Nat->Int×Int)(U:Stab.Moved 0 (Bu l l.length).length (dU l) d)(I:Stab.Srt Stab.lx d 0 (Bu l l.length).length):Sorted l (Bu l l.length).length d:=by
 have G:(Stab.seg d 0 (Bu l l.length).length).Perm (Bu l l.length):=by
  have:=U.perm
  rw[Z77]at this
  first|exact this|exact this.symm
 refine⟨fun i hi=> ?_,I,fun q T Y=> ?_⟩
 . have O:d i∈Stab.seg d 0 (Bu l l.length).length:=Stab.mem_seg.2 ⟨i,VH _,hi,rfl⟩;obtain⟨q,E,aa,M⟩:=Wo l _ _ (G.mem_iff.1 O);obtain⟨n,hn⟩:=WF (F.ok q E).1;have Z:=(F.ok q E).2;have H:=AF d _ I hi;rw[RC _ G,M,hn,RD l F E hn (by omega)]at H;exact⟨n,q,by rw[M,hn],E,hn,by omega,by omega,H.symm⟩
 . have:=G.mem_iff.2 (AZ l _ q T Y)
   obtain⟨i,_,hi,h⟩:=Stab.mem_seg.1 this;exact⟨i,hi,h⟩
theorem Sorted.first {l:List Int}{N:Nat}{d:Nat->Int×Int}(E:Sorted l N d){n q:Nat}(H:0<N)(I:d 0=((n:Int),(q:Int))):codeN l q=0:=by
 obtain⟨F,q',e,_,_,_,_,G⟩:=E.at' 0 H;rw[I]at e;have e2:q=q':=by have:=congrArg Prod.snd e;simp at this;omega
 subst e2;have:codeN l q*2^(15-F)=0:=G.symm
 rcases Nat.mul_eq_zero.1 this with E|E
 . exact E
 . have:=Nat.pow_pos (n:=15-F) (show 0<2 by decide);omega
theorem Sorted.next {l:List Int}(ae:Good l){N:Nat}{d:Nat->Int×Int}(H:Sorted l N d){i n q E q':Nat}(Y:i+1<N)(F:d i=((n:Int),(q:Int)))(T:d (i+1)=((E:Int),(q':Int))):n<=E/\codeN l q+1<2^n/\codeN l q'=(codeN l q+1)*2^(E-n):=by
 obtain⟨a,b,e,_,_,_,av,ag⟩:=H.at' i (by omega);obtain⟨ac,ah,M,ak,ar,al,au,O⟩:=H.at' (i+1) Y;rw[F]at e;rw[T]at M;have aa:n=a:=by have:=congrArg Prod.fst e;simp at this;omega
 have e2:q=b:=by have:=congrArg Prod.snd e;simp at this;omega
 have e3:E=ac:=by have:=congrArg Prod.fst M;simp at this;omega
 have af:q'=ah:=by have:=congrArg Prod.snd M;simp at this;omega
 subst aa e2 e3 af;have I:=H.srt i (i+1) (VH _) (by omega) Y;rw[F,T]at I;have ap:n<=E:=by unfold Stab.lx at I;simp only at I;omega
 have ao:wt (d i)=2^(15-n):=by rw[F];simp[wt]
 rw[vsum,ag,ao]at O;have aj:2^(15-n)=2^(E-n)*2^(15-E):=by rw[<-Nat.pow_add];congr 1;omega
 have Z:((codeN l q+1)*2^(E-n))*2^(15-E)=codeN l q'*2^(15-E):=by
  rw[<-O,XY,<-aj,ZW,Nat.one_mul]
 have U:=Nat.eq_of_mul_eq_mul_right (Nat.pow_pos (n:=15-E) (show 0<2 by decide)) Z;have G:=(Ig l ae ak ar al).2.2;rw[<-U]at G;have ai:2^E=2^n*2^(E-n):=by rw[<-Nat.pow_add];congr 1;omega
 rw[ai]at G;exact⟨ap,Nat.lt_of_mul_lt_mul_right G,U.symm⟩
def Jn (xs:List (Int×Int)):List Value:=xs.flatMap fun p=> [.int .i64 p.1,.int .i64 p.2]
theorem Ys (xs ys:List (Int×Int)):Jn (xs++ys)=Jn xs++Jn ys:=by simp[Jn]
theorem O1:∀(xs:List (Int×Int)) (k:Nat),k<xs.length->(Jn xs)[k*2]? =some (.int .i64 (xs.getD k (0,0)).1)/\(Jn xs)[k*2+1]? =some (.int .i64 (xs.getD k (0,0)).2)
 | [],k,h=>by simp at h
 |x::r,0,_=>by simp[Jn]
 |x::r,k+1,h=>by
  have ih:=O1 r k (by simpa using h);have e:Jn (x::r)=.int .i64 x.1::.int .i64 x.2::Jn r:=by simp[Jn]
  rw[e,show (k+1)*2=k*2+1+1 by omega];simpa using ih
theorem Z4y:(Tryz.prog.info? 9).map (fun i=>(i.zero,i.size,i.bytes))=some (some (.string ByteArray.empty),1,16):=by kernel_rfl
theorem Z70:(Tryz.prog.info? 230).map (fun i=>(i.zero,i.size,i.bytes))=some (some (.agg #[.int .i64 0,.int .i64 0]),2,16):=by kernel_rfl
theorem BW {w:World}{B e E n:Nat}{v:Value}{xs:List Value}(F:w.ownsRow B e E v n xs){b:Nat}(G:b<B):v.ownBlock≠some b:=by
 intro e;have:=(F.lt b e).1
 omega
theorem MU {w:World}{B e H n:Nat}{v:Value}{xs:List Value}(G:w.ownsRow B e H v n xs):∃a c,v=.slice a n c/\(n=0\/∃g,a=some ⟨g,0,none⟩/\B<=g/\g<w.heap.size):=by
 rcases G.2 with ⟨E,F⟩|⟨g,cap,cur,E,F,I⟩
 . subst F;exact⟨none,0,E,.inl rfl⟩
 . exact⟨_,_,E,.inr ⟨g,rfl,F,(G.lt g (by rw[E];rfl)).2⟩⟩
theorem Ku {w:World}{b o:Nat}{v:Value}(E:w.cell? ⟨b,o,none⟩=some v)(x:Obj):(w.alloc x).cell? ⟨b,o,none⟩=some v:=by
 rw[World.cell?_alloc_past _ _ _ (block_lt_of_cell E)];exact E
theorem Id {w:World}{b o:Nat}(E:w.frozen? ⟨b,o,none⟩=false)(F:b<w.heap.size)(x:Obj):(w.alloc x).frozen? ⟨b,o,none⟩=false:=by
 have:=((Below.refl w.heap.size w).alloc (VB _) x).frozen (p:=⟨b,o,none⟩) F
 rw[this];exact E
theorem Ot (a b:List Bool):text a++text b=text (a++b):=by
 apply ByteArray.ext
 simp[text]
theorem TQ (a b:List Bool):(text (a++b)).extract 0 a.length=text a:=by
 apply ByteArray.ext
 simp[text]
theorem PS.other {N E:Nat}{d:Nat->Int×Int}{W:World}(H:PS N E d W){a:Addr}(G:E≠a.block)(v:Value):PS N E d (W.setCell a v):=by
 intro k I;have F:=Below.heap_setCell W a v E G;rw[World.cell?_of_block (a:=⟨E,k*2,none⟩) F,World.frozen?_of_block (a:=⟨E,k*2,none⟩) F,World.cell?_of_block (a:=⟨E,k*2+1,none⟩) F,World.frozen?_of_block (a:=⟨E,k*2+1,none⟩) F];exact H k I
structure OutTo (l:List Int)(at':Nat->Nat)(len i:Nat)(xs:List Value):Prop where
 size:xs.length=len
 set:∀j,j<i->xs[at' j]? =some (.string (text (codeT l (at' j))))
 or':∀q,q<len->xs[q]? =some (.string (text (codeT l q)))\/xs[q]? =some (.string (text []))
theorem Z0h {l:List Int}{F:Nat->Nat}{G i q:Nat}{xs:List Value}(E:OutTo l F G i xs)(H:F i=q)(M:q<G):OutTo l F G (i+1) (xs.set q (.string (text (codeT l q)))):=by
 refine⟨by rw[XS];exact E.size,fun j O=> ?_,fun r hr=> ?_⟩
 . rw[YM]
   by_cases e:q=F j
   . rw[if_pos e,if_pos (by rw[E.size];omega),<-e]
   . rw[if_neg e]
     by_cases I:j=i
     . subst I;exact absurd H.symm e
     . exact E.set j (by omega)
 . rw[YM]
   by_cases e:q=r
   . subst e;rw[if_pos rfl,if_pos (by rw[E.size];omega)];exact .inl rfl
   . rw[if_neg e];exact E.or' r hr
theorem Z47 {l:List Int}{d:Nat->Int×Int}{F N:Nat}{xs:List Value}(H:Good l)(aa:l.length=F)(E:OutTo l (fun i=>(d i).2.toNat) F N xs)(M:Sorted l N d):xs=(List.range F).map fun q=>.string (text (codeT l q)):=by
 apply List.ext_getElem?
 intro q
 by_cases G:q<F
 . have e:((List.range F).map fun q=>Value.string (text (codeT l q)))[q]? =some (.string (text (codeT l q))):=by simp[G]
   rw[e]
   by_cases Z:0<l.getD q 0
   . obtain⟨i,hi,U⟩:=M.all q (by omega) Z;have:=E.set i hi
     rw[U]at this;simpa using this
   . have T:l.getD q 0=0:=by have:=(H.ok q (by omega)).1;omega
     have Y:codeT l q= []:=by unfold codeT;rw[T];rfl
     rcases E.or' q G with E|E
     . exact E
     . rw[Y];exact E
 . have I:xs[q]? =none:=by simp;rw[E.size];omega
   have O:((List.range F).map fun q=>Value.string (text (codeT l q)))[q]? =none:=WJ (by simp;omega);rw[I,O]
def Z33 (l:List Int)(d:Nat->Int×Int)(i:Nat)(cs:List Bool):Prop:=(i=0/\cs= [])\/ (0<i/\∃n q:Nat,d (i-1)=((n:Int),(q:Int))/\cs=hb (codeN l q) n/\n<=15)
theorem Z9 (a:Option Addr)(H ah:Nat)(l:List Int)(w:World)(bf:l.length=H)(cn:RowIn .i64 w a l)(bh:Good l):
 Calls Tryz.prog 125 #[.slice a H ah] w fun e w'=>∃g,e=.returned (.slice (some ⟨g,0,none⟩) H H)/\Below w.heap.size w w'/\w.heap.size<=g/\
  w'.ownsRow w.heap.size 9 1 (.slice (some ⟨g,0,none⟩) H H) H ((List.range H).map fun q=>.string (text (codeT l q))):=by
 obtain⟨dh,hi,eb,eu,dw⟩:=info_parts Z70;have fg:=bh.len;have bb:=Ab bh;have ep:=Ab cn;have e8:=Ab bf;clear cn bh;go_enter Tryz.func125,Tryz.ntmps125
 go_wp2;have em:w.heap.size+1<=(w.alloc (.cells #[.slice none 0 0] 228)).heap.size:=by simp
 have a7:=Ab (World.ownsRow_nil (w.alloc (.cells #[.slice none 0 0] 228)) (w.heap.size+1) 230 2);have a6:=Ab ((Below.refl w.heap.size w).alloc (VB _) (.cells #[.slice none 0 0] 228));go_loopw [13] (fun i wr=>∃(k:Nat) (v:Value),k<=H/\i=.int .i64 (k:Int)/\wr.cell? ⟨w.heap.size,0,none⟩=some v/\wr.frozen? ⟨w.heap.size,0,none⟩=false/\wr.ownsRow (w.heap.size+1) 230 2 v (Bu l k).length (Jn (Bu l k))/\Below w.heap.size w wr/\w.heap.size+1<=wr.heap.size) (fun i _=>H-(intOf i).toNat)
 case atStart=>exact⟨0,_,VH _,rfl,by simp,by simp,Aa a7,Aa a6,em⟩
 case round=>
  obtain⟨k,v,e4,rfl,hc,ai,F,I,df⟩:=hrel;have O:=Ab F;have ac:=Ab I;obtain⟨T,a1,rfl,ce⟩:=MU F
  by_cases al:k<H
  . have cp:k<l.length:=by omega
    obtain⟨b,o,rfl,hb,co⟩:∃b o,a=some ⟨b,o,none⟩/\b<w.heap.size/\Row .i64 w b o l:=by
     rcases Aa ep with rfl|h
     . simp at cp
     . exact h
    have c1:=(I.cell (p:=⟨b,o+k,none⟩) hb).trans (co k cp);have ay:Hid (Bu l (k+1)=Bu l k++(if 0<l.getD k 0 then [(l.getD k 0,(k:Int))]else [])):=rfl;have e1:=Q9 l k;clear F I co a7 a6;generalize l.getD k 0=x at*
    by_cases ck:0<x
    . rw[if_pos ck]at ay;generalize cj:(Bu l k).length=aj at*;have dp:=Ab cj;clear cj;go_wp2_with (at_builtin;refine wpList_append_own _ rfl _ _ 228 rfl (w.heap.size+1) 230 dh (.agg #[.int .i64 0,.int .i64 0]) 2 16 Tryz.underlying228 hi eb eu dw rfl (by decide) _ _ _ rfl ((Aa O).alloc _) ⟨wr.heap.size,0,none⟩ 1 1 [.int .i64 x,.int .i64 (k:Int)] rfl rfl (by intro j u G;match j,G with|0,G=>simp at G;subst G;simp[Addr.add]|1,G=>simp at G;subst G;simp[Addr.add]) (by intro u b0;simp at b0;rcases b0 with rfl|rfl<;>rfl) (by unfold maxLen;omega) (by omega) (by simp;omega) ?_)
      intro v' av ar aw _;have dj:=BW (Aa O) (b:=w.heap.size) (by omega);have M:w.heap.size<wr.heap.size:=by omega
      have a2:=aw.block w.heap.size (by simp;omega) (fun e=>dj e.symm)
      have cu:av.cell? ⟨w.heap.size,0,none⟩=some (.slice T aj a1):=by
       rw[World.cell?_of_block a2];exact Ku hc _
      have ee:av.frozen? ⟨w.heap.size,0,none⟩=false:=by
       rw[World.frozen?_of_block a2];exact Id ai M _
      obtain⟨bj,a3,rfl,_⟩:=MU ar;have en:=Ab (ar.kept (Ad av w.heap.size 0 (.slice bj (aj+1) a3)) (.inr (BW ar (by omega))));have eg:=Ab ((((Aa ac).alloc (by omega) (.cells #[.int .i64 x,.int .i64 (k:Int)] 230)).grown aw (by simp;omega) (fun j G=>by have:=((Aa O).lt j G).1;omega)).setCell (p:=⟨w.heap.size,0,none⟩) (VB _) (.slice bj (aj+1) a3))
      have dv:w.heap.size+1<=(av.setCell ⟨w.heap.size,0,none⟩ (.slice bj (aj+1) a3)).heap.size:=by
       have:=aw.size
       simp only[World.size_alloc]at this;simp;omega
      clear ar aw a2 O ac hc ai;go_wp2;go_roundw
      case rel=>
       refine⟨k+1,_,by omega,by go_num,World.cell?_setCell_same _ _ _ cu,by rw[World.frozen?_setCell];exact ee, ?_,Aa eg,dv⟩;rw[Aa ay,Ys,VE,Aa dp];exact Aa en
      case measure=>simp[intOf];omega
    . rw[if_neg ck,XA]at ay;go_wp2;go_roundw
      case rel=>exact⟨k+1,_,by omega,by go_num,hc,ai,by rw[Aa ay];exact Aa O,Aa ac,df⟩
      case measure=>simp[intOf];omega
  . obtain rfl:k=H:=by omega
    have ag:Bu l k=Bu l l.length:=by rw[bf]
    have dt:(Bu l k).length<=288:=by have:=Q9 l k;omega
    obtain⟨bp,a9,dm,cw,fi⟩:∃bp,((Bu l k).length=0\/T=some ⟨bp,0,none⟩)/\((Bu l k).length=0\/bp<wr.heap.size)/\w.heap.size≠bp/\w.heap.size+1<=bp:=by
     rcases ce with h|⟨g,dz,dr,di⟩
     . exact⟨w.heap.size+1,.inl h,.inl h,by omega,by omega⟩
     . exact⟨g,.inr dz,.inr di,by omega,dr⟩
    have c9:Hid (PS (Bu l k).length bp (dU l) wr):=by
     intro j G
     have dy:T=some ⟨bp,0,none⟩:=by
      rcases a9 with h|h
      . omega
      . exact h
     subst dy;obtain⟨db,d9⟩:=O1 (Bu l k) j G;have e:dU l j=(Bu l k).getD j (0,0):=by unfold dU;rw[ag]
     rw[e];exact⟨⟨(F.cellAt (j*2) (by omega)).trans db,F.frozenAt _⟩,⟨(F.cellAt (j*2+1) (by omega)).trans d9,F.frozenAt _⟩⟩
    have c5:Hid (RW (dU l) 0 (Bu l k).length):=by rw[ag];exact Z59 l
    have c7:Hid (∀d,Stab.Moved 0 (Bu l k).length (dU l) d->Stab.Srt Stab.lx d 0 (Bu l k).length->Sorted l (Bu l k).length d):=by
     rw[ag];exact fun d=>LR l (Aa bb) d
    have et:∀(cq:Fn) (first ah:Array Value) (w:World),(Instr.makeFunc cq first ah).run Tryz.prog w=.ok (.func cq first ah) w:=fun _ _ _ _=>rfl
    clear F I a7 a6 ag ce;generalize (Bu l k).length=N at*;generalize Bu l k=U at*;go_wp2_with fail
    refine(Qp N bp w.heap.size a1 T (dU l) wr dt a9 dm (by omega) cw hc (Aa c9) (Aa c5)).mono ?_;rintro e bd ⟨rfl,d,b8,bv,b4,g2⟩;have au:=Ab (Aa c7 d bv b4);have cd:=Ab b8;have c2:=g2.cell hc (by simpa using cw);have ci:=Ab ((Aa ac).grown g2 (by omega) (fun j h=>by cases h;omega));have fm:=g2.size;clear b8 bv b4 g2 hc ai c9 c5 c7 O ac et;obtain⟨c8,cy,b5,y1,y2⟩:=info_parts Z4y;go_wp2_with (at_make;refine wpList_make_full _ rfl _ _ 43 rfl w.heap.size 9 c8 (.string ByteArray.empty) 1 Tryz.underlying43 cy b5 y1 _ _ _ _ k rfl rfl rfl rfl (by rw[y2];omega) (by unfold maxLen;omega) (by omega) ?_)
    intro w3 az Y
    have e0:(madeCells #[Value.string ByteArray.empty] k).toList=List.replicate k (.string (text [])):=by
     rw[toList_madeCells_one];rfl
    rw[e0]at az;have d8:=Ab az;have d5:=(az.lt _ rfl).2;have ei:=Ab (Hq (Aa ci) Y (by omega))
    have eo:Hid (PS N bp d w3):=by
     by_cases ej:N=0
     . subst ej;intro j G;omega
     . exact(Aa cd).kept Y (by omega)
    have cu:=Y.cell c2 (by simp);have e5:N=0\/bp<bd.heap.size:=by omega
    have e6:=Y.size;have fp:w.heap.size+1<=bd.heap.size:=by omega
    have dn:Hid (OutTo l (fun i=>(d i).2.toNat) k 0 (List.replicate k (.string (text [])))):=⟨by simp,fun i h=>by omega,fun q b3=>.inr (by simp[b3])⟩
    clear az Y e0 cd ci c2 cy b5 y1 y2 c8;generalize bd.heap.size=g at*;go_wp2;go_loopw [7,36] (fun a1 a5 af=>∃(i:Nat) (cs:List Bool) (xs:List Value),i<=N/\a5=.int .i64 (i:Int)/\a1=.string (text cs)/\Z33 l d i cs/\af.ownsRow w.heap.size 9 1 (.slice (some ⟨g,0,none⟩) k k) k xs/\OutTo l (fun i=>(d i).2.toNat) k i xs/\PS N bp d af/\Below w.heap.size w af/\g<af.heap.size) (fun _ a5 _=>N-(intOf a5).toNat)
    case atStart=>exact⟨0,[],_,VH _,rfl,rfl,.inl ⟨rfl,rfl⟩,Aa d8,Aa dn,Aa eo,Aa ei,d5⟩
    case round=>
     obtain⟨i,cs,xs,e7,rfl,rfl,ba,F,M,aa,I,cg⟩:=hrel;have ap:=Ab F;have d6:=Ab M;have cm:=Ab aa;have bg:=Ab I;have bo:=Ab ba
     by_cases al:i<N
     . obtain⟨n,q,a8,b3,d7,fu,da,_⟩:=(Aa au).at' i al;have c1:=(aa i al).1.1;have c2:=(aa i al).2.1;rw[a8]at c1 c2;simp only at c1 c2
       have ax:=Ab a8;obtain⟨y,bq⟩:∃y,xs[q]? =some y:=⟨xs[q]'(by rw[F.1];omega),by simp⟩
       have fq:(q:Int)<(k:Int):=by omega
       have cz:=(F.cellAt q (by omega)).trans bq;have c6:=F.frozenAt q;clear F M aa I ba a8 bq;have Z:Hid (∀bi:World,bi.ownsRow w.heap.size 9 1 (.slice (some ⟨g,0,none⟩) k k) k xs->(bi.setCell ⟨g,q,none⟩ (.string (text (codeT l q)))).ownsRow w.heap.size 9 1 (.slice (some ⟨g,0,none⟩) k k) k (xs.set q (.string (text (codeT l q))))):=fun bi h=>(h.stored q _).1
       have ao:Hid (OutTo l (fun i=>(d i).2.toNat) k (i+1) (xs.set q (.string (text (codeT l q))))):=Z0h (Aa d6) (by rw[Aa ax];simp) (by omega);have bw:Hid (Z33 l d (i+1) (hb (codeN l q) n)):=.inr ⟨by omega,n,q,Aa ax,rfl,da⟩;have b7:Hid (codeT l q=hb (codeN l q) n):=by unfold Hid codeT;rw[d7];simp
       have bu:bp≠g:=by omega
       obtain rfl:T=some ⟨bp,0,none⟩:=by
        rcases a9 with h|h
        . omega
        . exact h
       by_cases a4:i=0
       . have ak:cs= []:=by
          rcases Aa bo with ⟨_,h⟩|⟨h,_⟩
          . exact h
          . omega
         subst ak;have fh:¬(0:Int)<(i:Int):=by omega
         have e2:codeN l q=0:=(Aa au).first (by omega) (by rw[<-a4];exact Aa ax);have e3:hb (codeN l q) n=List.replicate n false:=by rw[e2,OW]
         have dq:=Ab e3;have ts:(text []).size=0:=rfl;have bc:=Ct (List.replicate n false);rw[XD]at bc;clear e2 e3 a4;have e9:text []++text (List.replicate n false)=text (hb (codeN l q) n):=by rw[Ot,List.nil_append,Aa dq]
         go_wp2_with fail
         refine(T6 n da _).mono ?_;rintro e cv ⟨rfl,rfl⟩;rw[Aa b7]at Z ao;have ct:=Ab (Aa Z wr (Aa ap));have ds:=Ku cz (.cells #[.int .i64 (n:Int),.int .i64 (q:Int)] 230);have dd:=Id c6 cg (.cells #[.int .i64 (n:Int),.int .i64 (q:Int)] 230);go_wp2;go_roundw
         case rel=>exact⟨i+1,hb (codeN l q) n,_,by omega,by go_num,rfl,Aa bw,(Aa ct).alloc _,Aa ao,((Aa cm).other bu _).alloc (by simp;omega) _,((Aa bg).setCell (p:=⟨g,q,none⟩) (by simp;omega) _).alloc (by simp;omega) _,by simp;omega⟩
         case measure=>simp[intOf];omega
       . obtain⟨n0,ae,bn,ak,ew⟩:∃n0 ae:Nat,d (i-1)=((n0:Int),(ae:Int))/\cs=hb (codeN l ae) n0/\n0<=15:=by
          rcases Aa bo with ⟨h,_⟩|⟨_,h⟩
          . omega
          . exact h
         have fw:(0:Int)<(i:Int):=by omega
         obtain⟨m1,m2,bm⟩:=(Aa au).next (Aa bb) (i:=i-1) (by omega) bn (by rw[show i-1+1=i by omega];exact Aa ax);obtain⟨E,t,b1,b2⟩:=Z2v n0 (codeN l ae) m2
         have dx:E.length+1+t=n0:=by
          have:=congrArg List.length b1
          rw[Bd]at this;simp at this;omega
         have b9:hb (codeN l q) n=(E++true::List.replicate t false)++List.replicate (n-n0) false:=by
          have bz:=Z2u (codeN l ae+1) n0 (n-n0);rw[show n0+(n-n0)=n by omega,<-bm,b2]at bz;exact bz
         rw[b1]at ak;subst ak;have de:=Ab b9
         have eh:Hid (((text (E++false::List.replicate t true)).extract 0 E.length++⟨#[49]⟩)++text (List.replicate t false)=text (E++true::List.replicate t false)):=by
          rw[TQ,show (⟨#[49]⟩:ByteArray)=text [true] from rfl,Ot,Ot,VS];exact rfl
         have fo:text (E++true::List.replicate t false)++text (List.replicate (n-n0) false)=text (hb (codeN l q) n):=by rw[Ot,Aa de]
         have ey:=Ct (E++false::List.replicate t true);rw[show (E++false::List.replicate t true).length=n0 by simp;omega]at ey;have ed:=Ct (E++true::List.replicate t false);rw[show (E++true::List.replicate t false).length=n0 by simp;omega]at ed;have bc:=Ct (List.replicate t false);rw[XD]at bc;have dl:=Ct (List.replicate (n-n0) false);rw[XD]at dl;have dc:=Ab (fun w=>Z17 E t w (by omega));have fj:(E.length:Int)<=(n0:Int):=by omega
         have fk:(n0:Int)-(E.length:Int)-1=(t:Int):=by omega
         have fe:(n:Int)-(n0:Int)=((n-n0:Nat):Int):=by omega
         have ek:t<=15:=by omega
         clear a4 bn ew m1 m2 bm b1 b2 b9 dx;generalize E.length=la at*;generalize bk:text (E++false::List.replicate t true)=ff at*;have ft:=Ab bk;clear bk;go_wp2_with fail
         refine(Aa dc _).mono ?_;rintro e cv ⟨rfl,rfl⟩;go_wp2;go_quiet ((go_at_call 165;refine Calls.quiet_of_same (T6 t ek _)))
         rw[Aa eh];go_wp2_with fail
         refine(T6 (n-n0) (by omega) _).mono ?_;rintro e cv ⟨rfl,rfl⟩;rw[Aa b7]at Z ao;have ct:=Ab (Aa Z wr (Aa ap));have ds:=Ku cz (.cells #[.int .i64 (n:Int),.int .i64 (q:Int)] 230);have dd:=Id c6 cg (.cells #[.int .i64 (n:Int),.int .i64 (q:Int)] 230);go_wp2;go_roundw
         case rel=>exact⟨i+1,hb (codeN l q) n,_,by omega,by go_num,rfl,Aa bw,Aa Z ((wr.alloc _).drewN nq) ((Aa ap).alloc _),Aa ao,PS.other (a:=⟨g,q,none⟩) (PS.drewN ((Aa cm).alloc (by omega) _) nq) bu _,Below.setCell (p:=⟨g,q,none⟩) (Ae ((Aa bg).alloc (by omega) _) nq) (by simp;omega) _,by simp;omega⟩
         case measure=>simp[intOf];omega
     . obtain rfl:i=N:=by omega
       have du:Hid (xs=(List.range k).map fun q=>.string (text (codeT l q))):=Z47 (Aa bb) bf M (Aa au);clear F M aa I ba;go_wp2;go_ret;exact⟨g,rfl,Aa bg,by omega,by rw[<-Aa du];exact Aa ap⟩
end Go.Proofs.YtleocpdblhbimaaGreatDoor
