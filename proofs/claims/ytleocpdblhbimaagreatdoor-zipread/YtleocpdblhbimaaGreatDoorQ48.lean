import Derived.Test.YtleocpdblhbimaaGreatDoorQ47
import Derived.Test.YtleocpdblhbimaaGreatDoorQ43
set_option linter.unusedSimpArgs false
set_option maxHeartbeats 2000000
namespace Go.Proofs.YtleocpdblhbimaaGreatDoor
open Go.RowKit Go.Lib
set_option linter.unusedVariables false
set_option maxRecDepth 100000
theorem Rr (F E:Value)(I:F.oneCell'=true)(M:E.oneCell'=true)(n:Nat)(H:n<=1)(w:World):
 Calls Tryz.prog 225 #[.agg #[F,E],.int .i64 0,.int .i64 n] w fun e w'=>e=.returned (.tuple #[])/\w.grownBy w' none:=by
 go_enter Tryz.func225,Tryz.ntmps225
 go_wp2;go_loop [6] (fun G=>G=.int .i64 1) (fun _=>0)
 case atStart=>exact rfl
 case round=>
  obtain rfl:=hrel;have h:¬(1:Int)<(n:Int):=by omega
  go_wp2;go_end0
  exact⟨rfl,Bt (Bp _ _) _⟩
theorem A9 (U F:Fn)(Z lb M H:Array Value)(n:Nat)(G:n<=1)(w:World):
 Calls Tryz.prog 197 #[.agg #[.func U Z lb,.func F M H],.int .i64 n] w fun e w'=>e=.returned (.tuple #[])/\w.grownBy w' none:=by
 go_enter Tryz.func197,Tryz.ntmps197
 go_wp2;go_loop [5,6] (fun T Y=>T=.int .i64 0/\Y=.int .i64 20) (fun _ _=>0)
 case atStart=>exact⟨rfl,rfl⟩
 case round=>
  obtain⟨rfl,rfl⟩:=hrel;have h:¬(20:Int)<=(n:Int):=by omega
  have aa:¬(20:Int)<(n:Int):=by omega
  go_wp2_with fail
  refine(Rr _ _ rfl rfl n G _).mono ?_;rintro e ab ⟨rfl,E⟩;have I:=Ab (Bf (Bt (Bp w none) _) E);clear E;go_wp2;go_loop [4,5,6,7] (fun O _ _ _=>O=.int .i64 20) (fun _ _ _ _=>0)
  case atStart=>exact rfl
  case round=>
   obtain rfl:=hrel;go_wp2;go_end0
   exact⟨rfl,Aa I⟩
theorem swk (n:Nat)(E:TypeInfo)(I:E.hasPointers=false)(H:E.bytes=16):swapperK n E 25=if n=0 then 1 else if n=1 then 2 else 9:=by
 unfold swapperK;rw[I,H]
 by_cases F:n=0
 . simp[F]
 . by_cases G:n=1
   . simp[G]
   . simp[F,G]
def DY (N bp:Nat)(d:Nat->Int×Int)(w w':World):Prop:=∃d',PS N bp d' w'/\Stab.Moved 0 N d d'/\Stab.Srt Stab.lx d' 0 N/\w.grownBy w' (some bp)
theorem Qp (N F I H:Nat)(p:Option Addr)(d:Nat->Int×Int)(w:World)(ag:N<=288)(ah:N=0\/p=some ⟨F,0,none⟩)(as:N=0\/F<w.heap.size)(an:I<w.heap.size)(ai:I≠F)
 (ak:w.cell? ⟨I,0,none⟩=some (.slice p N H)) (aa:PS N F d w) (ao:RW d 0 N):
 Calls Tryz.prog 162 #[.iface 228 (.slice p N H),LF I] w fun e w'=>e=.returned (.tuple #[])/\DY N F d w w':=by
 obtain⟨M,U,Z⟩:=XF.1 Z72;have ap:M.hasPointers=false:=congrArg Prod.fst Z;have af:M.bytes=16:=congrArg Prod.snd Z;have G:=swk N M ap af;have E:w.grownBy (stW Tryz.prog.globals.size p N H w) none:=Bt (Bt (Bp w none) _) _
 by_cases ac:N<=1
 . have small:∀f B,Calls Tryz.prog 197 #[.agg #[LF I,.func (.func f) #[] B],.int .i64 N] (stW Tryz.prog.globals.size p N H w) fun e w'=>e=.returned (.tuple #[])/\DY N F d w w':=fun f B=>by
    refine(A9 _ _ _ _ _ _ N ac _).mono ?_;rintro e w' ⟨rfl,ae⟩;have O:=Bf E ae;refine⟨rfl,d, ?_,Stab.Moved.refl _ _ _,fun i j au ar aq=>by omega,⟨O.os,O.tape,O.output,O.size,fun i hi _=>O.block i hi (by simp)⟩⟩
    by_cases T:N=0
    . subst T;intro k G;omega
    . exact aa.kept O (by omega)
   by_cases T:N=0
   . rw[if_pos T]at G;exact Gv _ rfl M U p N H 216 (by rw[G];kernel_rfl) _ rfl _ _ _ w _ (Ab (small _ _))
   . rw[if_neg T,if_pos (by omega)]at G;exact Gv _ rfl M U p N H 217 (by rw[G];kernel_rfl) _ rfl _ _ _ w _ (Ab (small _ _))
 . rw[if_neg (by omega),if_neg (by omega)]at G
   obtain rfl:p=some ⟨F,0,none⟩:=by
    rcases ah with h|h
    . omega
    . exact h
   have Y:F<w.heap.size:=by omega
   refine Gv _ rfl M U (some ⟨F,0,none⟩) N H 224 (by rw[G];kernel_rfl) _ rfl _ _ _ w _ (Ab ?_);rw[G];refine(EY (typeHandle Tryz.prog 230) (Ab rfl) N F I H d _ ag (VG Y E.size) (VG an E.size) ai (E.cell ak (by simp)) (aa.kept E Y) ao).mono ?_;rintro e w' ⟨rfl,d',am,aj,ab,al⟩;exact⟨rfl,d',am,aj,ab,Bf ⟨E.os,E.tape,E.output,E.size,fun i hi _=>E.block i hi (by simp)⟩ al⟩
theorem Z17 (a:List Bool)(t:Nat)(w:World)(ac:a.length+1+t<=16):
 Calls Tryz.prog 164 #[.string (text (a++false::List.replicate t true)),.int .u8 48] w fun e w'=>e=.returned (.int .i64 (a.length:Int))/\w'=w:=by
 have I:(a++false::List.replicate t true).length=a.length+1+t:=by simp;omega
 have U:=Ct (a++false::List.replicate t true);rw[I]at U;have T:=Ab (LC (a++false::List.replicate t true));have ab:=Ab I
 have M:Hid (∀j,a.length<j->(H:j<(a++false::List.replicate t true).length)->(a++false::List.replicate t true)[j]=true):=fun j ag H=>by
  rw[List.getElem_append_right (by omega)];obtain⟨m,hm⟩:∃m,j-a.length=m+1:=⟨j-a.length-1,by omega⟩
  simp[hm]
 have Z:Hid ((H:a.length<(a++false::List.replicate t true).length)->(a++false::List.replicate t true)[a.length]=false):=fun H=>by
  rw[List.getElem_append_right (by omega)];simp
 generalize a++false::List.replicate t true=l at*
 have O:Hid (∀w,Calls Tryz.prog 199 #[.string (text l),.int .u8 48] w fun e w'=>e=.returned (.int .i64 (a.length:Int))/\w'=w):=by
  intro w;go_enter Tryz.func199,Tryz.ntmps199
  go_wp2;go_loop [5] (fun F=>∃j:Nat,a.length<=j/\j<a.length+1+t/\F=.int .i64 (j:Int)) (fun F=>(RowKit.intOf F).toNat)
  case atStart=>exact⟨a.length+t,by omega,by omega,by go_num⟩
  case round=>
   obtain⟨j,af,ae,rfl⟩:=hrel;have G:j<l.length:=by omega
   have aa:j<(text l).size:=by omega
   have E:=Aa T j G aa
   by_cases Y:a.length<j
   . rw[Aa M j Y G]at E;have hb:((((text l)[j]'hjs).toNat:Int)==48)=false:=by rw[E];rfl
     clear E;go_wp2;go_round
     case rel=>exact⟨j-1,by omega,by omega,by go_num⟩
     case measure=>simp[RowKit.intOf];omega
   . obtain rfl:j=a.length:=by omega
     rw[Aa Z G]at E;have hb:((((text l)[a.length]'hjs).toNat:Int)==48)=true:=by rw[E];rfl
     clear E;go_wp2;go_ret;exact⟨rfl,rfl⟩
 go_enter Tryz.func164,Tryz.ntmps164
 go_wp2_with fail
 refine(Aa O _).mono ?_;rintro e w' ⟨rfl,rfl⟩;go_wp2;go_ret;exact⟨rfl,rfl⟩
end Go.Proofs.YtleocpdblhbimaaGreatDoor
namespace Go.Proofs.YtleocpdblhbimaaGreatDoor
open Go.RowKit
set_option linter.unusedVariables false
set_option maxRecDepth 100000
theorem Wo (l:List Int):∀k x,x∈Bu l k->∃q:Nat,q<k/\0<l.getD q 0/\x=(l.getD q 0,(q:Int))
 |0,x,h=>by simp[Bu]at h
 |k+1,x,h=>by
  rw[Bu,WP]at h
  rcases h with h|h
  . obtain⟨q,G,F,E⟩:=Wo l k x h;exact⟨q,by omega,F,E⟩
  . by_cases e:0<l.getD k 0
    . rw[if_pos e]at h;exact⟨k,by omega,e,by simpa using h⟩
    . rw[if_neg e]at h;simp at h
theorem AZ (l:List Int):∀k (q:Nat),q<k->0<l.getD q 0->(l.getD q 0,(q:Int))∈Bu l k
 |0,q,h,_=>by omega
 |k+1,q,h,h2=>by
  rw[Bu,WP]
  by_cases e:q=k
  . subst e;right;rw[if_pos h2];simp
  . left;exact AZ l k q (by omega) h2
theorem Zj (l:List Int):∀k,(Bu l k).Pairwise (fun x y=>x.2<y.2)
 |0=>List.Pairwise.nil
 |k+1=>by
  rw[Bu,List.pairwise_append];refine⟨Zj l k, ?_, ?_⟩
  . split<;>simp
  . intro x F y E;obtain⟨q,H,_,G⟩:=Wo l k x F
    split at E
    . simp at E
      rw[G,E];simp only
      omega
    . simp at E
theorem Q9 (l:List Int):∀k,(Bu l k).length<=k
 |0=>by simp[Bu]
 |k+1=>by
  have:=Q9 l k
  rw[Bu,VE]
  split<;>simp<;>omega
def dU (l:List Int):Nat->Int×Int:=fun k=>(Bu l l.length).getD k (0,0)
theorem Z59 (l:List Int):RW (dU l) 0 (Bu l l.length).length:=by
 intro i j _ F E;have h:=YE.1 (Zj l l.length) i j (by omega) E F;unfold dU;have G:(Bu l l.length).getD i (0,0)=(Bu l l.length)[i]:=by simp[List.getD,show i<(Bu l l.length).length by omega]
 have e2:(Bu l l.length).getD j (0,0)=(Bu l l.length)[j]:=by simp[List.getD,E]
 rw[G,e2];exact h
theorem Z77 (l:List Int):Stab.seg (dU l) 0 (Bu l l.length).length=Bu l l.length:=by
 apply XK
 . simp[Stab.seg]
 . intro i F E;simp[Stab.seg,dU,List.getD,E]
structure Sorted (l:List Int)(N:Nat)(d:Nat->Int×Int):Prop where
 at':∀i,i<N->∃n q:Nat,d i=((n:Int),(q:Int))/\q<l.length/\l.getD q 0=(n:Int)/\0<n/\n<=15/\vsum d i=codeN l q*2^(15-n)
 srt:Stab.Srt Stab.lx d 0 N
 all:∀q:Nat,q<l.length->0<l.getD q 0->∃i,i<N/\d i=(l.getD q 0,(q:Int))
theorem LR (l:List Int)(F:Good l)(d:Nat->Int×Int)(O:Stab.Moved 0 (Bu l l.length).length (dU l) d)(M:Stab.Srt Stab.lx d 0 (Bu l l.length).length):Sorted l (Bu l l.length).length d:=by
 have G:(Stab.seg d 0 (Bu l l.length).length).Perm (Bu l l.length):=by
  have:=O.perm
  rw[Z77]at this
  first|exact this|exact this.symm
 refine⟨fun i hi=> ?_,M,fun q U T=> ?_⟩
 . have Y:d i∈Stab.seg d 0 (Bu l l.length).length:=Stab.mem_seg.2 ⟨i,VH _,hi,rfl⟩;obtain⟨q,E,Z,H⟩:=Wo l _ _ (G.mem_iff.1 Y);obtain⟨n,hn⟩:=WF (F.ok q E).1;have aa:=(F.ok q E).2;have I:=AF d _ M hi;rw[RC _ G,H,hn,RD l F E hn (by omega)]at I;exact⟨n,q,by rw[H,hn],E,hn,by omega,by omega,I.symm⟩
 . have:=G.mem_iff.2 (AZ l _ q U T)
   obtain⟨i,_,hi,h⟩:=Stab.mem_seg.1 this;exact⟨i,hi,h⟩
theorem Sorted.first {l:List Int}{N:Nat}{d:Nat->Int×Int}(E:Sorted l N d){n q:Nat}(H:0<N)(I:d 0=((n:Int),(q:Int))):codeN l q=0:=by
 obtain⟨F,q',e,_,_,_,_,G⟩:=E.at' 0 H;rw[I]at e;have e2:q=q':=by have:=congrArg Prod.snd e;simp at this;omega
 subst e2;have:codeN l q*2^(15-F)=0:=G.symm
 rcases Nat.mul_eq_zero.1 this with E|E
 . exact E
 . have:=Nat.pow_pos (n:=15-F) (show 0<2 by decide);omega
theorem Sorted.next {l:List Int}(al:Good l){N:Nat}{d:Nat->Int×Int}(F:Sorted l N d){i n q E q':Nat}(Y:i+1<N)(H:d i=((n:Int),(q:Int)))(U:d (i+1)=((E:Int),(q':Int))):n<=E/\codeN l q+1<2^n/\codeN l q'=(codeN l q+1)*2^(E-n):=by
 obtain⟨a,b,e,_,_,_,ap,an⟩:=F.at' i (by omega);obtain⟨Z,ak,I,ah,ae,ag,ao,O⟩:=F.at' (i+1) Y;rw[H]at e;rw[U]at I;have ab:n=a:=by have:=congrArg Prod.fst e;simp at this;omega
 have e2:q=b:=by have:=congrArg Prod.snd e;simp at this;omega
 have e3:E=Z:=by have:=congrArg Prod.fst I;simp at this;omega
 have af:q'=ak:=by have:=congrArg Prod.snd I;simp at this;omega
 subst ab e2 e3 af;have M:=F.srt i (i+1) (VH _) (by omega) Y;rw[H,U]at M;have aj:n<=E:=by unfold Stab.lx at M;simp only at M;omega
 have aa:wt (d i)=2^(15-n):=by rw[H];simp[wt]
 rw[vsum,an,aa]at O;have ai:2^(15-n)=2^(E-n)*2^(15-E):=by rw[<-Nat.pow_add];congr 1;omega
 have ac:((codeN l q+1)*2^(E-n))*2^(15-E)=codeN l q'*2^(15-E):=by
  rw[<-O,XY,<-ai,ZW,Nat.one_mul]
 have T:=Nat.eq_of_mul_eq_mul_right (Nat.pow_pos (n:=15-E) (show 0<2 by decide)) ac;have G:=(Ig l al ah ae ag).2.2;rw[<-T]at G;have am:2^E=2^n*2^(E-n):=by rw[<-Nat.pow_add];congr 1;omega
 rw[am]at G;exact⟨aj,Nat.lt_of_mul_lt_mul_right G,T.symm⟩
def Jn (xs:List (Int×Int)):List Value:=xs.flatMap fun p=> [.int .i64 p.1,.int .i64 p.2]
theorem Ys (xs ys:List (Int×Int)):Jn (xs++ys)=Jn xs++Jn ys:=by simp[Jn]
theorem O1:∀(xs:List (Int×Int)) (k:Nat),k<xs.length->(Jn xs)[k*2]? =some (.int .i64 (xs.getD k (0,0)).1)/\(Jn xs)[k*2+1]? =some (.int .i64 (xs.getD k (0,0)).2)
 | [],k,h=>by simp at h
 |x::r,0,_=>by simp[Jn]
 |x::r,k+1,h=>by
  have ih:=O1 r k (by simpa using h);have e:Jn (x::r)=.int .i64 x.1::.int .i64 x.2::Jn r:=by simp[Jn]
  rw[e,show (k+1)*2=k*2+1+1 by omega];simpa using ih
theorem Z4y:(Tryz.prog.info? 9).map (fun i=>(i.zero,i.size,i.bytes))=some (some (.string ByteArray.empty),1,16):=by kernel_rfl
theorem Z70:(Tryz.prog.info? 230).map (fun i=>(i.zero,i.size,i.bytes))=some (some (.agg #[.int .i64 0,.int .i64 0]),2,16):=by kernel_rfl
theorem BW {w:World}{B e E n:Nat}{v:Value}{xs:List Value}(F:w.ownsRow B e E v n xs){b:Nat}(G:b<B):v.ownBlock≠some b:=by
 intro e;have:=(F.lt b e).1
 omega
theorem MU {w:World}{B e H n:Nat}{v:Value}{xs:List Value}(G:w.ownsRow B e H v n xs):∃a c,v=.slice a n c/\(n=0\/∃g,a=some ⟨g,0,none⟩/\B<=g/\g<w.heap.size):=by
 rcases G.2 with ⟨E,F⟩|⟨g,cap,cur,E,F,I⟩
 . subst F;exact⟨none,0,E,.inl rfl⟩
 . exact⟨_,_,E,.inr ⟨g,rfl,F,(G.lt g (by rw[E];rfl)).2⟩⟩
theorem Ku {w:World}{b o:Nat}{v:Value}(E:w.cell? ⟨b,o,none⟩=some v)(x:Obj):(w.alloc x).cell? ⟨b,o,none⟩=some v:=by
 rw[World.cell?_alloc_past _ _ _ (block_lt_of_cell E)];exact E
theorem Id {w:World}{b o:Nat}(F:w.frozen? ⟨b,o,none⟩=false)(E:b<w.heap.size)(x:Obj):(w.alloc x).frozen? ⟨b,o,none⟩=false:=by
 have:=((Below.refl w.heap.size w).alloc (VB _) x).frozen (p:=⟨b,o,none⟩) E
 rw[this];exact F
theorem Ot (a b:List Bool):text a++text b=text (a++b):=by
 apply ByteArray.ext
 simp[text]
theorem TQ (a b:List Bool):(text (a++b)).extract 0 a.length=text a:=by
 apply ByteArray.ext
 simp[text]
theorem PS.other {N E:Nat}{d:Nat->Int×Int}{W:World}(I:PS N E d W){a:Addr}(G:E≠a.block)(v:Value):PS N E d (W.setCell a v):=by
 intro k H;have F:=Below.heap_setCell W a v E G;rw[World.cell?_of_block (a:=⟨E,k*2,none⟩) F,World.frozen?_of_block (a:=⟨E,k*2,none⟩) F,World.cell?_of_block (a:=⟨E,k*2+1,none⟩) F,World.frozen?_of_block (a:=⟨E,k*2+1,none⟩) F];exact I k H
structure OutTo (l:List Int)(at':Nat->Nat)(len i:Nat)(xs:List Value):Prop where
 size:xs.length=len
 set:∀j,j<i->xs[at' j]? =some (.string (text (codeT l (at' j))))
 or':∀q,q<len->xs[q]? =some (.string (text (codeT l q)))\/xs[q]? =some (.string (text []))
theorem Z0h {l:List Int}{F:Nat->Nat}{G i q:Nat}{xs:List Value}(E:OutTo l F G i xs)(H:F i=q)(M:q<G):OutTo l F G (i+1) (xs.set q (.string (text (codeT l q)))):=by
 refine⟨by rw[XS];exact E.size,fun j O=> ?_,fun r hr=> ?_⟩
 . rw[YM]
   by_cases e:q=F j
   . rw[if_pos e,if_pos (by rw[E.size];omega),<-e]
   . rw[if_neg e]
     by_cases I:j=i
     . subst I;exact absurd H.symm e
     . exact E.set j (by omega)
 . rw[YM]
   by_cases e:q=r
   . subst e;rw[if_pos rfl,if_pos (by rw[E.size];omega)];exact .inl rfl
   . rw[if_neg e];exact E.or' r hr
theorem Z47 {l:List Int}{d:Nat->Int×Int}{F N:Nat}{xs:List Value}(M:Good l)(aa:l.length=F)(E:OutTo l (fun i=>(d i).2.toNat) F N xs)(Z:Sorted l N d):xs=(List.range F).map fun q=>.string (text (codeT l q)):=by
 apply List.ext_getElem?
 intro q
 by_cases G:q<F
 . have e:((List.range F).map fun q=>Value.string (text (codeT l q)))[q]? =some (.string (text (codeT l q))):=by simp[G]
   rw[e]
   by_cases I:0<l.getD q 0
   . obtain⟨i,hi,Y⟩:=Z.all q (by omega) I;have:=E.set i hi
     rw[Y]at this;simpa using this
   . have U:l.getD q 0=0:=by have:=(M.ok q (by omega)).1;omega
     have T:codeT l q= []:=by unfold codeT;rw[U];rfl
     rcases E.or' q G with E|E
     . exact E
     . rw[T];exact E
 . have H:xs[q]? =none:=by simp;rw[E.size];omega
   have O:((List.range F).map fun q=>Value.string (text (codeT l q)))[q]? =none:=WJ (by simp;omega);rw[H,O]
def Z33 (l:List Int)(d:Nat->Int×Int)(i:Nat)(cs:List Bool):Prop:=(i=0/\cs= [])\/ (0<i/\∃n q:Nat,d (i-1)=((n:Int),(q:Int))/\cs=hb (codeN l q) n/\n<=15)
theorem Z9 (a:Option Addr)(G af:Nat)(l:List Int)(w:World)(a3:l.length=G)(ce:RowIn .i64 w a l)(ay:Good l):
 Calls Tryz.prog 125 #[.slice a G af] w fun e w'=>∃g,e=.returned (.slice (some ⟨g,0,none⟩) G G)/\Below w.heap.size w w'/\w.heap.size<=g/\
  w'.ownsRow w.heap.size 9 1 (.slice (some ⟨g,0,none⟩) G G) G ((List.range G).map fun q=>.string (text (codeT l q))):=by
 obtain⟨du,hi,d1,dv,dh⟩:=info_parts Z70;have ej:=ay.len;have a7:=Ab ay;have d4:=Ab ce;have e1:=Ab a3;clear ce ay;go_enter Tryz.func125,Tryz.ntmps125
 go_wp2;have c8:w.heap.size+1<=(w.alloc (.cells #[.slice none 0 0] 228)).heap.size:=by simp
 have a0:=Ab (World.ownsRow_nil (w.alloc (.cells #[.slice none 0 0] 228)) (w.heap.size+1) 230 2);have bc:=Ab ((Below.refl w.heap.size w).alloc (VB _) (.cells #[.slice none 0 0] 228));go_loopw [13] (fun i wr=>∃(k:Nat) (v:Value),k<=G/\i=.int .i64 (k:Int)/\wr.cell? ⟨w.heap.size,0,none⟩=some v/\wr.frozen? ⟨w.heap.size,0,none⟩=false/\wr.ownsRow (w.heap.size+1) 230 2 v (Bu l k).length (Jn (Bu l k))/\Below w.heap.size w wr/\w.heap.size+1<=wr.heap.size) (fun i _=>G-(intOf i).toNat)
 case atStart=>exact⟨0,_,VH _,rfl,by simp,by simp,Aa a0,Aa bc,c8⟩
 case round=>
  obtain⟨k,v,eo,rfl,hc,ao,E,I,c3⟩:=hrel;have M:=Ab E;have T:=Ab I;obtain⟨ab,aj,rfl,bh⟩:=MU E
  by_cases ak:k<G
  . have b5:k<l.length:=by omega
    obtain⟨b,o,rfl,hb,co⟩:∃b o,a=some ⟨b,o,none⟩/\b<w.heap.size/\Row .i64 w b o l:=by
     rcases Aa d4 with rfl|h
     . simp at b5
     . exact h
    have c1:=(I.cell (p:=⟨b,o+k,none⟩) hb).trans (co k b5);have ai:Hid (Bu l (k+1)=Bu l k++(if 0<l.getD k 0 then [(l.getD k 0,(k:Int))]else [])):=rfl;have eh:=Q9 l k;clear E I co a0 bc;generalize l.getD k 0=x at*
    by_cases b8:0<x
    . rw[if_pos b8]at ai;generalize cn:(Bu l k).length=aq at*;have di:=Ab cn;clear cn;go_wp2_with (at_builtin;refine wpList_append_own _ rfl _ _ 228 rfl (w.heap.size+1) 230 du (.agg #[.int .i64 0,.int .i64 0]) 2 16 Tryz.underlying228 hi d1 dv dh rfl (by decide) _ _ _ rfl ((Aa M).alloc _) ⟨wr.heap.size,0,none⟩ 1 1 [.int .i64 x,.int .i64 (k:Int)] rfl rfl (by intro j u H;match j,H with|0,H=>simp at H;subst H;simp[Addr.add]|1,H=>simp at H;subst H;simp[Addr.add]) (by intro u cl;simp at cl;rcases cl with rfl|rfl<;>rfl) (by unfold maxLen;omega) (by omega) (by simp;omega) ?_)
      intro v' am as ar _;have d6:=BW (Aa M) (b:=w.heap.size) (by omega);have O:w.heap.size<wr.heap.size:=by omega
      have a4:=ar.block w.heap.size (by simp;omega) (fun e=>d6 e.symm)
      have cd:am.cell? ⟨w.heap.size,0,none⟩=some (.slice ab aq aj):=by
       rw[World.cell?_of_block a4];exact Ku hc _
      have cz:am.frozen? ⟨w.heap.size,0,none⟩=false:=by
       rw[World.frozen?_of_block a4];exact Id ao O _
      obtain⟨a2,bb,rfl,_⟩:=MU as;have cv:=Ab (as.kept (Ad am w.heap.size 0 (.slice a2 (aq+1) bb)) (.inr (BW as (by omega))));have c9:=Ab ((((Aa T).alloc (by omega) (.cells #[.int .i64 x,.int .i64 (k:Int)] 230)).grown ar (by simp;omega) (fun j H=>by have:=((Aa M).lt j H).1;omega)).setCell (p:=⟨w.heap.size,0,none⟩) (VB _) (.slice a2 (aq+1) bb))
      have de:w.heap.size+1<=(am.setCell ⟨w.heap.size,0,none⟩ (.slice a2 (aq+1) bb)).heap.size:=by
       have:=ar.size
       simp only[World.size_alloc]at this;simp;omega
      clear as ar a4 M T hc ao;go_wp2;go_roundw
      case rel=>
       refine⟨k+1,_,by omega,by go_num,World.cell?_setCell_same _ _ _ cd,by rw[World.frozen?_setCell];exact cz, ?_,Aa c9,de⟩;rw[Aa ai,Ys,VE,Aa di];exact Aa cv
      case measure=>simp[intOf];omega
    . rw[if_neg b8,XA]at ai;go_wp2;go_roundw
      case rel=>exact⟨k+1,_,by omega,by go_num,hc,ao,by rw[Aa ai];exact Aa M,Aa T,c3⟩
      case measure=>simp[intOf];omega
  . obtain rfl:k=G:=by omega
    have an:Bu l k=Bu l l.length:=by rw[a3]
    have d8:(Bu l k).length<=288:=by have:=Q9 l k;omega
    obtain⟨bp,ax,dl,bf,em⟩:∃bp,((Bu l k).length=0\/ab=some ⟨bp,0,none⟩)/\((Bu l k).length=0\/bp<wr.heap.size)/\w.heap.size≠bp/\w.heap.size+1<=bp:=by
     rcases bh with h|⟨g,cy,dt,d2⟩
     . exact⟨w.heap.size+1,.inl h,.inl h,by omega,by omega⟩
     . exact⟨g,.inr cy,.inr d2,by omega,dt⟩
    have cj:Hid (PS (Bu l k).length bp (dU l) wr):=by
     intro j H
     have da:ab=some ⟨bp,0,none⟩:=by
      rcases ax with h|h
      . omega
      . exact h
     subst da;obtain⟨dq,dp⟩:=O1 (Bu l k) j H;have e:dU l j=(Bu l k).getD j (0,0):=by unfold dU;rw[an]
     rw[e];exact⟨⟨(E.cellAt (j*2) (by omega)).trans dq,E.frozenAt _⟩,⟨(E.cellAt (j*2+1) (by omega)).trans dp,E.frozenAt _⟩⟩
    have bi:Hid (RW (dU l) 0 (Bu l k).length):=by rw[an];exact Z59 l
    have bn:Hid (∀d,Stab.Moved 0 (Bu l k).length (dU l) d->Stab.Srt Stab.lx d 0 (Bu l k).length->Sorted l (Bu l k).length d):=by
     rw[an];exact fun d=>LR l (Aa a7) d
    have c7:∀(ch:Fn) (first af:Array Value) (w:World),(Instr.makeFunc ch first af).run Tryz.prog w=.ok (.func ch first af) w:=fun _ _ _ _=>rfl
    clear E I a0 bc an bh;generalize (Bu l k).length=N at*;generalize Bu l k=U at*;go_wp2_with fail
    refine(Qp N bp w.heap.size aj ab (dU l) wr d8 ax dl (by omega) bf hc (Aa cj) (Aa bi)).mono ?_;rintro e a9 ⟨rfl,d,b9,bu,bg,g2⟩;have av:=Ab (Aa bn d bu bg);have cp:=Ab b9;have c2:=g2.cell hc (by simpa using bf);have bm:=Ab ((Aa T).grown g2 (by omega) (fun j h=>by cases h;omega));have eb:=g2.size;clear b9 bu bg g2 hc ao cj bi bn M T c7;obtain⟨ci,bz,cg,y1,y2⟩:=info_parts Z4y;go_wp2_with (at_make;refine wpList_make_full _ rfl _ _ 43 rfl w.heap.size 9 ci (.string ByteArray.empty) 1 Tryz.underlying43 bz cg y1 _ _ _ _ k rfl rfl rfl rfl (by rw[y2];omega) (by unfold maxLen;omega) (by omega) ?_)
    intro w3 ae ac
    have e0:(madeCells #[Value.string ByteArray.empty] k).toList=List.replicate k (.string (text [])):=by
     rw[toList_madeCells_one];rfl
    rw[e0]at ae;have df:=Ab ae;have dm:=(ae.lt _ rfl).2;have dj:=Ab (Hq (Aa bm) ac (by omega))
    have db:Hid (PS N bp d w3):=by
     by_cases cw:N=0
     . subst cw;intro j H;omega
     . exact(Aa cp).kept ac (by omega)
    have cd:=ac.cell c2 (by simp);have el:N=0\/bp<a9.heap.size:=by omega
    have et:=ac.size;have ep:w.heap.size+1<=a9.heap.size:=by omega
    have c4:Hid (OutTo l (fun i=>(d i).2.toNat) k 0 (List.replicate k (.string (text [])))):=⟨by simp,fun i h=>by omega,fun q bj=>.inr (by simp[bj])⟩
    clear ae ac e0 cp bm c2 bz cg y1 y2 ci;generalize a9.heap.size=g at*;go_wp2;go_loopw [7,36] (fun aj a5 ah=>∃(i:Nat) (cs:List Bool) (xs:List Value),i<=N/\a5=.int .i64 (i:Int)/\aj=.string (text cs)/\Z33 l d i cs/\ah.ownsRow w.heap.size 9 1 (.slice (some ⟨g,0,none⟩) k k) k xs/\OutTo l (fun i=>(d i).2.toNat) k i xs/\PS N bp d ah/\Below w.heap.size w ah/\g<ah.heap.size) (fun _ a5 _=>N-(intOf a5).toNat)
    case atStart=>exact⟨0,[],_,VH _,rfl,rfl,.inl ⟨rfl,rfl⟩,Aa df,Aa c4,Aa db,Aa dj,dm⟩
    case round=>
     obtain⟨i,cs,xs,en,rfl,rfl,ba,E,O,aa,I,bo⟩:=hrel;have al:=Ab E;have dc:=Ab O;have bw:=Ab aa;have a8:=Ab I;have cq:=Ab ba
     by_cases ak:i<N
     . obtain⟨n,q,aw,bj,dw,ew,bv,_⟩:=(Aa av).at' i ak;have c1:=(aa i ak).1.1;have c2:=(aa i ak).2.1;rw[aw]at c1 c2;simp only at c1 c2
       have ap:=Ab aw;obtain⟨y,cu⟩:∃y,xs[q]? =some y:=⟨xs[q]'(by rw[E.1];omega),by simp⟩
       have d9:(q:Int)<(k:Int):=by omega
       have ct:=(E.cellAt q (by omega)).trans cu;have bd:=E.frozenAt q;clear E O aa I ba aw cu;have Y:Hid (∀a6:World,a6.ownsRow w.heap.size 9 1 (.slice (some ⟨g,0,none⟩) k k) k xs->(a6.setCell ⟨g,q,none⟩ (.string (text (codeT l q)))).ownsRow w.heap.size 9 1 (.slice (some ⟨g,0,none⟩) k k) k (xs.set q (.string (text (codeT l q))))):=fun a6 h=>(h.stored q _).1
       have au:Hid (OutTo l (fun i=>(d i).2.toNat) k (i+1) (xs.set q (.string (text (codeT l q))))):=Z0h (Aa dc) (by rw[Aa ap];simp) (by omega);have be:Hid (Z33 l d (i+1) (hb (codeN l q) n)):=.inr ⟨by omega,n,q,Aa ap,rfl,bv⟩;have bt:Hid (codeT l q=hb (codeN l q) n):=by unfold Hid codeT;rw[dw];simp
       have bk:bp≠g:=by omega
       obtain rfl:ab=some ⟨bp,0,none⟩:=by
        rcases ax with h|h
        . omega
        . exact h
       by_cases a1:i=0
       . have ag:cs= []:=by
          rcases Aa cq with ⟨_,h⟩|⟨h,_⟩
          . exact h
          . omega
         subst ag;have ed:¬(0:Int)<(i:Int):=by omega
         have e2:codeN l q=0:=(Aa av).first (by omega) (by rw[<-a1];exact Aa ap);have e3:hb (codeN l q) n=List.replicate n false:=by rw[e2,OW]
         have dg:=Ab e3;have ts:(text []).size=0:=rfl;have az:=Ct (List.replicate n false);rw[XD]at az;clear e2 e3 a1;have ey:text []++text (List.replicate n false)=text (hb (codeN l q) n):=by rw[Ot,List.nil_append,Aa dg]
         go_wp2_with fail
         refine(T6 n bv _).mono ?_;rintro e b0 ⟨rfl,rfl⟩;rw[Aa bt]at Y au;have ck:=Ab (Aa Y wr (Aa al));have dz:=Ku ct (.cells #[.int .i64 (n:Int),.int .i64 (q:Int)] 230);have dx:=Id bd bo (.cells #[.int .i64 (n:Int),.int .i64 (q:Int)] 230);go_wp2;go_roundw
         case rel=>exact⟨i+1,hb (codeN l q) n,_,by omega,by go_num,rfl,Aa be,(Aa ck).alloc _,Aa au,((Aa bw).other bk _).alloc (by simp;omega) _,((Aa a8).setCell (p:=⟨g,q,none⟩) (by simp;omega) _).alloc (by simp;omega) _,by simp;omega⟩
         case measure=>simp[intOf];omega
       . obtain⟨n0,Z,b3,ag,dy⟩:∃n0 Z:Nat,d (i-1)=((n0:Int),(Z:Int))/\cs=hb (codeN l Z) n0/\n0<=15:=by
          rcases Aa cq with ⟨h,_⟩|⟨_,h⟩
          . omega
          . exact h
         have ee:(0:Int)<(i:Int):=by omega
         obtain⟨m1,m2,cm⟩:=(Aa av).next (Aa a7) (i:=i-1) (by omega) b3 (by rw[show i-1+1=i by omega];exact Aa ap);obtain⟨F,t,b1,b2⟩:=Z2v n0 (codeN l Z) m2
         have c6:F.length+1+t=n0:=by
          have:=congrArg List.length b1
          rw[Bd]at this;simp at this;omega
         have b4:hb (codeN l q) n=(F++true::List.replicate t false)++List.replicate (n-n0) false:=by
          have b7:=Z2u (codeN l Z+1) n0 (n-n0);rw[show n0+(n-n0)=n by omega,<-cm,b2]at b7;exact b7
         rw[b1]at ag;subst ag;have d7:=Ab b4
         have d3:Hid (((text (F++false::List.replicate t true)).extract 0 F.length++⟨#[49]⟩)++text (List.replicate t false)=text (F++true::List.replicate t false)):=by
          rw[TQ,show (⟨#[49]⟩:ByteArray)=text [true] from rfl,Ot,Ot,VS];exact rfl
         have ei:text (F++true::List.replicate t false)++text (List.replicate (n-n0) false)=text (hb (codeN l q) n):=by rw[Ot,Aa d7]
         have dr:=Ct (F++false::List.replicate t true);rw[show (F++false::List.replicate t true).length=n0 by simp;omega]at dr;have dd:=Ct (F++true::List.replicate t false);rw[show (F++true::List.replicate t false).length=n0 by simp;omega]at dd;have az:=Ct (List.replicate t false);rw[XD]at az;have dn:=Ct (List.replicate (n-n0) false);rw[XD]at dn;have d5:=Ab (fun w=>Z17 F t w (by omega));have eq:(F.length:Int)<=(n0:Int):=by omega
         have eg:(n0:Int)-(F.length:Int)-1=(t:Int):=by omega
         have ek:(n:Int)-(n0:Int)=((n-n0:Nat):Int):=by omega
         have c5:t<=15:=by omega
         clear a1 b3 dy m1 m2 cm b1 b2 b4 c6;generalize F.length=la at*;generalize bq:text (F++false::List.replicate t true)=eu at*;have e4:=Ab bq;clear bq;go_wp2_with fail
         refine(Aa d5 _).mono ?_;rintro e b0 ⟨rfl,rfl⟩;go_wp2;go_quiet ((go_at_call 165;refine Calls.quiet_of_same (T6 t c5 _)))
         rw[Aa d3];go_wp2_with fail
         refine(T6 (n-n0) (by omega) _).mono ?_;rintro e b0 ⟨rfl,rfl⟩;rw[Aa bt]at Y au;have ck:=Ab (Aa Y wr (Aa al));have dz:=Ku ct (.cells #[.int .i64 (n:Int),.int .i64 (q:Int)] 230);have dx:=Id bd bo (.cells #[.int .i64 (n:Int),.int .i64 (q:Int)] 230);go_wp2;go_roundw
         case rel=>exact⟨i+1,hb (codeN l q) n,_,by omega,by go_num,rfl,Aa be,Aa Y ((wr.alloc _).drewN nq) ((Aa al).alloc _),Aa au,PS.other (a:=⟨g,q,none⟩) (PS.drewN ((Aa bw).alloc (by omega) _) nq) bk _,Below.setCell (p:=⟨g,q,none⟩) (Ae ((Aa a8).alloc (by omega) _) nq) (by simp;omega) _,by simp;omega⟩
         case measure=>simp[intOf];omega
     . obtain rfl:i=N:=by omega
       have ds:Hid (xs=(List.range k).map fun q=>.string (text (codeT l q))):=Z47 (Aa a7) a3 O (Aa av);clear E O aa I ba;go_wp2;go_ret;exact⟨g,rfl,Aa a8,by omega,by rw[<-Aa ds];exact Aa al⟩
end Go.Proofs.YtleocpdblhbimaaGreatDoor
