import Derived.Test.YtleocpdblhbimaaGreatDoorQ47
import Derived.Test.YtleocpdblhbimaaGreatDoorQ43
set_option linter.unusedSimpArgs false
set_option maxHeartbeats 2000000
namespace Go.Proofs.YtleocpdblhbimaaGreatDoor
open Go.RowKit Go.Lib
set_option linter.unusedVariables false
set_option maxRecDepth 100000
theorem Rr (f1 f2:Value)(hf1:f1.oneCell'=true)(hf2:f2.oneCell'=true)(n:Nat)(hn:n<=1)(w:World):
 Calls Tryz.prog 225 #[.agg #[f1,f2],.int .i64 0,.int .i64 n] w fun e w'=>e=.returned (.tuple #[])/\w.grownBy w' none:=by
 go_enter Tryz.func225,Tryz.ntmps225
 go_wp2;go_loop [6] (fun vi=>vi=.int .i64 1) (fun _=>0)
 case atStart=>exact rfl
 case round=>
  obtain rfl:=hrel;have h:¬(1:Int)<(n:Int):=by omega
  go_wp2;go_end0
  exact⟨rfl,Bt (Bp _ _) _⟩
theorem A9 (lf sf:Fn)(la lb sa sb:Array Value)(n:Nat)(hn:n<=1)(w:World):
 Calls Tryz.prog 197 #[.agg #[.func lf la lb,.func sf sa sb],.int .i64 n] w fun e w'=>e=.returned (.tuple #[])/\w.grownBy w' none:=by
 go_enter Tryz.func197,Tryz.ntmps197
 go_wp2;go_loop [5,6] (fun va vb=>va=.int .i64 0/\vb=.int .i64 20) (fun _ _=>0)
 case atStart=>exact⟨rfl,rfl⟩
 case round=>
  obtain⟨rfl,rfl⟩:=hrel;have h:¬(20:Int)<=(n:Int):=by omega
  have h2:¬(20:Int)<(n:Int):=by omega
  go_wp2_with fail
  refine(Rr _ _ rfl rfl n hn _).mono ?_;rintro e w2 ⟨rfl,hg⟩;have HG:=Ab (Bf (Bt (Bp w none) _) hg);clear hg;go_wp2;go_loop [4,5,6,7] (fun vB _ _ _=>vB=.int .i64 20) (fun _ _ _ _=>0)
  case atStart=>exact rfl
  case round=>
   obtain rfl:=hrel;go_wp2;go_end0
   exact⟨rfl,Aa HG⟩
theorem swk (n:Nat)(ie:TypeInfo)(hp:ie.hasPointers=false)(hb:ie.bytes=16):swapperK n ie 25=if n=0 then 1 else if n=1 then 2 else 9:=by
 unfold swapperK;rw[hp,hb]
 by_cases h0:n=0
 . simp[h0]
 . by_cases h1:n=1
   . simp[h1]
   . simp[h0,h1]
def DY (N bp:Nat)(d:Nat->Int×Int)(w w':World):Prop:=∃d',PS N bp d' w'/\Stab.Moved 0 N d d'/\Stab.Srt Stab.lx d' 0 N/\w.grownBy w' (some bp)
theorem Qp (N bp bx cap:Nat)(p:Option Addr)(d:Nat->Int×Int)(w:World)(hN:N<=288)(hp:N=0\/p=some ⟨bp,0,none⟩)(hbp:N=0\/bp<w.heap.size)(hbx:bx<w.heap.size)(hne:bx≠bp)
 (hbox:w.cell? ⟨bx,0,none⟩=some (.slice p N cap)) (hP:PS N bp d w) (hr:RW d 0 N):
 Calls Tryz.prog 162 #[.iface 228 (.slice p N cap),LF bx] w fun e w'=>e=.returned (.tuple #[])/\DY N bp d w w':=by
 obtain⟨ie,hie,hq⟩:=XF.1 Z72;have hq1:ie.hasPointers=false:=congrArg Prod.fst hq;have hq2:ie.bytes=16:=congrArg Prod.snd hq;have hk:=swk N ie hq1 hq2;have gst:w.grownBy (stW Tryz.prog.globals.size p N cap w) none:=Bt (Bt (Bp w none) _) _
 by_cases h1:N<=1
 . have small:∀f B,Calls Tryz.prog 197 #[.agg #[LF bx,.func (.func f) #[] B],.int .i64 N] (stW Tryz.prog.globals.size p N cap w) fun e w'=>e=.returned (.tuple #[])/\DY N bp d w w':=fun f B=>by
    refine(A9 _ _ _ _ _ _ N h1 _).mono ?_;rintro e w' ⟨rfl,hg⟩;have hg2:=Bf gst hg;refine⟨rfl,d, ?_,Stab.Moved.refl _ _ _,fun i j a1 a2 a3=>by omega,⟨hg2.os,hg2.tape,hg2.output,hg2.size,fun i hi _=>hg2.block i hi (by simp)⟩⟩
    by_cases h0:N=0
    . subst h0;intro k hk;omega
    . exact hP.kept hg2 (by omega)
   by_cases h0:N=0
   . rw[if_pos h0]at hk;exact Gv _ rfl ie hie p N cap 216 (by rw[hk];kernel_rfl) _ rfl _ _ _ w _ (Ab (small _ _))
   . rw[if_neg h0,if_pos (by omega)]at hk;exact Gv _ rfl ie hie p N cap 217 (by rw[hk];kernel_rfl) _ rfl _ _ _ w _ (Ab (small _ _))
 . rw[if_neg (by omega),if_neg (by omega)]at hk
   obtain rfl:p=some ⟨bp,0,none⟩:=by
    rcases hp with h|h
    . omega
    . exact h
   have hbp':bp<w.heap.size:=by omega
   refine Gv _ rfl ie hie (some ⟨bp,0,none⟩) N cap 224 (by rw[hk];kernel_rfl) _ rfl _ _ _ w _ (Ab ?_);rw[hk];refine(EY (typeHandle Tryz.prog 230) (Ab rfl) N bp bx cap d _ hN (VG hbp' gst.size) (VG hbx gst.size) hne (gst.cell hbox (by simp)) (hP.kept gst hbp') hr).mono ?_;rintro e w' ⟨rfl,d',p1,p2,p3,p4⟩;exact⟨rfl,d',p1,p2,p3,Bf ⟨gst.os,gst.tape,gst.output,gst.size,fun i hi _=>gst.block i hi (by simp)⟩ p4⟩
theorem Z17 (a:List Bool)(t:Nat)(w:World)(hl:a.length+1+t<=16):
 Calls Tryz.prog 164 #[.string (text (a++false::List.replicate t true)),.int .u8 48] w fun e w'=>e=.returned (.int .i64 (a.length:Int))/\w'=w:=by
 have hlen:(a++false::List.replicate t true).length=a.length+1+t:=by simp;omega
 have hsz:=Ct (a++false::List.replicate t true);rw[hlen]at hsz;have HTA:=Ab (LC (a++false::List.replicate t true));have HL:=Ab hlen
 have hat:Hid (∀j,a.length<j->(hj:j<(a++false::List.replicate t true).length)->(a++false::List.replicate t true)[j]=true):=fun j h1 hj=>by
  rw[List.getElem_append_right (by omega)];obtain⟨m,hm⟩:∃m,j-a.length=m+1:=⟨j-a.length-1,by omega⟩
  simp[hm]
 have hat0:Hid ((hj:a.length<(a++false::List.replicate t true).length)->(a++false::List.replicate t true)[a.length]=false):=fun hj=>by
  rw[List.getElem_append_right (by omega)];simp
 generalize a++false::List.replicate t true=l at*
 have lastS:Hid (∀w,Calls Tryz.prog 199 #[.string (text l),.int .u8 48] w fun e w'=>e=.returned (.int .i64 (a.length:Int))/\w'=w):=by
  intro w;go_enter Tryz.func199,Tryz.ntmps199
  go_wp2;go_loop [5] (fun vi=>∃j:Nat,a.length<=j/\j<a.length+1+t/\vi=.int .i64 (j:Int)) (fun vi=>(RowKit.intOf vi).toNat)
  case atStart=>exact⟨a.length+t,by omega,by omega,by go_num⟩
  case round=>
   obtain⟨j,hj1,hj2,rfl⟩:=hrel;have hjl:j<l.length:=by omega
   have hjs:j<(text l).size:=by omega
   have ht:=Aa HTA j hjl hjs
   by_cases hlt:a.length<j
   . rw[Aa hat j hlt hjl]at ht;have hb:((((text l)[j]'hjs).toNat:Int)==48)=false:=by rw[ht];rfl
     clear ht;go_wp2;go_round
     case rel=>exact⟨j-1,by omega,by omega,by go_num⟩
     case measure=>simp[RowKit.intOf];omega
   . obtain rfl:j=a.length:=by omega
     rw[Aa hat0 hjl]at ht;have hb:((((text l)[a.length]'hjs).toNat:Int)==48)=true:=by rw[ht];rfl
     clear ht;go_wp2;go_ret;exact⟨rfl,rfl⟩
 go_enter Tryz.func164,Tryz.ntmps164
 go_wp2_with fail
 refine(Aa lastS _).mono ?_;rintro e w' ⟨rfl,rfl⟩;go_wp2;go_ret;exact⟨rfl,rfl⟩
end Go.Proofs.YtleocpdblhbimaaGreatDoor
namespace Go.Proofs.YtleocpdblhbimaaGreatDoor
open Go.RowKit
set_option linter.unusedVariables false
set_option maxRecDepth 100000
theorem Wo (l:List Int):∀k x,x∈Bu l k->∃q:Nat,q<k/\0<l.getD q 0/\x=(l.getD q 0,(q:Int))
 |0,x,h=>by simp[Bu]at h
 |k+1,x,h=>by
  rw[Bu,WP]at h
  rcases h with h|h
  . obtain⟨q,h1,h2,h3⟩:=Wo l k x h;exact⟨q,by omega,h2,h3⟩
  . by_cases e:0<l.getD k 0
    . rw[if_pos e]at h;exact⟨k,by omega,e,by simpa using h⟩
    . rw[if_neg e]at h;simp at h
theorem AZ (l:List Int):∀k (q:Nat),q<k->0<l.getD q 0->(l.getD q 0,(q:Int))∈Bu l k
 |0,q,h,_=>by omega
 |k+1,q,h,h2=>by
  rw[Bu,WP]
  by_cases e:q=k
  . subst e;right;rw[if_pos h2];simp
  . left;exact AZ l k q (by omega) h2
theorem Zj (l:List Int):∀k,(Bu l k).Pairwise (fun x y=>x.2<y.2)
 |0=>List.Pairwise.nil
 |k+1=>by
  rw[Bu,List.pairwise_append];refine⟨Zj l k, ?_, ?_⟩
  . split<;>simp
  . intro x hx y hy;obtain⟨q,h1,_,h3⟩:=Wo l k x hx
    split at hy
    . simp at hy
      rw[h3,hy];simp only
      omega
    . simp at hy
theorem Q9 (l:List Int):∀k,(Bu l k).length<=k
 |0=>by simp[Bu]
 |k+1=>by
  have:=Q9 l k
  rw[Bu,VE]
  split<;>simp<;>omega
def dU (l:List Int):Nat->Int×Int:=fun k=>(Bu l l.length).getD k (0,0)
theorem Z59 (l:List Int):RW (dU l) 0 (Bu l l.length).length:=by
 intro i j _ hij hj;have h:=YE.1 (Zj l l.length) i j (by omega) hj hij;unfold dU;have e1:(Bu l l.length).getD i (0,0)=(Bu l l.length)[i]:=by simp[List.getD,show i<(Bu l l.length).length by omega]
 have e2:(Bu l l.length).getD j (0,0)=(Bu l l.length)[j]:=by simp[List.getD,hj]
 rw[e1,e2];exact h
theorem Z77 (l:List Int):Stab.seg (dU l) 0 (Bu l l.length).length=Bu l l.length:=by
 apply XK
 . simp[Stab.seg]
 . intro i h1 h2;simp[Stab.seg,dU,List.getD,h2]
structure Sorted (l:List Int)(N:Nat)(d:Nat->Int×Int):Prop where
 at':∀i,i<N->∃n q:Nat,d i=((n:Int),(q:Int))/\q<l.length/\l.getD q 0=(n:Int)/\0<n/\n<=15/\vsum d i=codeN l q*2^(15-n)
 srt:Stab.Srt Stab.lx d 0 N
 all:∀q:Nat,q<l.length->0<l.getD q 0->∃i,i<N/\d i=(l.getD q 0,(q:Int))
theorem LR (l:List Int)(hG:Good l)(d:Nat->Int×Int)(hm:Stab.Moved 0 (Bu l l.length).length (dU l) d)(hs:Stab.Srt Stab.lx d 0 (Bu l l.length).length):Sorted l (Bu l l.length).length d:=by
 have hperm:(Stab.seg d 0 (Bu l l.length).length).Perm (Bu l l.length):=by
  have:=hm.perm
  rw[Z77]at this
  first|exact this|exact this.symm
 refine⟨fun i hi=> ?_,hs,fun q hq h0=> ?_⟩
 . have hmem:d i∈Stab.seg d 0 (Bu l l.length).length:=Stab.mem_seg.2 ⟨i,VH _,hi,rfl⟩;obtain⟨q,h1,h2,h3⟩:=Wo l _ _ (hperm.mem_iff.1 hmem);obtain⟨n,hn⟩:=WF (hG.ok q h1).1;have h15:=(hG.ok q h1).2;have hv:=AF d _ hs hi;rw[RC _ hperm,h3,hn,RD l hG h1 hn (by omega)]at hv;exact⟨n,q,by rw[h3,hn],h1,hn,by omega,by omega,hv.symm⟩
 . have:=hperm.mem_iff.2 (AZ l _ q hq h0)
   obtain⟨i,_,hi,h⟩:=Stab.mem_seg.1 this;exact⟨i,hi,h⟩
theorem Sorted.first {l:List Int}{N:Nat}{d:Nat->Int×Int}(h:Sorted l N d){n q:Nat}(hN:0<N)(hd:d 0=((n:Int),(q:Int))):codeN l q=0:=by
 obtain⟨n',q',e,_,_,_,_,hv⟩:=h.at' 0 hN;rw[hd]at e;have e2:q=q':=by have:=congrArg Prod.snd e;simp at this;omega
 subst e2;have:codeN l q*2^(15-n')=0:=hv.symm
 rcases Nat.mul_eq_zero.1 this with h|h
 . exact h
 . have:=Nat.pow_pos (n:=15-n') (show 0<2 by decide);omega
theorem Sorted.next {l:List Int}(hG:Good l){N:Nat}{d:Nat->Int×Int}(h:Sorted l N d){i n q n' q':Nat}(hi:i+1<N)(hd:d i=((n:Int),(q:Int)))(hd':d (i+1)=((n':Int),(q':Int))):n<=n'/\codeN l q+1<2^n/\codeN l q'=(codeN l q+1)*2^(n'-n):=by
 obtain⟨a,b,e,_,_,_,ha15,hv⟩:=h.at' i (by omega);obtain⟨a',b',e',hb',hx',ha0',ha15',hv'⟩:=h.at' (i+1) hi;rw[hd]at e;rw[hd']at e';have e1:n=a:=by have:=congrArg Prod.fst e;simp at this;omega
 have e2:q=b:=by have:=congrArg Prod.snd e;simp at this;omega
 have e3:n'=a':=by have:=congrArg Prod.fst e';simp at this;omega
 have e4:q'=b':=by have:=congrArg Prod.snd e';simp at this;omega
 subst e1 e2 e3 e4;have hlx:=h.srt i (i+1) (VH _) (by omega) hi;rw[hd,hd']at hlx;have hle:n<=n':=by unfold Stab.lx at hlx;simp only at hlx;omega
 have hw:wt (d i)=2^(15-n):=by rw[hd];simp[wt]
 rw[vsum,hv,hw]at hv';have hp:2^(15-n)=2^(n'-n)*2^(15-n'):=by rw[<-Nat.pow_add];congr 1;omega
 have h1:((codeN l q+1)*2^(n'-n))*2^(15-n')=codeN l q'*2^(15-n'):=by
  rw[<-hv',XY,<-hp,ZW,Nat.one_mul]
 have h2:=Nat.eq_of_mul_eq_mul_right (Nat.pow_pos (n:=15-n') (show 0<2 by decide)) h1;have hlt:=(Ig l hG hb' hx' ha0').2.2;rw[<-h2]at hlt;have h3:2^n'=2^n*2^(n'-n):=by rw[<-Nat.pow_add];congr 1;omega
 rw[h3]at hlt;exact⟨hle,Nat.lt_of_mul_lt_mul_right hlt,h2.symm⟩
def Jn (xs:List (Int×Int)):List Value:=xs.flatMap fun p=> [.int .i64 p.1,.int .i64 p.2]
theorem Ys (xs ys:List (Int×Int)):Jn (xs++ys)=Jn xs++Jn ys:=by simp[Jn]
theorem O1:∀(xs:List (Int×Int)) (k:Nat),k<xs.length->(Jn xs)[k*2]? =some (.int .i64 (xs.getD k (0,0)).1)/\(Jn xs)[k*2+1]? =some (.int .i64 (xs.getD k (0,0)).2)
 | [],k,h=>by simp at h
 |x::r,0,_=>by simp[Jn]
 |x::r,k+1,h=>by
  have ih:=O1 r k (by simpa using h);have e:Jn (x::r)=.int .i64 x.1::.int .i64 x.2::Jn r:=by simp[Jn]
  rw[e,show (k+1)*2=k*2+1+1 by omega];simpa using ih
theorem Z4y:(Tryz.prog.info? 9).map (fun i=>(i.zero,i.size,i.bytes))=some (some (.string ByteArray.empty),1,16):=by kernel_rfl
theorem Z70:(Tryz.prog.info? 230).map (fun i=>(i.zero,i.size,i.bytes))=some (some (.agg #[.int .i64 0,.int .i64 0]),2,16):=by kernel_rfl
theorem BW {w:World}{B e size n:Nat}{v:Value}{xs:List Value}(h:w.ownsRow B e size v n xs){b:Nat}(hb:b<B):v.ownBlock≠some b:=by
 intro e;have:=(h.lt b e).1
 omega
theorem MU {w:World}{B e size n:Nat}{v:Value}{xs:List Value}(h:w.ownsRow B e size v n xs):∃a c,v=.slice a n c/\(n=0\/∃g,a=some ⟨g,0,none⟩/\B<=g/\g<w.heap.size):=by
 rcases h.2 with ⟨h1,h2⟩|⟨g,cap,cur,h1,h2,h3⟩
 . subst h2;exact⟨none,0,h1,.inl rfl⟩
 . exact⟨_,_,h1,.inr ⟨g,rfl,h2,(h.lt g (by rw[h1];rfl)).2⟩⟩
theorem Ku {w:World}{b o:Nat}{v:Value}(h:w.cell? ⟨b,o,none⟩=some v)(x:Obj):(w.alloc x).cell? ⟨b,o,none⟩=some v:=by
 rw[World.cell?_alloc_past _ _ _ (block_lt_of_cell h)];exact h
theorem Id {w:World}{b o:Nat}(h:w.frozen? ⟨b,o,none⟩=false)(hb:b<w.heap.size)(x:Obj):(w.alloc x).frozen? ⟨b,o,none⟩=false:=by
 have:=((Below.refl w.heap.size w).alloc (VB _) x).frozen (p:=⟨b,o,none⟩) hb
 rw[this];exact h
theorem Ot (a b:List Bool):text a++text b=text (a++b):=by
 apply ByteArray.ext
 simp[text]
theorem TQ (a b:List Bool):(text (a++b)).extract 0 a.length=text a:=by
 apply ByteArray.ext
 simp[text]
theorem PS.other {N bp:Nat}{d:Nat->Int×Int}{W:World}(hP:PS N bp d W){a:Addr}(hb:bp≠a.block)(v:Value):PS N bp d (W.setCell a v):=by
 intro k hk;have hbk:=Below.heap_setCell W a v bp hb;rw[World.cell?_of_block (a:=⟨bp,k*2,none⟩) hbk,World.frozen?_of_block (a:=⟨bp,k*2,none⟩) hbk,World.cell?_of_block (a:=⟨bp,k*2+1,none⟩) hbk,World.frozen?_of_block (a:=⟨bp,k*2+1,none⟩) hbk];exact hP k hk
structure OutTo (l:List Int)(at':Nat->Nat)(len i:Nat)(xs:List Value):Prop where
 size:xs.length=len
 set:∀j,j<i->xs[at' j]? =some (.string (text (codeT l (at' j))))
 or':∀q,q<len->xs[q]? =some (.string (text (codeT l q)))\/xs[q]? =some (.string (text []))
theorem Z0h {l:List Int}{at':Nat->Nat}{len i q:Nat}{xs:List Value}(h:OutTo l at' len i xs)(hq:at' i=q)(hl:q<len):OutTo l at' len (i+1) (xs.set q (.string (text (codeT l q)))):=by
 refine⟨by rw[XS];exact h.size,fun j hj=> ?_,fun r hr=> ?_⟩
 . rw[YM]
   by_cases e:q=at' j
   . rw[if_pos e,if_pos (by rw[h.size];omega),<-e]
   . rw[if_neg e]
     by_cases ej:j=i
     . subst ej;exact absurd hq.symm e
     . exact h.set j (by omega)
 . rw[YM]
   by_cases e:q=r
   . subst e;rw[if_pos rfl,if_pos (by rw[h.size];omega)];exact .inl rfl
   . rw[if_neg e];exact h.or' r hr
theorem Z47 {l:List Int}{d:Nat->Int×Int}{len N:Nat}{xs:List Value}(hG:Good l)(hl:l.length=len)(h:OutTo l (fun i=>(d i).2.toNat) len N xs)(hs:Sorted l N d):xs=(List.range len).map fun q=>.string (text (codeT l q)):=by
 apply List.ext_getElem?
 intro q
 by_cases hq:q<len
 . have e:((List.range len).map fun q=>Value.string (text (codeT l q)))[q]? =some (.string (text (codeT l q))):=by simp[hq]
   rw[e]
   by_cases h0:0<l.getD q 0
   . obtain⟨i,hi,hd⟩:=hs.all q (by omega) h0;have:=h.set i hi
     rw[hd]at this;simpa using this
   . have hz:l.getD q 0=0:=by have:=(hG.ok q (by omega)).1;omega
     have ht:codeT l q= []:=by unfold codeT;rw[hz];rfl
     rcases h.or' q hq with h|h
     . exact h
     . rw[ht];exact h
 . have h1:xs[q]? =none:=by simp;rw[h.size];omega
   have h2:((List.range len).map fun q=>Value.string (text (codeT l q)))[q]? =none:=WJ (by simp;omega);rw[h1,h2]
def Z33 (l:List Int)(d:Nat->Int×Int)(i:Nat)(cs:List Bool):Prop:=(i=0/\cs= [])\/ (0<i/\∃n q:Nat,d (i-1)=((n:Int),(q:Int))/\cs=hb (codeN l q) n/\n<=15)
theorem Z9 (a:Option Addr)(len cap:Nat)(l:List Int)(w:World)(hl:l.length=len)(hR:RowIn .i64 w a l)(hG:Good l):
 Calls Tryz.prog 125 #[.slice a len cap] w fun e w'=>∃g,e=.returned (.slice (some ⟨g,0,none⟩) len len)/\Below w.heap.size w w'/\w.heap.size<=g/\
  w'.ownsRow w.heap.size 9 1 (.slice (some ⟨g,0,none⟩) len len) len ((List.range len).map fun q=>.string (text (codeT l q))):=by
 obtain⟨i0,hi,hz0,hz1,hz2⟩:=info_parts Z70;have hlen:=hG.len;have HG:=Ab hG;have HR:=Ab hR;have HL:=Ab hl;clear hR hG;go_enter Tryz.func125,Tryz.ntmps125
 go_wp2;have hs0:w.heap.size+1<=(w.alloc (.cells #[.slice none 0 0] 228)).heap.size:=by simp
 have HO0:=Ab (World.ownsRow_nil (w.alloc (.cells #[.slice none 0 0] 228)) (w.heap.size+1) 230 2);have HB0:=Ab ((Below.refl w.heap.size w).alloc (VB _) (.cells #[.slice none 0 0] 228));go_loopw [13] (fun i wr=>∃(k:Nat) (v:Value),k<=len/\i=.int .i64 (k:Int)/\wr.cell? ⟨w.heap.size,0,none⟩=some v/\wr.frozen? ⟨w.heap.size,0,none⟩=false/\wr.ownsRow (w.heap.size+1) 230 2 v (Bu l k).length (Jn (Bu l k))/\Below w.heap.size w wr/\w.heap.size+1<=wr.heap.size) (fun i _=>len-(intOf i).toNat)
 case atStart=>exact⟨0,_,VH _,rfl,by simp,by simp,Aa HO0,Aa HB0,hs0⟩
 case round=>
  obtain⟨k,v,hk,rfl,hc,hf,hO,hB,hs⟩:=hrel;have HO:=Ab hO;have HB:=Ab hB;obtain⟨va,vc,rfl,hva⟩:=MU hO
  by_cases hlt:k<len
  . have hlk:k<l.length:=by omega
    obtain⟨b,o,rfl,hb,hRw⟩:∃b o,a=some ⟨b,o,none⟩/\b<w.heap.size/\Row .i64 w b o l:=by
     rcases Aa HR with rfl|h
     . simp at hlk
     . exact h
    have c1:=(hB.cell (p:=⟨b,o+k,none⟩) hb).trans (hRw k hlk);have HN:Hid (Bu l (k+1)=Bu l k++(if 0<l.getD k 0 then [(l.getD k 0,(k:Int))]else [])):=rfl;have hul:=Q9 l k;clear hO hB hRw HO0 HB0;generalize l.getD k 0=x at*
    by_cases hx:0<x
    . rw[if_pos hx]at HN;generalize hnu:(Bu l k).length=nu at*;have HNU:=Ab hnu;clear hnu;go_wp2_with (at_builtin;refine wpList_append_own _ rfl _ _ 228 rfl (w.heap.size+1) 230 i0 (.agg #[.int .i64 0,.int .i64 0]) 2 16 Tryz.underlying228 hi hz0 hz1 hz2 rfl (by decide) _ _ _ rfl ((Aa HO).alloc _) ⟨wr.heap.size,0,none⟩ 1 1 [.int .i64 x,.int .i64 (k:Int)] rfl rfl (by intro j u hj;match j,hj with|0,hj=>simp at hj;subst hj;simp[Addr.add]|1,hj=>simp at hj;subst hj;simp[Addr.add]) (by intro u hu;simp at hu;rcases hu with rfl|rfl<;>rfl) (by unfold maxLen;omega) (by omega) (by simp;omega) ?_)
      intro v' w1 hO1 hgrow _;have hne:=BW (Aa HO) (b:=w.heap.size) (by omega);have hxs:w.heap.size<wr.heap.size:=by omega
      have hbk:=hgrow.block w.heap.size (by simp;omega) (fun e=>hne e.symm)
      have c3:w1.cell? ⟨w.heap.size,0,none⟩=some (.slice va nu vc):=by
       rw[World.cell?_of_block hbk];exact Ku hc _
      have f3:w1.frozen? ⟨w.heap.size,0,none⟩=false:=by
       rw[World.frozen?_of_block hbk];exact Id hf hxs _
      obtain⟨va',vc',rfl,_⟩:=MU hO1;have HO1:=Ab (hO1.kept (Ad w1 w.heap.size 0 (.slice va' (nu+1) vc')) (.inr (BW hO1 (by omega))));have HB1:=Ab ((((Aa HB).alloc (by omega) (.cells #[.int .i64 x,.int .i64 (k:Int)] 230)).grown hgrow (by simp;omega) (fun j hj=>by have:=((Aa HO).lt j hj).1;omega)).setCell (p:=⟨w.heap.size,0,none⟩) (VB _) (.slice va' (nu+1) vc'))
      have hs1:w.heap.size+1<=(w1.setCell ⟨w.heap.size,0,none⟩ (.slice va' (nu+1) vc')).heap.size:=by
       have:=hgrow.size
       simp only[World.size_alloc]at this;simp;omega
      clear hO1 hgrow hbk HO HB hc hf;go_wp2;go_roundw
      case rel=>
       refine⟨k+1,_,by omega,by go_num,World.cell?_setCell_same _ _ _ c3,by rw[World.frozen?_setCell];exact f3, ?_,Aa HB1,hs1⟩;rw[Aa HN,Ys,VE,Aa HNU];exact Aa HO1
      case measure=>simp[intOf];omega
    . rw[if_neg hx,XA]at HN;go_wp2;go_roundw
      case rel=>exact⟨k+1,_,by omega,by go_num,hc,hf,by rw[Aa HN];exact Aa HO,Aa HB,hs⟩
      case measure=>simp[intOf];omega
  . obtain rfl:k=len:=by omega
    have eU:Bu l k=Bu l l.length:=by rw[hl]
    have hNle:(Bu l k).length<=288:=by have:=Q9 l k;omega
    obtain⟨bp,hb1,hb2,hb3,hb4⟩:∃bp,((Bu l k).length=0\/va=some ⟨bp,0,none⟩)/\((Bu l k).length=0\/bp<wr.heap.size)/\w.heap.size≠bp/\w.heap.size+1<=bp:=by
     rcases hva with h|⟨g,h1,h2,h3⟩
     . exact⟨w.heap.size+1,.inl h,.inl h,by omega,by omega⟩
     . exact⟨g,.inr h1,.inr h3,by omega,h2⟩
    have HPS:Hid (PS (Bu l k).length bp (dU l) wr):=by
     intro j hj
     have hp1:va=some ⟨bp,0,none⟩:=by
      rcases hb1 with h|h
      . omega
      . exact h
     subst hp1;obtain⟨q1,q2⟩:=O1 (Bu l k) j hj;have e:dU l j=(Bu l k).getD j (0,0):=by unfold dU;rw[eU]
     rw[e];exact⟨⟨(hO.cellAt (j*2) (by omega)).trans q1,hO.frozenAt _⟩,⟨(hO.cellAt (j*2+1) (by omega)).trans q2,hO.frozenAt _⟩⟩
    have HRi:Hid (RW (dU l) 0 (Bu l k).length):=by rw[eU];exact Z59 l
    have HSO:Hid (∀d,Stab.Moved 0 (Bu l k).length (dU l) d->Stab.Srt Stab.lx d 0 (Bu l k).length->Sorted l (Bu l k).length d):=by
     rw[eU];exact fun d=>LR l (Aa HG) d
    have hmf:∀(fn:Fn) (first cap:Array Value) (w:World),(Instr.makeFunc fn first cap).run Tryz.prog w=.ok (.func fn first cap) w:=fun _ _ _ _=>rfl
    clear hO hB HO0 HB0 eU hva;generalize (Bu l k).length=N at*;generalize Bu l k=U at*;go_wp2_with fail
    refine(Qp N bp w.heap.size vc va (dU l) wr hNle hb1 hb2 (by omega) hb3 hc (Aa HPS) (Aa HRi)).mono ?_;rintro e w2 ⟨rfl,d,p1,p2,p3,g2⟩;have HSd:=Ab (Aa HSO d p2 p3);have HP2:=Ab p1;have c2:=g2.cell hc (by simpa using hb3);have HB2:=Ab ((Aa HB).grown g2 (by omega) (fun j h=>by cases h;omega));have hz2':=g2.size;clear p1 p2 p3 g2 hc hf HPS HRi HSO HO HB hmf;obtain⟨i1,hi1,y0,y1,y2⟩:=info_parts Z4y;go_wp2_with (at_make;refine wpList_make_full _ rfl _ _ 43 rfl w.heap.size 9 i1 (.string ByteArray.empty) 1 Tryz.underlying43 hi1 y0 y1 _ _ _ _ k rfl rfl rfl rfl (by rw[y2];omega) (by unfold maxLen;omega) (by omega) ?_)
    intro w3 hown3 hgrow3
    have e0:(madeCells #[Value.string ByteArray.empty] k).toList=List.replicate k (.string (text [])):=by
     rw[toList_madeCells_one];rfl
    rw[e0]at hown3;have HO3:=Ab hown3;have hgl:=(hown3.lt _ rfl).2;have HB3:=Ab (Hq (Aa HB2) hgrow3 (by omega))
    have HP3:Hid (PS N bp d w3):=by
     by_cases h0:N=0
     . subst h0;intro j hj;omega
     . exact(Aa HP2).kept hgrow3 (by omega)
    have c3:=hgrow3.cell c2 (by simp);have hgN:N=0\/bp<w2.heap.size:=by omega
    have hz3:=hgrow3.size;have hG2:w.heap.size+1<=w2.heap.size:=by omega
    have HXS:Hid (OutTo l (fun i=>(d i).2.toNat) k 0 (List.replicate k (.string (text [])))):=⟨by simp,fun i h=>by omega,fun q hq=>.inr (by simp[hq])⟩
    clear hown3 hgrow3 e0 HP2 HB2 c2 hi1 y0 y1 y2 i1;generalize w2.heap.size=g at*;go_wp2;go_loopw [7,36] (fun vc vi wq=>∃(i:Nat) (cs:List Bool) (xs:List Value),i<=N/\vi=.int .i64 (i:Int)/\vc=.string (text cs)/\Z33 l d i cs/\wq.ownsRow w.heap.size 9 1 (.slice (some ⟨g,0,none⟩) k k) k xs/\OutTo l (fun i=>(d i).2.toNat) k i xs/\PS N bp d wq/\Below w.heap.size w wq/\g<wq.heap.size) (fun _ vi _=>N-(intOf vi).toNat)
    case atStart=>exact⟨0,[],_,VH _,rfl,rfl,.inl ⟨rfl,rfl⟩,Aa HO3,Aa HXS,Aa HP3,Aa HB3,hgl⟩
    case round=>
     obtain⟨i,cs,xs,hiN,rfl,rfl,hcs,hO,hxs,hP,hB,hgw⟩:=hrel;have HO4:=Ab hO;have HX4:=Ab hxs;have HP4:=Ab hP;have HB4:=Ab hB;have HCS:=Ab hcs
     by_cases hlt:i<N
     . obtain⟨n,q,hd,hq,hlq,hn0,hn15,_⟩:=(Aa HSd).at' i hlt;have c1:=(hP i hlt).1.1;have c2:=(hP i hlt).2.1;rw[hd]at c1 c2;simp only at c1 c2
       have HD:=Ab hd;obtain⟨y,hy⟩:∃y,xs[q]? =some y:=⟨xs[q]'(by rw[hO.1];omega),by simp⟩
       have hqk:(q:Int)<(k:Int):=by omega
       have cg:=(hO.cellAt q (by omega)).trans hy;have fg:=hO.frozenAt q;clear hO hxs hP hB hcs hd hy;have HW:Hid (∀wz:World,wz.ownsRow w.heap.size 9 1 (.slice (some ⟨g,0,none⟩) k k) k xs->(wz.setCell ⟨g,q,none⟩ (.string (text (codeT l q)))).ownsRow w.heap.size 9 1 (.slice (some ⟨g,0,none⟩) k k) k (xs.set q (.string (text (codeT l q))))):=fun wz h=>(h.stored q _).1
       have HXn:Hid (OutTo l (fun i=>(d i).2.toNat) k (i+1) (xs.set q (.string (text (codeT l q))))):=Z0h (Aa HX4) (by rw[Aa HD];simp) (by omega);have HCn:Hid (Z33 l d (i+1) (hb (codeN l q) n)):=.inr ⟨by omega,n,q,Aa HD,rfl,hn15⟩;have HT:Hid (codeT l q=hb (codeN l q) n):=by unfold Hid codeT;rw[hlq];simp
       have hbg:bp≠g:=by omega
       obtain rfl:va=some ⟨bp,0,none⟩:=by
        rcases hb1 with h|h
        . omega
        . exact h
       by_cases hi0:i=0
       . have e1:cs= []:=by
          rcases Aa HCS with ⟨_,h⟩|⟨h,_⟩
          . exact h
          . omega
         subst e1;have hno:¬(0:Int)<(i:Int):=by omega
         have e2:codeN l q=0:=(Aa HSd).first (by omega) (by rw[<-hi0];exact Aa HD);have e3:hb (codeN l q) n=List.replicate n false:=by rw[e2,OW]
         have E3:=Ab e3;have ts:(text []).size=0:=rfl;have ts2:=Ct (List.replicate n false);rw[XD]at ts2;clear e2 e3 hi0;have hcat:text []++text (List.replicate n false)=text (hb (codeN l q) n):=by rw[Ot,List.nil_append,Aa E3]
         go_wp2_with fail
         refine(T6 n hn15 _).mono ?_;rintro e w5 ⟨rfl,rfl⟩;rw[Aa HT]at HW HXn;have HWn:=Ab (Aa HW wr (Aa HO4));have cgA:=Ku cg (.cells #[.int .i64 (n:Int),.int .i64 (q:Int)] 230);have fgA:=Id fg hgw (.cells #[.int .i64 (n:Int),.int .i64 (q:Int)] 230);go_wp2;go_roundw
         case rel=>exact⟨i+1,hb (codeN l q) n,_,by omega,by go_num,rfl,Aa HCn,(Aa HWn).alloc _,Aa HXn,((Aa HP4).other hbg _).alloc (by simp;omega) _,((Aa HB4).setCell (p:=⟨g,q,none⟩) (by simp;omega) _).alloc (by simp;omega) _,by simp;omega⟩
         case measure=>simp[intOf];omega
       . obtain⟨n0,q0,hd0,e1,hn0'⟩:∃n0 q0:Nat,d (i-1)=((n0:Int),(q0:Int))/\cs=hb (codeN l q0) n0/\n0<=15:=by
          rcases Aa HCS with ⟨h,_⟩|⟨_,h⟩
          . omega
          . exact h
         have hyes:(0:Int)<(i:Int):=by omega
         obtain⟨m1,m2,m3⟩:=(Aa HSd).next (Aa HG) (i:=i-1) (by omega) hd0 (by rw[show i-1+1=i by omega];exact Aa HD);obtain⟨ab,t,b1,b2⟩:=Z2v n0 (codeN l q0) m2
         have hlab:ab.length+1+t=n0:=by
          have:=congrArg List.length b1
          rw[Bd]at this;simp at this;omega
         have e4:hb (codeN l q) n=(ab++true::List.replicate t false)++List.replicate (n-n0) false:=by
          have hp:=Z2u (codeN l q0+1) n0 (n-n0);rw[show n0+(n-n0)=n by omega,<-m3,b2]at hp;exact hp
         rw[b1]at e1;subst e1;have E4:=Ab e4
         have HCat1:Hid (((text (ab++false::List.replicate t true)).extract 0 ab.length++⟨#[49]⟩)++text (List.replicate t false)=text (ab++true::List.replicate t false)):=by
          rw[TQ,show (⟨#[49]⟩:ByteArray)=text [true] from rfl,Ot,Ot,VS];exact rfl
         have hcat2:text (ab++true::List.replicate t false)++text (List.replicate (n-n0) false)=text (hb (codeN l q) n):=by rw[Ot,Aa E4]
         have ts0:=Ct (ab++false::List.replicate t true);rw[show (ab++false::List.replicate t true).length=n0 by simp;omega]at ts0;have ts1:=Ct (ab++true::List.replicate t false);rw[show (ab++true::List.replicate t false).length=n0 by simp;omega]at ts1;have ts2:=Ct (List.replicate t false);rw[XD]at ts2;have ts3:=Ct (List.replicate (n-n0) false);rw[XD]at ts3;have HLast:=Ab (fun w=>Z17 ab t w (by omega));have hla:(ab.length:Int)<=(n0:Int):=by omega
         have hT:(n0:Int)-(ab.length:Int)-1=(t:Int):=by omega
         have hD2:(n:Int)-(n0:Int)=((n-n0:Nat):Int):=by omega
         have HTl:t<=15:=by omega
         clear hi0 hd0 hn0' m1 m2 m3 b1 b2 e4 hlab;generalize ab.length=la at*;generalize hTT:text (ab++false::List.replicate t true)=T0 at*;have HTT:=Ab hTT;clear hTT;go_wp2_with fail
         refine(Aa HLast _).mono ?_;rintro e w5 ⟨rfl,rfl⟩;go_wp2;go_quiet ((go_at_call 165;refine Calls.quiet_of_same (T6 t HTl _)))
         rw[Aa HCat1];go_wp2_with fail
         refine(T6 (n-n0) (by omega) _).mono ?_;rintro e w5 ⟨rfl,rfl⟩;rw[Aa HT]at HW HXn;have HWn:=Ab (Aa HW wr (Aa HO4));have cgA:=Ku cg (.cells #[.int .i64 (n:Int),.int .i64 (q:Int)] 230);have fgA:=Id fg hgw (.cells #[.int .i64 (n:Int),.int .i64 (q:Int)] 230);go_wp2;go_roundw
         case rel=>exact⟨i+1,hb (codeN l q) n,_,by omega,by go_num,rfl,Aa HCn,Aa HW ((wr.alloc _).drewN nq) ((Aa HO4).alloc _),Aa HXn,PS.other (a:=⟨g,q,none⟩) (PS.drewN ((Aa HP4).alloc (by omega) _) nq) hbg _,Below.setCell (p:=⟨g,q,none⟩) (Ae ((Aa HB4).alloc (by omega) _) nq) (by simp;omega) _,by simp;omega⟩
         case measure=>simp[intOf];omega
     . obtain rfl:i=N:=by omega
       have HF:Hid (xs=(List.range k).map fun q=>.string (text (codeT l q))):=Z47 (Aa HG) hl hxs (Aa HSd);clear hO hxs hP hB hcs;go_wp2;go_ret;exact⟨g,rfl,Aa HB4,by omega,by rw[<-Aa HF];exact Aa HO4⟩
end Go.Proofs.YtleocpdblhbimaaGreatDoor
