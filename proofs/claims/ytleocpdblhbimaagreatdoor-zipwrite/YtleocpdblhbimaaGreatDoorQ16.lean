import Derived.Test.YtleocpdblhbimaaGreatDoorQ15
import Derived.Maps.Own
import Derived.Maps.OwnSet
import Derived.Maps.Views
import Derived.StringKeys
set_option linter.unusedSimpArgs false
set_option maxHeartbeats 2000000
namespace Go.Proofs.YtleocpdblhbimaaGreatDoor
open Go.RowKit
set_option linter.unusedVariables false
set_option maxRecDepth 100000
theorem Vj (l:List Int):∀k x,x∈Bn l k->∃q:Nat,q<k/\0<l.getD q 0/\x=(l.getD q 0,(q:Int))
 |0,x,h=>by simp[Bn]at h
 |k+1,x,h=>by
  rw[Bn,WJ]at h
  rcases h with h|h
  . obtain⟨q,h1,h2,h3⟩:=Vj l k x h;exact⟨q,by omega,h2,h3⟩
  . by_cases e:0<l.getD k 0
    . rw[if_pos e]at h;exact⟨k,by omega,e,by simpa using h⟩
    . rw[if_neg e]at h;simp at h
theorem U9 (l:List Int):∀k (q:Nat),q<k->0<l.getD q 0->(l.getD q 0,(q:Int))∈Bn l k
 |0,q,h,_=>by omega
 |k+1,q,h,h2=>by
  rw[Bn,WJ]
  by_cases e:q=k
  . subst e;right;rw[if_pos h2];simp
  . left;exact U9 l k q (by omega) h2
theorem Xv (l:List Int):∀k,(Bn l k).Pairwise (fun x y=>x.2<y.2)
 |0=>List.Pairwise.nil
 |k+1=>by
  rw[Bn,List.pairwise_append];refine⟨Xv l k, ?_, ?_⟩
  . split<;>simp
  . intro x hx y hy;obtain⟨q,h1,_,h3⟩:=Vj l k x hx
    split at hy
    . simp at hy
      rw[h3,hy];simp only
      omega
    . simp at hy
theorem J5 (l:List Int):∀k,(Bn l k).length<=k
 |0=>by simp[Bn]
 |k+1=>by
  have:=J5 l k
  rw[Bn,VB]
  split<;>simp<;>omega
def dU (l:List Int):Nat->Int×Int:=fun k=>(Bn l l.length).getD k (0,0)
theorem Z2b (l:List Int):NR (dU l) 0 (Bn l l.length).length:=by
 intro i j _ hij hj;have h:=YB.1 (Xv l l.length) i j (by omega) hj hij;unfold dU;have e1:(Bn l l.length).getD i (0,0)=(Bn l l.length)[i]:=by simp[List.getD,show i<(Bn l l.length).length by omega]
 have e2:(Bn l l.length).getD j (0,0)=(Bn l l.length)[j]:=by simp[List.getD,hj]
 rw[e1,e2];exact h
theorem Z44 (l:List Int):Stab.seg (dU l) 0 (Bn l l.length).length=Bn l l.length:=by
 apply XK
 . simp[Stab.seg]
 . intro i h1 h2;simp[Stab.seg,dU,List.getD,h2]
structure Sorted (l:List Int)(N:Nat)(d:Nat->Int×Int):Prop where
 at':∀i,i<N->∃n q:Nat,d i=((n:Int),(q:Int))/\q<l.length/\l.getD q 0=(n:Int)/\0<n/\n<=15/\vsum d i=codeN l q*2^(15-n)
 srt:Stab.Srt Stab.lx d 0 N
 all:∀q:Nat,q<l.length->0<l.getD q 0->∃i,i<N/\d i=(l.getD q 0,(q:Int))
theorem GZ (l:List Int)(hG:Good l)(d:Nat->Int×Int)(hm:Stab.Moved 0 (Bn l l.length).length (dU l) d)(hs:Stab.Srt Stab.lx d 0 (Bn l l.length).length):Sorted l (Bn l l.length).length d:=by
 have hperm:(Stab.seg d 0 (Bn l l.length).length).Perm (Bn l l.length):=by
  have:=hm.perm
  rw[Z44]at this
  first|exact this|exact this.symm
 refine⟨fun i hi=> ?_,hs,fun q hq h0=> ?_⟩
 . have hmem:d i∈Stab.seg d 0 (Bn l l.length).length:=Stab.mem_seg.2 ⟨i,VK _,hi,rfl⟩;obtain⟨q,h1,h2,h3⟩:=Vj l _ _ (hperm.mem_iff.1 hmem);obtain⟨n,hn⟩:=VW (hG.ok q h1).1;have h15:=(hG.ok q h1).2;have hv:=R3 d _ hs hi;rw[NF _ hperm,h3,hn,NG l hG h1 hn (by omega)]at hv;exact⟨n,q,by rw[h3,hn],h1,hn,by omega,by omega,hv.symm⟩
 . have:=hperm.mem_iff.2 (U9 l _ q hq h0)
   obtain⟨i,_,hi,h⟩:=Stab.mem_seg.1 this;exact⟨i,hi,h⟩
theorem Sorted.first {l:List Int}{N:Nat}{d:Nat->Int×Int}(h:Sorted l N d){n q:Nat}(hN:0<N)(hd:d 0=((n:Int),(q:Int))):codeN l q=0:=by
 obtain⟨n',q',e,_,_,_,_,hv⟩:=h.at' 0 hN;rw[hd]at e;have e2:q=q':=by have:=congrArg Prod.snd e;simp at this;omega
 subst e2;have:codeN l q*2^(15-n')=0:=hv.symm
 rcases Nat.mul_eq_zero.1 this with h|h
 . exact h
 . have:=Nat.pow_pos (n:=15-n') (show 0<2 by decide);omega
theorem Sorted.next {l:List Int}(hG:Good l){N:Nat}{d:Nat->Int×Int}(h:Sorted l N d){i n q n' q':Nat}(hi:i+1<N)(hd:d i=((n:Int),(q:Int)))(hd':d (i+1)=((n':Int),(q':Int))):n<=n'/\codeN l q+1<2^n/\codeN l q'=(codeN l q+1)*2^(n'-n):=by
 obtain⟨a,b,e,_,_,_,ha15,hv⟩:=h.at' i (by omega);obtain⟨a',b',e',hb',hx',ha0',ha15',hv'⟩:=h.at' (i+1) hi;rw[hd]at e;rw[hd']at e';have e1:n=a:=by have:=congrArg Prod.fst e;simp at this;omega
 have e2:q=b:=by have:=congrArg Prod.snd e;simp at this;omega
 have e3:n'=a':=by have:=congrArg Prod.fst e';simp at this;omega
 have e4:q'=b':=by have:=congrArg Prod.snd e';simp at this;omega
 subst e1 e2 e3 e4;have hlx:=h.srt i (i+1) (VK _) (by omega) hi;rw[hd,hd']at hlx;have hle:n<=n':=by unfold Stab.lx at hlx;simp only at hlx;omega
 have hw:wt (d i)=2^(15-n):=by rw[hd];simp[wt]
 rw[vsum,hv,hw]at hv';have hp:2^(15-n)=2^(n'-n)*2^(15-n'):=by rw[<-ZQ];congr 1;omega
 have h1:((codeN l q+1)*2^(n'-n))*2^(15-n')=codeN l q'*2^(15-n'):=by
  rw[<-hv',XS,<-hp,ZP,Nat.one_mul]
 have h2:=Nat.eq_of_mul_eq_mul_right (Nat.pow_pos (n:=15-n') (show 0<2 by decide)) h1;have hlt:=(Gr l hG hb' hx' ha0').2.2;rw[<-h2]at hlt;have h3:2^n'=2^n*2^(n'-n):=by rw[<-ZQ];congr 1;omega
 rw[h3]at hlt;exact⟨hle,Nat.lt_of_mul_lt_mul_right hlt,h2.symm⟩
def Je (xs:List (Int×Int)):List Value:=xs.flatMap fun p=> [.int .i64 p.1,.int .i64 p.2]
theorem Xc (xs ys:List (Int×Int)):Je (xs++ys)=Je xs++Je ys:=by simp[Je]
theorem F5:∀(xs:List (Int×Int)) (k:Nat),k<xs.length->(Je xs)[k*2]? =some (.int .i64 (xs.getD k (0,0)).1)/\(Je xs)[k*2+1]? =some (.int .i64 (xs.getD k (0,0)).2)
 | [],k,h=>by simp at h
 |x::r,0,_=>by simp[Je]
 |x::r,k+1,h=>by
  have ih:=F5 r k (by simpa using h);have e:Je (x::r)=.int .i64 x.1::.int .i64 x.2::Je r:=by simp[Je]
  rw[e,show (k+1)*2=k*2+1+1 by omega];simpa using ih
theorem Z1w:(Tryz.prog.info? 9).map (fun i=>(i.zero,i.size,i.bytes))=some (some (.string ByteArray.empty),1,16):=by kernel_rfl
theorem Z3y:(Tryz.prog.info? 230).map (fun i=>(i.zero,i.size,i.bytes))=some (some (.agg #[.int .i64 0,.int .i64 0]),2,16):=by kernel_rfl
theorem Y7 {w:World}{B e size n:Nat}{v:Value}{xs:List Value}(h:w.ownsRow B e size v n xs){b:Nat}(hb:b<B):v.ownBlock≠some b:=by
 intro e;have:=(h.lt b e).1
 omega
theorem JA {w:World}{B e size n:Nat}{v:Value}{xs:List Value}(h:w.ownsRow B e size v n xs):∃a c,v=.slice a n c/\(n=0\/∃g,a=some ⟨g,0,none⟩/\B<=g/\g<w.heap.size):=by
 rcases h.2 with ⟨h1,h2⟩|⟨g,cap,cur,h1,h2,h3⟩
 . subst h2;exact⟨none,0,h1,.inl rfl⟩
 . exact⟨_,_,h1,.inr ⟨g,rfl,h2,(h.lt g (by rw[h1];rfl)).2⟩⟩
theorem Kn {w:World}{b o:Nat}{v:Value}(h:w.cell? ⟨b,o,none⟩=some v)(x:Obj):(w.alloc x).cell? ⟨b,o,none⟩=some v:=by
 rw[World.cell?_alloc_past _ _ _ (block_lt_of_cell h)];exact h
theorem Hs {w:World}{b o:Nat}(h:w.frozen? ⟨b,o,none⟩=false)(hb:b<w.heap.size)(x:Obj):(w.alloc x).frozen? ⟨b,o,none⟩=false:=by
 have:=((Below.refl w.heap.size w).alloc (VC _) x).frozen (p:=⟨b,o,none⟩) hb
 rw[this];exact h
theorem On (a b:List Bool):text a++text b=text (a++b):=by
 apply ByteArray.ext
 simp[text]
theorem OX (a b:List Bool):(text (a++b)).extract 0 a.length=text a:=by
 apply ByteArray.ext
 simp[text]
theorem PS.other {N bp:Nat}{d:Nat->Int×Int}{W:World}(hP:PS N bp d W){a:Addr}(hb:bp≠a.block)(v:Value):PS N bp d (W.setCell a v):=by
 intro k hk;have hbk:=Below.heap_setCell W a v bp hb;rw[World.cell?_of_block (a:=⟨bp,k*2,none⟩) hbk,World.frozen?_of_block (a:=⟨bp,k*2,none⟩) hbk,World.cell?_of_block (a:=⟨bp,k*2+1,none⟩) hbk,World.frozen?_of_block (a:=⟨bp,k*2+1,none⟩) hbk];exact hP k hk
structure OutTo (l:List Int)(at':Nat->Nat)(len i:Nat)(xs:List Value):Prop where
 size:xs.length=len
 set:∀j,j<i->xs[at' j]? =some (.string (text (codeT l (at' j))))
 or':∀q,q<len->xs[q]? =some (.string (text (codeT l q)))\/xs[q]? =some (.string (text []))
theorem QA {l:List Int}{at':Nat->Nat}{len i q:Nat}{xs:List Value}(h:OutTo l at' len i xs)(hq:at' i=q)(hl:q<len):OutTo l at' len (i+1) (xs.set q (.string (text (codeT l q)))):=by
 refine⟨by rw[YD];exact h.size,fun j hj=> ?_,fun r hr=> ?_⟩
 . rw[YJ]
   by_cases e:q=at' j
   . rw[if_pos e,if_pos (by rw[h.size];omega),<-e]
   . rw[if_neg e]
     by_cases ej:j=i
     . subst ej;exact absurd hq.symm e
     . exact h.set j (by omega)
 . rw[YJ]
   by_cases e:q=r
   . subst e;rw[if_pos rfl,if_pos (by rw[h.size];omega)];exact .inl rfl
   . rw[if_neg e];exact h.or' r hr
theorem Z19 {l:List Int}{d:Nat->Int×Int}{len N:Nat}{xs:List Value}(hG:Good l)(hl:l.length=len)(h:OutTo l (fun i=>(d i).2.toNat) len N xs)(hs:Sorted l N d):xs=(List.range len).map fun q=>.string (text (codeT l q)):=by
 apply List.ext_getElem?
 intro q
 by_cases hq:q<len
 . have e:((List.range len).map fun q=>Value.string (text (codeT l q)))[q]? =some (.string (text (codeT l q))):=by simp[hq]
   rw[e]
   by_cases h0:0<l.getD q 0
   . obtain⟨i,hi,hd⟩:=hs.all q (by omega) h0;have:=h.set i hi
     rw[hd]at this;simpa using this
   . have hz:l.getD q 0=0:=by have:=(hG.ok q (by omega)).1;omega
     have ht:codeT l q= []:=by unfold codeT;rw[hz];rfl
     rcases h.or' q hq with h|h
     . exact h
     . rw[ht];exact h
 . have h1:xs[q]? =none:=by simp;rw[h.size];omega
   have h2:((List.range len).map fun q=>Value.string (text (codeT l q)))[q]? =none:=WN (by simp;omega);rw[h1,h2]
def Z04 (l:List Int)(d:Nat->Int×Int)(i:Nat)(cs:List Bool):Prop:=(i=0/\cs= [])\/ (0<i/\∃n q:Nat,d (i-1)=((n:Int),(q:Int))/\cs=hb (codeN l q) n/\n<=15)
theorem Q6 (a:Option Addr)(len cap:Nat)(l:List Int)(w:World)(hl:l.length=len)(hR:RowIn .i64 w a l)(hG:Good l):
 Calls Tryz.prog 125 #[.slice a len cap] w fun e w'=>∃g,e=.returned (.slice (some ⟨g,0,none⟩) len len)/\Below w.heap.size w w'/\w.heap.size<=g/\
  w'.ownsRow w.heap.size 9 1 (.slice (some ⟨g,0,none⟩) len len) len ((List.range len).map fun q=>.string (text (codeT l q))):=by
 obtain⟨i0,hi,hz0,hz1,hz2⟩:=info_parts Z3y;have hlen:=hG.len;have HG:=Ab hG;have HR:=Ab hR;have HL:=Ab hl;clear hR hG;go_enter Tryz.func125,Tryz.ntmps125
 go_wp2;have hs0:w.heap.size+1<=(w.alloc (.cells #[.slice none 0 0] 228)).heap.size:=by simp
 have HO0:=Ab (World.ownsRow_nil (w.alloc (.cells #[.slice none 0 0] 228)) (w.heap.size+1) 230 2);have HB0:=Ab ((Below.refl w.heap.size w).alloc (VC _) (.cells #[.slice none 0 0] 228));go_loopw [13] (fun i wr=>∃(k:Nat) (v:Value),k<=len/\i=.int .i64 (k:Int)/\wr.cell? ⟨w.heap.size,0,none⟩=some v/\wr.frozen? ⟨w.heap.size,0,none⟩=false/\wr.ownsRow (w.heap.size+1) 230 2 v (Bn l k).length (Je (Bn l k))/\Below w.heap.size w wr/\w.heap.size+1<=wr.heap.size) (fun i _=>len-(intOf i).toNat)
 case atStart=>exact⟨0,_,VK _,rfl,by simp,by simp,Aa HO0,Aa HB0,hs0⟩
 case round=>
  obtain⟨k,v,hk,rfl,hc,hf,hO,hB,hs⟩:=hrel;have HO:=Ab hO;have HB:=Ab hB;obtain⟨va,vc,rfl,hva⟩:=JA hO
  by_cases hlt:k<len
  . have hlk:k<l.length:=by omega
    obtain⟨b,o,rfl,hb,hRw⟩:∃b o,a=some ⟨b,o,none⟩/\b<w.heap.size/\Row .i64 w b o l:=by
     rcases Aa HR with rfl|h
     . simp at hlk
     . exact h
    have c1:=(hB.cell (p:=⟨b,o+k,none⟩) hb).trans (hRw k hlk);have HN:Hid (Bn l (k+1)=Bn l k++(if 0<l.getD k 0 then [(l.getD k 0,(k:Int))]else [])):=rfl;have hul:=J5 l k;clear hO hB hRw HO0 HB0;generalize l.getD k 0=x at*
    by_cases hx:0<x
    . rw[if_pos hx]at HN;generalize hnu:(Bn l k).length=nu at*;have HNU:=Ab hnu;clear hnu;go_wp2_with (at_builtin;refine wpList_append_own _ rfl _ _ 228 rfl (w.heap.size+1) 230 i0 (.agg #[.int .i64 0,.int .i64 0]) 2 16 Tryz.underlying228 hi hz0 hz1 hz2 rfl (by decide) _ _ _ rfl ((Aa HO).alloc _) ⟨wr.heap.size,0,none⟩ 1 1 [.int .i64 x,.int .i64 (k:Int)] rfl rfl (by intro j u hj;match j,hj with|0,hj=>simp at hj;subst hj;simp[Addr.add]|1,hj=>simp at hj;subst hj;simp[Addr.add]) (by intro u hu;simp at hu;rcases hu with rfl|rfl<;>rfl) (by unfold maxLen;omega) (by omega) (by simp;omega) ?_)
      intro v' w1 hO1 hgrow _;have hne:=Y7 (Aa HO) (b:=w.heap.size) (by omega);have hxs:w.heap.size<wr.heap.size:=by omega
      have hbk:=hgrow.block w.heap.size (by simp;omega) (fun e=>hne e.symm)
      have c3:w1.cell? ⟨w.heap.size,0,none⟩=some (.slice va nu vc):=by
       rw[World.cell?_of_block hbk];exact Kn hc _
      have f3:w1.frozen? ⟨w.heap.size,0,none⟩=false:=by
       rw[World.frozen?_of_block hbk];exact Hs hf hxs _
      obtain⟨va',vc',rfl,_⟩:=JA hO1;have HO1:=Ab (hO1.kept (Ad w1 w.heap.size 0 (.slice va' (nu+1) vc')) (.inr (Y7 hO1 (by omega))));have HB1:=Ab ((((Aa HB).alloc (by omega) (.cells #[.int .i64 x,.int .i64 (k:Int)] 230)).grown hgrow (by simp;omega) (fun j hj=>by have:=((Aa HO).lt j hj).1;omega)).setCell (p:=⟨w.heap.size,0,none⟩) (VC _) (.slice va' (nu+1) vc'))
      have hs1:w.heap.size+1<=(w1.setCell ⟨w.heap.size,0,none⟩ (.slice va' (nu+1) vc')).heap.size:=by
       have:=hgrow.size
       simp only[World.size_alloc]at this;simp;omega
      clear hO1 hgrow hbk HO HB hc hf;go_wp2;go_roundw
      case rel=>
       refine⟨k+1,_,by omega,by go_num,World.cell?_setCell_same _ _ _ c3,by rw[World.frozen?_setCell];exact f3, ?_,Aa HB1,hs1⟩;rw[Aa HN,Xc,VB,Aa HNU];exact Aa HO1
      case measure=>simp[intOf];omega
    . rw[if_neg hx,WZ]at HN;go_wp2;go_roundw
      case rel=>exact⟨k+1,_,by omega,by go_num,hc,hf,by rw[Aa HN];exact Aa HO,Aa HB,hs⟩
      case measure=>simp[intOf];omega
  . obtain rfl:k=len:=by omega
    have eU:Bn l k=Bn l l.length:=by rw[hl]
    have hNle:(Bn l k).length<=288:=by have:=J5 l k;omega
    obtain⟨bp,hb1,hb2,hb3,hb4⟩:∃bp,((Bn l k).length=0\/va=some ⟨bp,0,none⟩)/\((Bn l k).length=0\/bp<wr.heap.size)/\w.heap.size≠bp/\w.heap.size+1<=bp:=by
     rcases hva with h|⟨g,h1,h2,h3⟩
     . exact⟨w.heap.size+1,.inl h,.inl h,by omega,by omega⟩
     . exact⟨g,.inr h1,.inr h3,by omega,h2⟩
    have HPS:Hid (PS (Bn l k).length bp (dU l) wr):=by
     intro j hj
     have hp1:va=some ⟨bp,0,none⟩:=by
      rcases hb1 with h|h
      . omega
      . exact h
     subst hp1;obtain⟨q1,q2⟩:=F5 (Bn l k) j hj;have e:dU l j=(Bn l k).getD j (0,0):=by unfold dU;rw[eU]
     rw[e];exact⟨⟨(hO.cellAt (j*2) (by omega)).trans q1,hO.frozenAt _⟩,⟨(hO.cellAt (j*2+1) (by omega)).trans q2,hO.frozenAt _⟩⟩
    have HRi:Hid (NR (dU l) 0 (Bn l k).length):=by rw[eU];exact Z2b l
    have HSO:Hid (∀d,Stab.Moved 0 (Bn l k).length (dU l) d->Stab.Srt Stab.lx d 0 (Bn l k).length->Sorted l (Bn l k).length d):=by
     rw[eU];exact fun d=>GZ l (Aa HG) d
    have hmf:∀(fn:Fn) (first cap:Array Value) (w:World),(Instr.makeFunc fn first cap).run Tryz.prog w=.ok (.func fn first cap) w:=fun _ _ _ _=>rfl
    clear hO hB HO0 HB0 eU hva;generalize (Bn l k).length=N at*;generalize Bn l k=U at*;go_wp2_with fail
    refine(Qf N bp w.heap.size vc va (dU l) wr hNle hb1 hb2 (by omega) hb3 hc (Aa HPS) (Aa HRi)).mono ?_;rintro e w2 ⟨rfl,d,p1,p2,p3,g2⟩;have HSd:=Ab (Aa HSO d p2 p3);have HP2:=Ab p1;have c2:=g2.cell hc (by simpa using hb3);have HB2:=Ab ((Aa HB).grown g2 (by omega) (fun j h=>by cases h;omega));have hz2':=g2.size;clear p1 p2 p3 g2 hc hf HPS HRi HSO HO HB hmf;obtain⟨i1,hi1,y0,y1,y2⟩:=info_parts Z1w;go_wp2_with (at_make;refine wpList_make_full _ rfl _ _ 43 rfl w.heap.size 9 i1 (.string ByteArray.empty) 1 Tryz.underlying43 hi1 y0 y1 _ _ _ _ k rfl rfl rfl rfl (by rw[y2];omega) (by unfold maxLen;omega) (by omega) ?_)
    intro w3 hown3 hgrow3
    have e0:(madeCells #[Value.string ByteArray.empty] k).toList=List.replicate k (.string (text [])):=by
     rw[toList_madeCells_one];rfl
    rw[e0]at hown3;have HO3:=Ab hown3;have hgl:=(hown3.lt _ rfl).2;have HB3:=Ab (Gz (Aa HB2) hgrow3 (by omega))
    have HP3:Hid (PS N bp d w3):=by
     by_cases h0:N=0
     . subst h0;intro j hj;omega
     . exact(Aa HP2).kept hgrow3 (by omega)
    have c3:=hgrow3.cell c2 (by simp);have hgN:N=0\/bp<w2.heap.size:=by omega
    have hz3:=hgrow3.size;have hG2:w.heap.size+1<=w2.heap.size:=by omega
    have HXS:Hid (OutTo l (fun i=>(d i).2.toNat) k 0 (List.replicate k (.string (text [])))):=⟨by simp,fun i h=>by omega,fun q hq=>.inr (by simp[hq])⟩
    clear hown3 hgrow3 e0 HP2 HB2 c2 hi1 y0 y1 y2 i1;generalize w2.heap.size=g at*;go_wp2;go_loopw [7,36] (fun vc vi wq=>∃(i:Nat) (cs:List Bool) (xs:List Value),i<=N/\vi=.int .i64 (i:Int)/\vc=.string (text cs)/\Z04 l d i cs/\wq.ownsRow w.heap.size 9 1 (.slice (some ⟨g,0,none⟩) k k) k xs/\OutTo l (fun i=>(d i).2.toNat) k i xs/\PS N bp d wq/\Below w.heap.size w wq/\g<wq.heap.size) (fun _ vi _=>N-(intOf vi).toNat)
    case atStart=>exact⟨0,[],_,VK _,rfl,rfl,.inl ⟨rfl,rfl⟩,Aa HO3,Aa HXS,Aa HP3,Aa HB3,hgl⟩
    case round=>
     obtain⟨i,cs,xs,hiN,rfl,rfl,hcs,hO,hxs,hP,hB,hgw⟩:=hrel;have HO4:=Ab hO;have HX4:=Ab hxs;have HP4:=Ab hP;have HB4:=Ab hB;have HCS:=Ab hcs
     by_cases hlt:i<N
     . obtain⟨n,q,hd,hq,hlq,hn0,hn15,_⟩:=(Aa HSd).at' i hlt;have c1:=(hP i hlt).1.1;have c2:=(hP i hlt).2.1;rw[hd]at c1 c2;simp only at c1 c2
       have HD:=Ab hd;obtain⟨y,hy⟩:∃y,xs[q]? =some y:=⟨xs[q]'(by rw[hO.1];omega),by simp⟩
       have hqk:(q:Int)<(k:Int):=by omega
       have cg:=(hO.cellAt q (by omega)).trans hy;have fg:=hO.frozenAt q;clear hO hxs hP hB hcs hd hy;have HW:Hid (∀wz:World,wz.ownsRow w.heap.size 9 1 (.slice (some ⟨g,0,none⟩) k k) k xs->(wz.setCell ⟨g,q,none⟩ (.string (text (codeT l q)))).ownsRow w.heap.size 9 1 (.slice (some ⟨g,0,none⟩) k k) k (xs.set q (.string (text (codeT l q))))):=fun wz h=>(h.stored q _).1
       have HXn:Hid (OutTo l (fun i=>(d i).2.toNat) k (i+1) (xs.set q (.string (text (codeT l q))))):=QA (Aa HX4) (by rw[Aa HD];simp) (by omega);have HCn:Hid (Z04 l d (i+1) (hb (codeN l q) n)):=.inr ⟨by omega,n,q,Aa HD,rfl,hn15⟩;have HT:Hid (codeT l q=hb (codeN l q) n):=by unfold Hid codeT;rw[hlq];simp
       have hbg:bp≠g:=by omega
       obtain rfl:va=some ⟨bp,0,none⟩:=by
        rcases hb1 with h|h
        . omega
        . exact h
       by_cases hi0:i=0
       . have e1:cs= []:=by
          rcases Aa HCS with ⟨_,h⟩|⟨h,_⟩
          . exact h
          . omega
         subst e1;have hno:¬(0:Int)<(i:Int):=by omega
         have e2:codeN l q=0:=(Aa HSd).first (by omega) (by rw[<-hi0];exact Aa HD);have e3:hb (codeN l q) n=List.replicate n false:=by rw[e2,KY]
         have E3:=Ab e3;have ts:(text []).size=0:=rfl;have ts2:=Cl (List.replicate n false);rw[VV]at ts2;clear e2 e3 hi0;have hcat:text []++text (List.replicate n false)=text (hb (codeN l q) n):=by rw[On,List.nil_append,Aa E3]
         go_wp2_with fail
         refine(L7 n hn15 _).mono ?_;rintro e w5 ⟨rfl,rfl⟩;rw[Aa HT]at HW HXn;have HWn:=Ab (Aa HW wr (Aa HO4));have cgA:=Kn cg (.cells #[.int .i64 (n:Int),.int .i64 (q:Int)] 230);have fgA:=Hs fg hgw (.cells #[.int .i64 (n:Int),.int .i64 (q:Int)] 230);go_wp2;go_roundw
         case rel=>exact⟨i+1,hb (codeN l q) n,_,by omega,by go_num,rfl,Aa HCn,(Aa HWn).alloc _,Aa HXn,((Aa HP4).other hbg _).alloc (by simp;omega) _,((Aa HB4).setCell (p:=⟨g,q,none⟩) (by simp;omega) _).alloc (by simp;omega) _,by simp;omega⟩
         case measure=>simp[intOf];omega
       . obtain⟨n0,q0,hd0,e1,hn0'⟩:∃n0 q0:Nat,d (i-1)=((n0:Int),(q0:Int))/\cs=hb (codeN l q0) n0/\n0<=15:=by
          rcases Aa HCS with ⟨h,_⟩|⟨_,h⟩
          . omega
          . exact h
         have hyes:(0:Int)<(i:Int):=by omega
         obtain⟨m1,m2,m3⟩:=(Aa HSd).next (Aa HG) (i:=i-1) (by omega) hd0 (by rw[show i-1+1=i by omega];exact Aa HD);obtain⟨ab,t,b1,b2⟩:=TT n0 (codeN l q0) m2
         have hlab:ab.length+1+t=n0:=by
          have:=congrArg List.length b1
          rw[Az]at this;simp at this;omega
         have e4:hb (codeN l q) n=(ab++true::List.replicate t false)++List.replicate (n-n0) false:=by
          have hp:=TS (codeN l q0+1) n0 (n-n0);rw[show n0+(n-n0)=n by omega,<-m3,b2]at hp;exact hp
         rw[b1]at e1;subst e1;have E4:=Ab e4
         have HCat1:Hid (((text (ab++false::List.replicate t true)).extract 0 ab.length++⟨#[49]⟩)++text (List.replicate t false)=text (ab++true::List.replicate t false)):=by
          rw[OX,show (⟨#[49]⟩:ByteArray)=text [true] from rfl,On,On,VH];exact rfl
         have hcat2:text (ab++true::List.replicate t false)++text (List.replicate (n-n0) false)=text (hb (codeN l q) n):=by rw[On,Aa E4]
         have ts0:=Cl (ab++false::List.replicate t true);rw[show (ab++false::List.replicate t true).length=n0 by simp;omega]at ts0;have ts1:=Cl (ab++true::List.replicate t false);rw[show (ab++true::List.replicate t false).length=n0 by simp;omega]at ts1;have ts2:=Cl (List.replicate t false);rw[VV]at ts2;have ts3:=Cl (List.replicate (n-n0) false);rw[VV]at ts3;have HLast:=Ab (fun w=>QZ ab t w (by omega));have hla:(ab.length:Int)<=(n0:Int):=by omega
         have hT:(n0:Int)-(ab.length:Int)-1=(t:Int):=by omega
         have hD2:(n:Int)-(n0:Int)=((n-n0:Nat):Int):=by omega
         have HTl:t<=15:=by omega
         clear hi0 hd0 hn0' m1 m2 m3 b1 b2 e4 hlab;generalize ab.length=la at*;generalize hTT:text (ab++false::List.replicate t true)=T0 at*;have HTT:=Ab hTT;clear hTT;go_wp2_with fail
         refine(Aa HLast _).mono ?_;rintro e w5 ⟨rfl,rfl⟩;go_wp2;go_quiet ((go_at_call 165;refine Calls.quiet_of_same (L7 t HTl _)))
         rw[Aa HCat1];go_wp2_with fail
         refine(L7 (n-n0) (by omega) _).mono ?_;rintro e w5 ⟨rfl,rfl⟩;rw[Aa HT]at HW HXn;have HWn:=Ab (Aa HW wr (Aa HO4));have cgA:=Kn cg (.cells #[.int .i64 (n:Int),.int .i64 (q:Int)] 230);have fgA:=Hs fg hgw (.cells #[.int .i64 (n:Int),.int .i64 (q:Int)] 230);go_wp2;go_roundw
         case rel=>exact⟨i+1,hb (codeN l q) n,_,by omega,by go_num,rfl,Aa HCn,Aa HW ((wr.alloc _).drewN nq) ((Aa HO4).alloc _),Aa HXn,PS.other (a:=⟨g,q,none⟩) (PS.drewN ((Aa HP4).alloc (by omega) _) nq) hbg _,Below.setCell (p:=⟨g,q,none⟩) (Af ((Aa HB4).alloc (by omega) _) nq) (by simp;omega) _,by simp;omega⟩
         case measure=>simp[intOf];omega
     . obtain rfl:i=N:=by omega
       have HF:Hid (xs=(List.range k).map fun q=>.string (text (codeT l q))):=Z19 (Aa HG) hl hxs (Aa HSd);clear hO hxs hP hB hcs;go_wp2;go_ret;exact⟨g,rfl,Aa HB4,by omega,by rw[<-Aa HF];exact Aa HO4⟩
def Kf (l:List Int):Nat->Nat
 |0=>0
 |k+1=>Kf l k+(if 0<l.getD k 0 then 2^(15-(l.getD k 0).toNat)else 0)
theorem X6 (l:List Int):∀k,Kf l k<=32768*k
 |0=>by simp[Kf]
 |k+1=>by
  have ih:=X6 l k
  have:2^(15-(l.getD k 0).toNat)<=32768:=by
   have:=VU (n:=2) (by decide) (show 15-(l.getD k 0).toNat<=15 by omega)
   omega
  rw[Kf]
  split<;>omega
theorem Hj (l:List Int)(hok:∀j,j<l.length->0<=l.getD j 0/\l.getD j 0<=15):∀k,k<=l.length->Kf l k=takenN (cnt (l.take k)) 15
 |0,_=>by
  show 0=takenN (cnt []) 15
  decide
 |k+1,hk=>by
  have ih:=Hj l hok k (by omega);have hkl:k<l.length:=by omega
  obtain⟨m,hm⟩:=VW (hok k hkl).1;have h15:=(hok k hkl).2;rw[Kf,ih,<-Hv l hkl hm,hm];rw[hm]at h15
  by_cases h0:m=0
  . subst h0;rw[Mu];simp
  . rw[Py _ m (by omega) (by omega) 15 (by omega),if_pos (show (0:Int)<(m:Int) by omega),if_pos (by omega),WD]
theorem PM (m:Nat)(hm:m<=15):(32768:Int)/2^m=((2^(15-m):Nat):Int):=by
 have h:(2:Nat)^(15-m)*2^m=32768:=by rw[<-ZQ,show 15-m+m=15 by omega]
 have h2:((2^(15-m):Nat):Int)*((2^m:Nat):Int)=32768:=by exact_mod_cast h
 have hp:(0:Int)<((2^m:Nat):Int):=by exact_mod_cast Nat.pow_pos (n:=m) (show 0<2 by decide)
 have e:(2:Int)^m=((2^m:Nat):Int):=by push_cast;rfl
 rw[e,<-h2,Int.mul_ediv_cancel _ (by omega)]
theorem PP (a:Option Addr)(len cap:Nat)(l:List Int)(w:World)(hl:l.length=len)(hlen:len<=288)(hR:RowIn .i64 w a l)(hok:∀j,j<l.length->0<=l.getD j 0/\l.getD j 0<=15):
 Calls Tryz.prog 161 #[.slice a len cap] w fun e w'=>e=.returned (.int .i64 ((takenN (cnt l) 15:Nat):Int))/\w'=w:=by
 have HR:=Ab hR;have HOK:=Ab hok
 have HF:Hid (Kf l len=takenN (cnt l) 15):=by
  have:=Hj l hok l.length (VC _)
  rw[YT]at this;rw[<-hl];exact this
 clear hR hok;go_enter Tryz.func161,Tryz.ntmps161
 go_wp2;go_loop [3,8] (fun s i=>∃k:Nat,k<=len/\i=.int .i64 (k:Int)/\s=.int .i64 ((Kf l k:Nat):Int)) (fun _ i=>len-(intOf i).toNat)
 case atStart=>exact⟨0,VK _,rfl,rfl⟩
 case round=>
  obtain⟨k,hk,rfl,rfl⟩:=hrel
  by_cases hlt:k<len
  . have hlk:k<l.length:=by omega
    obtain⟨b,o,rfl,hb,hRw⟩:∃b o,a=some ⟨b,o,none⟩/\b<w.heap.size/\Row .i64 w b o l:=by
     rcases Aa HR with rfl|h
     . simp at hlk
     . exact h
    have c1:=hRw k hlk;obtain⟨m,hm⟩:=VW (Aa HOK k hlk).1;have h15:=(Aa HOK k hlk).2;have HU:Hid (Kf l (k+1)=Kf l k+(if 0<l.getD k 0 then 2^(15-(l.getD k 0).toNat)else 0)):=rfl;have hle:=X6 l k;rw[hm]at c1 h15 HU;rw[WD]at HU;have hm15:m<=15:=by omega
    have hsh:=PM m hm15
    have hp15:2^(15-m)<=32768:=by
     have:=VU (n:=2) (by decide) (show 15-m<=15 by omega)
     omega
    clear hRw hm;generalize Kf l k=u at*;generalize 2^(15-m)=z at*
    by_cases hx0:(0:Int)<(m:Int)
    . rw[if_pos hx0]at HU;go_wp2;go_round
      case rel=>exact⟨k+1,by omega,by go_num,by rw[Aa HU];go_num⟩
      case measure=>simp[intOf];omega
    . rw[if_neg hx0]at HU;go_wp2;go_round
      case rel=>exact⟨k+1,by omega,by go_num,by rw[Aa HU];rfl⟩
      case measure=>simp[intOf];omega
  . obtain rfl:k=len:=by omega
    go_wp2;go_ret;exact⟨Cz (by rw[Aa HF]),rfl⟩
theorem Fb (a:Option Addr)(len cap:Nat)(l:List Int)(w:World)(hl:l.length=len)(hM:len<=9223372036854775807)(hR:RowIn .i64 w a l):
 Calls Tryz.prog 124 #[.slice a len cap] w fun e w'=>e=.returned (.int .i64 (errL l))/\w'=w:=by
 by_cases hm:288<len
 . have e:errL l=2:=by unfold errL;rw[if_pos (by omega)]
   rw[e];clear e hR;go_enter Tryz.func124,Tryz.ntmps124
   go_wp2;go_ret;exact⟨rfl,rfl⟩
 . rcases Mc (fun j=>Qt (l.getD j 0)) len with hf|⟨j0,hj0,hbad,hf⟩
   . have hn:¬ ∃j,j<l.length/\Qt (l.getD j 0)=false:=by
      rintro ⟨j,hj,e⟩;have:=hf j (by omega)
      simp only[e]at this
      cases this
     have e:errL l=if 32768<takenN (cnt l) 15 then 8 else 0:=by unfold errL;rw[if_neg (by omega),if_neg hn]
     have HRoom:=Ab (PP a len cap l w hl (by omega) hR (fun j hj=>Dk (hf j (by omega))));have HR:=Ab hR;have HOK:Hid (∀j,j<len->0<=l.getD j 0/\l.getD j 0<=15):=fun j hj=>Dk (hf j hj)
     rw[e];clear hR hf hn e;go_enter Tryz.func124,Tryz.ntmps124
     go_wp2;go_loop [10] (fun i=>∃k:Nat,k<=len/\i=.int .i64 (k:Int)) (fun i=>len-(intOf i).toNat)
     case atStart=>exact⟨0,VK _,rfl⟩
     case round=>
      obtain⟨k,hk,rfl⟩:=hrel
      by_cases hlt:k<len
      . have hlk:k<l.length:=by omega
        obtain⟨b,o,rfl,hb,hRw⟩:∃b o,a=some ⟨b,o,none⟩/\b<w.heap.size/\Row .i64 w b o l:=by
         rcases Aa HR with rfl|h
         . simp at hlk
         . exact h
        have c1:=hRw k hlk;obtain⟨h1,h2⟩:=Aa HOK k hlt;clear hRw;generalize l.getD k 0=x at*;have h1':¬x<0:=by omega
        have h2':¬15<x:=by omega
        go_wp2;go_round
        case rel=>exact⟨k+1,by omega,by go_num⟩
        case measure=>simp[intOf];omega
      . obtain rfl:k=len:=by omega
        go_wp2_with fail
        refine(Aa HRoom).mono ?_;rintro e w1 ⟨rfl,rfl⟩
        by_cases ht:32768<takenN (cnt l) 15
        . go_wp2;go_ret;exact⟨by first|rfl|(rw[if_pos ht];rfl),rfl⟩
        . go_wp2;go_ret;exact⟨by first|rfl|(rw[if_neg ht];rfl),rfl⟩
   . have e:errL l=3:=by unfold errL;rw[if_neg (by omega),if_pos ⟨j0,by omega,hbad⟩]
     rw[e]
     obtain⟨b,o,rfl,hb,hRw⟩:∃b o,a=some ⟨b,o,none⟩/\b<w.heap.size/\Row .i64 w b o l:=by
      rcases hR with rfl|h
      . simp at hl;omega
      . exact h
     have HRw:=Ab hRw;have HF:Hid (∀j,j<j0->0<=l.getD j 0/\l.getD j 0<=15):=fun j hj=>Dk (hf j hj)
     have HBad:=Ab (Kg hbad);clear hR hf hbad e hRw;go_enter Tryz.func124,Tryz.ntmps124
     go_wp2;go_loop [10] (fun i=>∃k:Nat,k<=j0/\i=.int .i64 (k:Int)) (fun i=>len-(intOf i).toNat)
     case atStart=>exact⟨0,VK _,rfl⟩
     case round=>
      obtain⟨k,hk,rfl⟩:=hrel;have c1:=Aa HRw k (by omega)
      by_cases hlt:k<j0
      . obtain⟨h1,h2⟩:=Aa HF k hlt;generalize l.getD k 0=x at*;have h1':¬x<0:=by omega
        have h2':¬15<x:=by omega
        go_wp2;go_round
        case rel=>exact⟨k+1,by omega,by go_num⟩
        case measure=>simp[intOf];omega
      . obtain rfl:k=j0:=by omega
        have hb2:=Aa HBad;generalize l.getD k 0=x at*
        by_cases h1:x<0
        . clear hb2;go_wp2;go_ret;exact⟨rfl,rfl⟩
        . have h2:15<x:=by omega
          clear hb2;go_wp2;go_ret;exact⟨rfl,rfl⟩
end Go.Proofs.YtleocpdblhbimaaGreatDoor
namespace Go.Proofs.YtleocpdblhbimaaGreatDoor
open Go.RowKit Go.Maps
set_option linter.unusedVariables false
set_option maxRecDepth 100000
def kT (s:List Bool):Lit:=.string (text s).data.toList
theorem TN {s t:List Bool}(h:kT s=kT t):s=t:=by
 unfold kT text at h;simp only[Lit.string.injEq]at h;have h2:s.map chr=t.map chr:=by simpa using h
 have inj:∀a b:Bool,chr a=chr b->a=b:=by intro a b;cases a<;>cases b<;>decide
 induction s generalizing t with
 |nil=>cases t with
  |nil=>rfl
  |cons y r=>simp at h2
 |cons x r ih=>cases t with
  |nil=>simp at h2
  |cons y r2=>
   simp only[WP,List.cons.injEq]at h2;rw[inj x y h2.1,ih (t:=r2) (by simp[h2.2]) h2.2]
theorem TM (s:List Bool):WideAt.IsKeyLit (kT s):=by
 first|trivial|exact⟨⟩|(unfold kT WideAt.IsKeyLit;simp)
def Ew (l:List Int):Nat->DataW Unit
 |0=>.map []
 |k+1=>if codeT l k= []then Ew l k else (Ew l k).put (kT (codeT l k)) (.lit (.int .i64 (k:Int)))
theorem Ml (l:List Int):∀k,IsMap (Ew l k)
 |0=>isMap_empty
 |k+1=>by
  rw[Ew]
  split
  . exact Ml l k
  . exact(Ml l k).put _ _
theorem BD (l:List Int)(s:List Bool)(hs:s≠ []):∀k,Maps.has (Ew l k) (kT s)=decide (∃q,q<k/\codeT l q=s)
 |0=>by
  rw[decide_eq_false (by rintro ⟨q,h,_⟩;omega)];rfl
 |k+1=>by
  have ih:=BD l s hs k
  have e:(∃q,q<k+1/\codeT l q=s)↔((∃q,q<k/\codeT l q=s)\/codeT l k=s):=by
   constructor
   . rintro ⟨q,h1,h2⟩
     by_cases hq:q=k
     . subst hq;exact .inr h2
     . exact .inl ⟨q,by omega,h2⟩
   . rintro (⟨q,h1,h2⟩|h)
     . exact⟨q,by omega,h2⟩
     . exact⟨k,by omega,h⟩
  rw[Ew]
  by_cases h0:codeT l k= []
  . rw[if_pos h0,ih,YR];simp only[decide_eq_true_eq,e]
    constructor
    . exact .inl
    . rintro (h|h)
      . exact h
      . rw[h0]at h;exact absurd h.symm hs
  . rw[if_neg h0]
    by_cases hk:codeT l k=s
    . rw[hk,has_put_same (Ml l k) (TM s),decide_eq_true (e.2 (.inr hk))]
    . rw[has_put_other (fun h=>hk (TN h).symm),ih,YR];simp only[decide_eq_true_eq,e]
      constructor
      . exact .inl
      . rintro (h|h)
        . exact h
        . exact absurd h hk
theorem R4 (l:List Int)(s:List Bool)(hs:s≠ [])(hinj:∀q q',q<l.length->q'<l.length->codeT l q=s->codeT l q'=s->q=q')(z:DataW Unit):∀k,k<=l.length->∀q,q<k->codeT l q=s->(Ew l k).atKey (kT s) z=.lit (.int .i64 (q:Int))
 |0,_,q,h,_=>by omega
 |k+1,hk,q,h,hq=>by
  rw[Ew]
  by_cases h0:codeT l k= []
  . rw[if_pos h0];have:q≠k:=fun e=>by subst e;rw[h0]at hq;exact hs hq.symm
    exact R4 l s hs hinj z k (by omega) q (by omega) hq
  . rw[if_neg h0]
    by_cases e:codeT l k=s
    . have:=hinj q k (by omega) (by omega) hq e
      subst this;rw[e,atKey_put_same (Ml l _) (TM s)]
    . rw[atKey_put_other (fun h=>e (TN h).symm)];have:q≠k:=fun e2=>by subst e2;exact e hq
      exact R4 l s hs hinj z k (by omega) q (by omega) hq
theorem Z5e:Keyed Tryz.prog 9:=string_keyed Tryz.underlying9
abbrev Dv (w:World)(b n:Nat)(D:DataW Unit):Prop:=w.ownsMap Tryz.prog 9 (plainElem Tryz.prog 3) b n D
theorem Et (a:Option Addr)(len cap:Nat)(l:List Int)(w:World)(hl:l.length=len)(hR:RowIn .i64 w a l)(hG:Good l):
 Calls Tryz.prog 97 #[.slice a len cap] w fun e w'=>∃b n,e=.returned (.map (some b))/\w.heap.size<=b/\Dv w' b n (Ew l len)/\Below w.heap.size w w':=by
 have hlen:=hG.len;have hmm:= @run_makeMap Tryz.prog;have HG:=Ab hG;go_enter Tryz.func97,Tryz.ntmps97
 go_wp2_with fail
 refine(Q6 a len cap l _ hl (hR.alloc _) hG).mono ?_;rintro e w1 ⟨g,rfl,hB1,hg1,hO1⟩;have HO1:=Ab hO1;have hgl:=(hO1.lt g rfl).2;have HM1:Hid (Dv w1 w.heap.size 0 (Ew l 0)):=(World.ownsMap_made w Tryz.prog 9 (plainElem Tryz.prog 3)).kept (Sk hB1) (by simp);have HB1:=Ab (((Below.refl w.heap.size w).alloc (VC _) _).trans (hB1.mono (by simp)));have hz1:=hB1.size;simp only[World.size_alloc]at hz1 hg1;clear hB1 hO1 hR hG;go_wp2;go_loopw [10] (fun vi wr=>∃k n:Nat,k<=len/\n<=k/\vi=.int .i64 (k:Int)/\Dv wr w.heap.size n (Ew l k)/\w1.grownBy wr (some w.heap.size)) (fun vi _=>len-(intOf vi).toNat)
 case atStart=>exact⟨0,0,VK _,VC _,rfl,Aa HM1,Au _ _⟩
 case round=>
  obtain⟨k,n,hk,hn,rfl,hM,hgr⟩:=hrel;have HM:=Ab hM;have HGr:=Ab hgr
  by_cases hlt:k<len
  . have c7:wr.cell? ⟨g,k,none⟩=some (.string (text (codeT l k))):=by
     refine hgr.cell ?_ (by simp;omega);rw[(Aa HO1).cellAt k (by omega)];simp[hlt]
    have HD:Hid (Ew l (k+1)=if codeT l k= []then Ew l k else (Ew l k).put (kT (codeT l k)) (.lit (.int .i64 (k:Int)))):=rfl
    have HKey:Hid (keyOf Tryz.prog 9 (.string (text (codeT l k)))=some (kT (codeT l k))):=Go.WideMaps.keyOf_string_mk Tryz.underlying9 (by
     rw[Cl];unfold codeT;rw[Az];have:=(Aa HG).ok k (by omega)
     unfold maxLen;omega)
    clear hM hgr;have htl:(text (codeT l k)).toList.isEmpty=(codeT l k).isEmpty:=by rw[Lib.toList_data];cases codeT l k<;>rfl
    by_cases h0:codeT l k= []
    . rw[if_pos h0]at HD;have hem:(text (codeT l k)).toList.isEmpty=true:=by rw[htl,h0];rfl
      clear htl h0 HKey;generalize text (codeT l k)=T at*;go_wp2;go_roundw
      case rel=>exact⟨k+1,n,by omega,by omega,by go_num,by rw[Aa HD];exact Aa HM,Aa HGr⟩
      case measure=>simp[intOf];omega
    . rw[if_neg h0]at HD
      have hem:(text (codeT l k)).toList.isEmpty=false:=by
       rw[htl]
       cases e:codeT l k with
       |nil=>exact absurd e h0
       |cons _ _=>rfl
      have hwf:(Lit.int .i64 (k:Int)).wf=true:=WalkArith.wf_i64 (by omega);clear htl h0;generalize text (codeT l k)=T at*;generalize kT (codeT l k)=KK at*;go_wp2_with (at_mapUpdate;refine wpList_mapUpdate_own _ rfl _ _ _ 161 rfl 9 3 Z5e Tryz.underlying161 _ w.heap.size n _ rfl (Aa HM) (by unfold maxLen;omega) _ _ _ rfl rfl (Aa HKey) _ [] (plainElem_int Tryz.underlying3 hwf) ?_)
      intro w2 hM2 hg2;have HM2:=Ab hM2;have HG2:=Ab (Ak (Aa HGr) hg2);clear hM2 hg2;go_wp2;go_roundw
      case rel=>exact⟨k+1,n+1,by omega,by omega,by go_num,by rw[Aa HD];exact Aa HM2,Aa HG2⟩
      case measure=>simp[intOf];omega
  . obtain rfl:k=len:=by omega
    clear hM hgr;go_wp2;go_ret;exact⟨w.heap.size,n,rfl,VC _,Aa HM,(Aa HB1).grown (Aa HGr) (by omega) (fun j h=>by cases h;exact VC _)⟩
end Go.Proofs.YtleocpdblhbimaaGreatDoor
namespace Go.Proofs.YtleocpdblhbimaaGreatDoor
set_option linter.unusedVariables false
set_option maxRecDepth 100000
theorem B9:∀n c c',c<2^n->c'<2^n->hb c n=hb c' n->c=c'
 |0,c,c',h,h',_=>by simp at h h';omega
 |n+1,c,c',h,h',e=>by
  rw[XE]at h h';rw[hb,hb]at e;have e1:=List.append_inj e (by rw[Az,Az]);have e2:=B9 n (c/2) (c'/2) (by omega) (by omega) e1.1;have e3:decide (c%2=1)=decide (c'%2=1):=by simpa using e1.2
  have e4:(c%2=1↔c'%2=1):=by simpa using e3
  omega
theorem Se (l:List Int)(hG:Good l)(s:List Bool)(hs:s≠ [])(q q':Nat)(hq:q<l.length)(hq':q'<l.length)(e:codeT l q=s)(e':codeT l q'=s):q=q':=by
 obtain⟨m,hm⟩:=VW (hG.ok q hq).1;obtain⟨m',hm'⟩:=VW (hG.ok q' hq').1;have hl:=congrArg List.length (e.trans e'.symm)
 have hs0:0<m:=by
  by_cases h:m=0
  . subst h;unfold codeT at e;rw[hm]at e;exact absurd e.symm hs
  . omega
 have ee:=e.trans e'.symm;unfold codeT at hl ee;rw[hm,hm',WD,WD]at hl ee;rw[Az,Az]at hl;subst hl
 by_cases h:q=q'
 . exact h
 . have c3:=(Gr l hG hq hm hs0).2.2;have c3':=(Gr l hG hq' hm' hs0).2.2;have:=Qo l hG hq hq' hm hm' h hs0 (VC _)
   rw[XM,Nat.pow_zero,Nat.div_one]at this;exact absurd (B9 m _ _ c3' c3 ee.symm) this
theorem Ln (l:List Int)(row:List Bool)(p:Nat):∀k f,(∀j,1<=j->j<=k->¬row.length<p+j/\Og l ((row.drop p).take j)=none)->∀n,n+k=k+1->Gm l row p (k+f) n=Gm l row p f (n+k)
 |0,f,_,n,_=>by simp
 |k+1,f,h,n,hn=>by
  have e:=Ln l row p k (f+1) (fun j h1 h2=>h j h1 (by omega)) n (by omega);rw[show k+1+f=k+(f+1) by omega,e];obtain rfl:n=1:=by omega
  obtain⟨a1,a2⟩:=h (k+1) (by omega) (VC _);rw[Gm,show 1+k=k+1 by omega,if_neg a1,a2,show 1+(k+1)=k+1+1 by omega]
end Go.Proofs.YtleocpdblhbimaaGreatDoor
