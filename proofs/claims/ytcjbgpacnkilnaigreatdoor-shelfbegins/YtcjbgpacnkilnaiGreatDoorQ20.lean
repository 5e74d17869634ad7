import Derived.Test.YtcjbgpacnkilnaiGreatDoorQ12
import Derived.Test.YtcjbgpacnkilnaiGreatDoorQ1
import Derived.Deep.RegionHeld3
import Derived.Below
import Derived.Test.YtcjbgpacnkilnaiGreatDoorQ0
import Derived.Test.YtcjbgpacnkilnaiGreatDoorQ2
namespace Go.Proofs.YtcjbgpacnkilnaiGreatDoor
open Go.RowKit
set_option linter.unusedVariables false
set_option maxRecDepth 100000
theorem Bv {a w:World}(h:Below a.heap.size a w)(o:Obj):Below a.heap.size a (w.alloc o):=h.alloc h.size o
theorem Cp {B:Nat}{a w:World}(h:Below B a w):Below B a w.drew:=Ae h 1
theorem Zh9 {W:World}{p:Addr}{v:Value}(h:W.cell? p=some v):W.drew.cell? p=some v:=h
theorem Zha {W:World}{p:Addr}{v:Value}{o:Obj}(h:W.cell? p=some v):(W.alloc o).cell? p=some v:=(World.cell?_alloc_some W p o (by rw[h];rfl)).trans h
theorem FsIn.head {w:World}{ad:Option Addr}{c:Nat}{x:Fv}{xs:List Fv}(h:FsIn w ad c (x::xs)){w':World}(hB:Below w.heap.size w w'):
 ∃b o,ad=some ⟨b,o,none⟩/\b<w.heap.size/\w'.cell? ⟨b,o,none⟩=some (.string (B x.f.name))/\w'.cell? ⟨b,o+1,none⟩=some x.sl/\w'.cell? ⟨b,o+2,none⟩=some (.int .i64 x.f.stamp)/\w'.cell? ⟨b,o+3,none⟩=some (.int .i64 x.f.node)/\w'.cell? ⟨b,o+4,none⟩=some (.bool x.f.gone):=by
 obtain⟨b,o,h1,h2,h3,h4,h5,h6,h7⟩:=h.get (k:=0) (x:=x) hB rfl;simp only[Nat.zero_mul,Nat.add_zero]at h3 h4 h5 h6 h7;exact⟨b,o,h1,h2,h3,h4,h5,h6,h7⟩
theorem Zkr (wr:World)(o1 o2:Obj)(cs:Array Value)(t:TypeId):(((wr.alloc o1).alloc o2).alloc (.cells cs t)).drew.heap[wr.heap.size+2]? =some (.cells cs t (0,0))/\wr.heap.size<=wr.heap.size+2/\Below wr.heap.size wr (((wr.alloc o1).alloc o2).alloc (.cells cs t)).drew:=by
 refine⟨?_,by omega,Cp (Bv (Bv (Bv (Below.refl _ _) _) _) _)⟩;have:=heap_alloc_new ((wr.alloc o1).alloc o2) (.cells cs t)
 rw[World.size_alloc,World.size_alloc]at this;exact this
theorem Zks (wr:World)(o1 o2:Obj)(cs:Array Value)(t:TypeId):(((wr.alloc (.cells cs t)).alloc o1).alloc o2).drew.heap[wr.heap.size]? =some (.cells cs t (0,0))/\wr.heap.size<=wr.heap.size/\Below wr.heap.size wr (((wr.alloc (.cells cs t)).alloc o1).alloc o2).drew:=by
 refine⟨?_,by omega,Cp (Bv (Bv (Bv (Below.refl _ _) _) _) _)⟩;show (((wr.alloc (.cells cs t)).alloc o1).alloc o2).heap[wr.heap.size]? =_
 rw[Below.heap_alloc _ _ _ (by simp;omega),Below.heap_alloc _ _ _ (by simp),heap_alloc_new]
theorem Kg (out:List Fv)(z:Fv):fls (out++ [z])=fls out++ [z.f]:=by simp[fls]
end Go.Proofs.YtcjbgpacnkilnaiGreatDoor
namespace Go.Proofs.YtcjbgpacnkilnaiGreatDoor
set_option linter.unusedVariables false
abbrev Tk:=Nat×Int×Int
def Gj (t:Tk)(n:Nat):Int:=
 if t.2.1=0/\t.2.2=0 then 0 else if t.2.1=0\/t.1≠0 then 4 else if t.2.1<3\/258<t.2.1\/t.2.2<1 then 3 else if (n:Int)<t.2.2 then 9 else 0
def wid (t:Tk):Nat:=if t.2.1=0 then 1 else t.2.1.toNat
def Z6l:List Tk->Nat->Int
 | [],n=>if 3000<n then 2 else 0
 |t::r,n=>if Gj t n=0 then Z6l r (n+wid t)else Gj t n
def Zk8 (acc:List Nat)(f:Nat):Nat->List Nat
 |0=>acc
 |m+1=>Zk8 (acc++ [acc.getD (acc.length-f) 0]) f m
theorem Zh4 {l:List Tk}{k:Nat}(h:k<l.length):l.drop k=l.getD k (0,0,0)::l.drop (k+1):=by
 rw[List.drop_eq_getElem_cons h]
 congr 1
 simp[List.getD,h]
theorem Hv {t:Tk}{n:Nat}(h:Gj t n=0):(t.2.1=0/\t.2.2=0)\/ (t.1=0/\3<=t.2.1/\t.2.1<=258/\1<=t.2.2/\t.2.2<=n):=by
 unfold Gj at h
 by_cases h1:t.2.1=0/\t.2.2=0
 . exact .inl h1
 . rw[if_neg h1]at h
   by_cases h2:t.2.1=0\/t.1≠0
   . rw[if_pos h2]at h;omega
   . rw[if_neg h2]at h
     by_cases h3:t.2.1<3\/258<t.2.1\/t.2.2<1
     . rw[if_pos h3]at h;omega
     . rw[if_neg h3]at h
       by_cases h4:(n:Int)<t.2.2
       . rw[if_pos h4]at h;omega
       . have:t.1=0:=by
          by_cases e:t.1=0
          . exact e
          . exact absurd (.inr e) h2
         exact .inr ⟨this,by omega,by omega,by omega,by omega⟩
theorem Za3 {t:Tk}{n:Nat}(h:(t.2.1=0/\t.2.2=0)\/ (t.1=0/\3<=t.2.1/\t.2.1<=258/\1<=t.2.2/\t.2.2<=n)):Gj t n=0:=by
 unfold Gj
 rcases h with h|⟨h0,h1,h2,h3,h4⟩
 . rw[if_pos h]
 . rw[if_neg (by omega),if_neg (by omega),if_neg (by omega),if_neg (by omega)]
theorem Zhu {t:Tk}{n:Nat}(h:Gj t n=0):1<=wid t/\wid t<=258:=by
 unfold wid
 rcases Hv h with ⟨a,b⟩|⟨a,b,c,d,e⟩
 . rw[if_pos a];omega
 . rw[if_neg (by omega)];omega
theorem Zf9 {t:Tk}{n:Nat}(h:Gj t n=0):max t.2.1 1=(wid t:Int):=by
 unfold wid
 rcases Hv h with ⟨a,b⟩|⟨a,b,c,d,e⟩
 . rw[if_pos a,a];rfl
 . rw[if_neg (by omega)];omega
theorem Zas {n:Nat}:∀ {l:List Tk},Z6l l n=0->n<=3000:=by
 intro l
 induction l generalizing n with
 |nil=>
  intro h;rw[Z6l]at h
  by_cases h1:3000<n
  . rw[if_pos h1]at h;omega
  . omega
 |cons t r ih=>
  intro h;rw[Z6l]at h
  by_cases h1:Gj t n=0
  . rw[if_pos h1]at h;have:=ih h
    omega
  . rw[if_neg h1]at h;exact absurd h h1
def lcp (bs:List Nat):Nat->Nat->Nat->Nat
 |_,_,0=>0
 |i,k,m+1=>if bs.getD i 0=bs.getD k 0 then lcp bs (i+1) (k+1) m+1 else 0
theorem Ow (bs:List Nat):∀m i k,lcp bs i k m<=m
 |0,i,k=>by simp[lcp]
 |m+1,i,k=>by
  rw[lcp];have:=Ow bs m (i+1) (k+1)
  split<;>omega
theorem Kc (bs:List Nat):∀m i k j,j<lcp bs i k m->bs.getD (i+j) 0=bs.getD (k+j) 0
 |0,i,k,j,h=>by simp[lcp]at h
 |m+1,i,k,j,h=>by
  rw[lcp]at h
  split at h
  . rename_i e
    match j with
    |0=>exact e
    |j+1=>
     have:=Kc bs m (i+1) (k+1) j (by omega)
     rw[show i+(j+1)=i+1+j by omega,show k+(j+1)=k+1+j by omega];exact this
  . omega
theorem Z30 (bs:List Nat):∀m i k,lcp bs i k m<m->bs.getD (i+lcp bs i k m) 0≠bs.getD (k+lcp bs i k m) 0
 |0,i,k,h=>by omega
 |m+1,i,k,h=>by
  rw[lcp]at h ⊢
  split at h
  . rename_i e
    rw[if_pos e];have:=Z30 bs m (i+1) (k+1) (by omega)
    rw[show i+(lcp bs (i+1) (k+1) m+1)=i+1+lcp bs (i+1) (k+1) m by omega,show k+(lcp bs (i+1) (k+1) m+1)=k+1+lcp bs (i+1) (k+1) m by omega];exact this
  . rename_i e
    rw[if_neg e];exact e
theorem Zeq {bs:List Nat}{m i k s:Nat}(hs:s<=m)(h:∀j,j<s->bs.getD (i+j) 0=bs.getD (k+j) 0):s<=lcp bs i k m:=by
 by_cases hlt:lcp bs i k m<s
 . exact absurd (h _ hlt) (Z30 bs m i k (by omega))
 . omega
theorem Xs {bs:List Nat}{m i k s:Nat}(h:bs.getD (i+s) 0≠bs.getD (k+s) 0):lcp bs i k m<=s:=by
 by_cases hlt:s<lcp bs i k m
 . exact absurd (Kc bs m i k s hlt) h
 . omega
theorem Zer {bs:List Nat}{m i k s:Nat}(hs:s<=m)(h:∀j,j<s->bs.getD (i+j) 0=bs.getD (k+j) 0)(he:s=m\/bs.getD (i+s) 0≠bs.getD (k+s) 0):lcp bs i k m=s:=by
 have h1:=Zeq hs h;have h2:=Ow bs m i k
 rcases he with e|e
 . omega
 . have:=Xs (m:=m) e;omega
def mst (n k:Nat):Nat:=min 258 (n-k)
def bst (bs:List Nat)(k m:Nat):Nat->Nat×Nat
 |0=>(0,0)
 |d+1=>if (bst bs k m d).1<lcp bs (k-(d+1)) k m then (lcp bs (k-(d+1)) k m,d+1)else bst bs k m d
def lng (bs:List Nat)(k:Nat):Nat×Nat:=if (bst bs k (mst bs.length k) k).1<3 then (0,0)else bst bs k (mst bs.length k) k
structure Bst (bs:List Nat)(k m D:Nat)(p:Nat×Nat):Prop where
 most:∀d,1<=d->d<=D->lcp bs (k-d) k m<=p.1
 way:(p.1=0/\p.2=0)\/ (1<=p.2/\p.2<=D/\lcp bs (k-p.2) k m=p.1/\0<p.1/\∀d,1<=d->d<p.2->lcp bs (k-d) k m<p.1)
theorem Z3s (bs:List Nat)(k m:Nat):∀D,Bst bs k m D (bst bs k m D)
 |0=>⟨fun d h h'=>by omega,.inl ⟨rfl,rfl⟩⟩
 |D+1=>by
  have ih:=Z3s bs k m D;rw[bst]
  by_cases h:(bst bs k m D).1<lcp bs (k-(D+1)) k m
  . rw[if_pos h];refine⟨?_,.inr ⟨by simp,by simp,rfl,by show 0<lcp bs (k-(D+1)) k m;omega, ?_⟩⟩
    . intro d h1 h2
      by_cases e:d=D+1
      . rw[e];exact Nat.le_refl _
      . exact Nat.le_of_lt (Nat.lt_of_le_of_lt (ih.most d h1 (by omega)) h)
    . intro d h1 h2;have h2':d<D+1:=h2;exact Nat.lt_of_le_of_lt (ih.most d h1 (by omega)) h
  . rw[if_neg h];refine⟨?_, ?_⟩
    . intro d h1 h2
      by_cases e:d=D+1
      . rw[e];omega
      . exact ih.most d h1 (by omega)
    . rcases ih.way with h1|⟨h1,h2,h3,h4,h5⟩
      . exact .inl h1
      . exact .inr ⟨h1,by omega,h3,h4,h5⟩
theorem Zir {bs:List Nat}{k n f:Nat}(h3:3<=n)(hf1:1<=f)(hfk:f<=k)(he:lcp bs (k-f) k (mst bs.length k)=n)(hm:∀d,1<=d->d<=k->lcp bs (k-d) k (mst bs.length k)<=n)(hn:∀d,1<=d->d<f->lcp bs (k-d) k (mst bs.length k)<n):lng bs k=(n,f):=by
 have B:=Z3s bs k (mst bs.length k) k;unfold lng;generalize bst bs k (mst bs.length k) k=p at*;obtain⟨a,b⟩:=p;have m1:=B.most f hf1 hfk;simp only at m1
 rw[he]at m1;rw[if_neg (by show ¬a<3;omega)]
 rcases B.way with ⟨h1,h2⟩|⟨h1,h2,h4,h5,h6⟩
 . simp only at h1;omega
 . simp only at h1 h2 h4 h5 h6
   have m2:=hm b h1 h2;rw[h4]at m2;have ea:a=n:=by omega
   have eb:b=f:=by
    by_cases c:b<f
    . have:=hn b h1 c;omega
    . by_cases c2:f<b
      . have:=h6 f hf1 c2;omega
      . omega
   rw[ea,eb]
theorem Z2y {bs:List Nat}{k:Nat}(hm:∀d,1<=d->d<=k->lcp bs (k-d) k (mst bs.length k)<3):lng bs k=(0,0):=by
 have B:=Z3s bs k (mst bs.length k) k;unfold lng
 rcases B.way with ⟨h1,h2⟩|⟨h1,h2,h4,h5,h6⟩
 . rw[if_pos (by omega)]
 . have:=hm _ h1 h2
   rw[h4]at this;rw[if_pos this]
structure Lng (bs:List Nat)(k n f:Nat):Prop where
 three:3<=n
 one:1<=f
 ahead:f<=k
 is:lcp bs (k-f) k (mst bs.length k)=n
 most:∀d,1<=d->d<=k->lcp bs (k-d) k (mst bs.length k)<=n
 near:∀d,1<=d->d<f->lcp bs (k-d) k (mst bs.length k)<n
theorem Ziq (bs:List Nat)(k:Nat):((lng bs k)=(0,0)/\∀d,1<=d->d<=k->lcp bs (k-d) k (mst bs.length k)<3)\/Lng bs k (lng bs k).1 (lng bs k).2:=by
 have B:=Z3s bs k (mst bs.length k) k;unfold lng
 by_cases h:(bst bs k (mst bs.length k) k).1<3
 . rw[if_pos h];exact .inl ⟨rfl,fun d h1 h2=>Nat.lt_of_le_of_lt (B.most d h1 h2) h⟩
 . rw[if_neg h]
   rcases B.way with ⟨h1,h2⟩|⟨h1,h2,h4,h5,h6⟩
   . omega
   . exact .inr ⟨by omega,h1,h2,h4,B.most,h6⟩
theorem Lng.le {bs:List Nat}{k n f:Nat}(h:Lng bs k n f):n<=258/\k+n<=bs.length:=by
 have:=Ow bs (mst bs.length k) (k-f) k
 rw[h.is]at this;have h3:=h.three;unfold mst at this;omega
def Gi (bs:List Nat)(p:Nat):Nat×Nat×Nat:=(bs.getD p 0,bs.getD (p+1) 0,bs.getD (p+2) 0)
def plc (bs:List Nat)(kn:Nat)(c:Nat×Nat×Nat):List Nat:=(List.range kn).filter (fun p=>decide (Gi bs p=c))
theorem Zcn (bs:List Nat)(kn:Nat)(c:Nat×Nat×Nat):plc bs (kn+1) c=plc bs kn c++if Gi bs kn=c then [kn]else []:=by
 unfold plc;rw[List.range_succ,List.filter_append]
 congr 1
 by_cases h:Gi bs kn=c<;>simp[h]
theorem Z86 {bs:List Nat}{kn p:Nat}{c:Nat×Nat×Nat}:p∈plc bs kn c↔p<kn/\Gi bs p=c:=by simp[plc]
theorem Zco (bs:List Nat)(kn:Nat)(c:Nat×Nat×Nat){i j:Nat}(hj:j<(plc bs kn c).length)(hij:i<j):(plc bs kn c).getD i 0<(plc bs kn c).getD j 0:=by
 have hp:(plc bs kn c).Pairwise (· < ·):=by
  unfold plc;exact List.Pairwise.filter _ List.pairwise_lt_range
 have:=List.pairwise_iff_getElem.1 hp i j (by omega) hj hij
 simpa[List.getD,hj,show i<(plc bs kn c).length by omega]using this
theorem Z87 (bs:List Nat)(kn:Nat)(c:Nat×Nat×Nat){j:Nat}(hj:j<(plc bs kn c).length):(plc bs kn c).getD j 0<kn/\Gi bs ((plc bs kn c).getD j 0)=c:=by
 have:(plc bs kn c).getD j 0∈plc bs kn c:=by
  simp only[List.getD,List.getElem?_eq_getElem hj,Option.getD_some];exact List.getElem_mem hj
 exact Z86.1 this
theorem Z31 {bs:List Nat}{p k m:Nat}(hm:3<=m):Gi bs p=Gi bs k↔3<=lcp bs p k m:=by
 unfold Gi
 constructor
 . intro h;simp only[Prod.mk.injEq]at h;refine Zeq hm ?_;intro j hj
   match j,hj with
   |0,_=>exact h.1
   |1,_=>exact h.2.1
   |2,_=>exact h.2.2
 . intro h;have h0:=Kc bs m p k 0 (by omega);have h1:=Kc bs m p k 1 (by omega);have h2:=Kc bs m p k 2 (by omega);simp only[Nat.add_zero]at h0;rw[h0,h1,h2]
def Han (bs:List Nat)(k:Nat)(zs:List Nat)(q n f:Nat):Prop:=
 (q=0/\n=0/\f=0)\/ (3<=n/\∃j,zs.length-q<=j/\j<zs.length/\f=k-zs.getD j 0/\lcp bs (zs.getD j 0) k (mst bs.length k)=n/\
  (∀j',zs.length-q<=j'->j'<zs.length->lcp bs (zs.getD j' 0) k (mst bs.length k)<=n)/\(∀j',j<j'->j'<zs.length->lcp bs (zs.getD j' 0) k (mst bs.length k)<n))
theorem Han.le {bs:List Nat}{k:Nat}{zs:List Nat}{q n f:Nat}(h:Han bs k zs q n f):n<=mst bs.length k/\f<=k:=by
 rcases h with ⟨_,rfl,rfl⟩|⟨_,j,_,_,h1,h2,_⟩
 . exact⟨Nat.zero_le _,Nat.zero_le _⟩
 . exact⟨by rw[<-h2];exact Ow _ _ _ _,by omega⟩
theorem Han.more {bs:List Nat}{k:Nat}{zs:List Nat}{q n f:Nat}(h:Han bs k zs q n f)(hq:q<zs.length)(h3:∀j,j<zs.length->3<=lcp bs (zs.getD j 0) k (mst bs.length k))(hm:n<lcp bs (zs.getD (zs.length-1-q) 0) k (mst bs.length k)):
 Han bs k zs (q+1) (lcp bs (zs.getD (zs.length-1-q) 0) k (mst bs.length k)) (k-zs.getD (zs.length-1-q) 0):=by
 have hold:∀j',zs.length-q<=j'->j'<zs.length->lcp bs (zs.getD j' 0) k (mst bs.length k)<=n:=by
  rcases h with ⟨h0,rfl,rfl⟩|⟨_,j,_,_,_,_,h1,_⟩
  . intro j' a b;omega
  . exact h1
 refine .inr ⟨h3 _ (by omega),zs.length-1-q,by omega,by omega,rfl,rfl, ?_, ?_⟩
 . intro j' a b
   by_cases e:j'=zs.length-1-q
   . rw[e];exact Nat.le_refl _
   . have:=hold j' (by omega) b;omega
 . intro j' a b;have:=hold j' (by omega) b;omega
theorem Han.less {bs:List Nat}{k:Nat}{zs:List Nat}{q n f:Nat}(h:Han bs k zs q n f)(hq:q<zs.length)(h3:∀j,j<zs.length->3<=lcp bs (zs.getD j 0) k (mst bs.length k))(hm:lcp bs (zs.getD (zs.length-1-q) 0) k (mst bs.length k)<=n):
 Han bs k zs (q+1) n f:=by
 rcases h with ⟨h0,rfl,rfl⟩|⟨h0,j,a1,a2,a3,a4,a5,a6⟩
 . have:=h3 (zs.length-1-q) (by omega);omega
 . refine .inr ⟨h0,j,by omega,a2,a3,a4, ?_,a6⟩;intro j' b1 b2
   by_cases e:j'=zs.length-1-q
   . rw[e];exact hm
   . exact a5 j' (by omega) b2
theorem Han.lng {bs:List Nat}{k n f q:Nat}(hk:3<=mst bs.length k)(h:Han bs k (plc bs k (Gi bs k)) q n f)(he:q=(plc bs k (Gi bs k)).length\/n=mst bs.length k):lng bs k=(n,f):=by
 have hin:∀d,1<=d->d<=k->3<=lcp bs (k-d) k (mst bs.length k)->∃j,j<(plc bs k (Gi bs k)).length/\(plc bs k (Gi bs k)).getD j 0=k-d:=by
  intro d h1 h2 h3;have:k-d∈plc bs k (Gi bs k):=Z86.2 ⟨by omega,(Z31 hk).2 h3⟩
  obtain⟨j,hj,e⟩:=List.getElem_of_mem this;exact⟨j,hj,by simpa[List.getD,hj]using e⟩
 rcases h with ⟨h0,rfl,rfl⟩|⟨h0,j,a1,a2,a3,a4,a5,a6⟩
 . have hL:(plc bs k (Gi bs k)).length=0:=by omega
   apply Z2y
   intro d h1 h2
   by_cases c:lcp bs (k-d) k (mst bs.length k)<3
   . exact c
   . obtain⟨j,hj,_⟩:=hin d h1 h2 (by omega);omega
 . obtain⟨p1,p2⟩:=Z87 bs k (Gi bs k) a2;have ef:k-f=(plc bs k (Gi bs k)).getD j 0:=by omega
   refine Zir h0 (by omega) (by omega) (by rw[ef];exact a4) ?_ ?_
   . intro d h1 h2
     rcases he with e|e
     . by_cases c:lcp bs (k-d) k (mst bs.length k)<3
       . omega
       . obtain⟨j',hj',e'⟩:=hin d h1 h2 (by omega);have:=a5 j' (by omega) hj'
         rw[e']at this;exact this
     . rw[e];exact Ow _ _ _ _
   . intro d h1 h2
     by_cases c:lcp bs (k-d) k (mst bs.length k)<3
     . omega
     . obtain⟨j',hj',e'⟩:=hin d h1 (by omega) (by omega)
       have hjj:j<j':=by
        by_cases c1:j'=j
        . rw[c1]at e';omega
        . by_cases c2:j'<j
          . have:=Zco bs k (Gi bs k) a2 c2
            omega
          . omega
       have:=a6 j' hjj hj'
       rw[e']at this;exact this
def Nv (bs:List Nat)(k:Nat):Tk:=if (lng bs k).1=0 then (bs.getD k 0,0,0)else if (lng bs k).1<(lng bs (k+1)).1 then (bs.getD k 0,0,0)else (0,((lng bs k).1:Int),((lng bs k).2:Int))
def tks (bs:List Nat):Nat->Nat->List Tk
 |0,_=> []
 |m+1,k=>if k<bs.length then Nv bs k::tks bs m (k+wid (Nv bs k))else []
def Ff (bs:List Nat):List Tk:=tks bs bs.length 0
theorem Z7f (bs:List Nat)(k:Nat)(hk:k<bs.length):(Nv bs k=(bs.getD k 0,0,0)/\wid (Nv bs k)=1)\/ (∃n f,Lng bs k n f/\lng bs k=(n,f)/\Nv bs k=(0,(n:Int),(f:Int))/\wid (Nv bs k)=n):=by
 unfold Nv
 by_cases h:(lng bs k).1=0
 . rw[if_pos h];exact .inl ⟨rfl,rfl⟩
 . rw[if_neg h]
   by_cases h2:(lng bs k).1<(lng bs (k+1)).1
   . rw[if_pos h2];exact .inl ⟨rfl,rfl⟩
   . rw[if_neg h2]
     rcases Ziq bs k with ⟨e,_⟩|hL
     . rw[e]at h;exact absurd rfl h
     . refine .inr ⟨(lng bs k).1,(lng bs k).2,hL,rfl,rfl, ?_⟩;unfold wid;rw[if_neg (by simpa using h)];simp
theorem Mp (bs:List Nat)(k:Nat)(hk:k<bs.length):1<=wid (Nv bs k)/\k+wid (Nv bs k)<=bs.length:=by
 rcases Z7f bs k hk with ⟨_,e⟩|⟨n,f,hL,_,_,e⟩
 . omega
 . have:=hL.le
   have:=hL.three
   omega
theorem Ri (bs:List Nat)(k:Nat)(hk:k<bs.length):Gj (Nv bs k) k=0:=by
 apply Za3
 rcases Z7f bs k hk with ⟨e,_⟩|⟨n,f,hL,_,e,_⟩
 . rw[e];exact .inl ⟨rfl,rfl⟩
 . rw[e];have:=hL.le
   have:=hL.three
   have:=hL.one
   have:=hL.ahead
   exact .inr ⟨rfl,by simp only;omega,by simp only;omega,by simp only;omega,by simp only;omega⟩
theorem Zc2 (bs:List Nat)(m k:Nat)(h:bs.length<=k):tks bs m k= []:=by
 cases m with
 |zero=>rfl
 |succ m=>rw[tks,if_neg (by omega)]
theorem Zc1 (bs:List Nat)(m k:Nat)(h:k<bs.length)(hm:bs.length<=k+m):∃m',tks bs m k=Nv bs k::tks bs m' (k+wid (Nv bs k))/\bs.length<=k+wid (Nv bs k)+m':=by
 cases m with
 |zero=>omega
 |succ m=>
  have:=Mp bs k h
  exact⟨m,by rw[tks,if_pos h],by omega⟩
theorem Z7e (bs:List Nat)(h3:bs.length<=3000):∀m k,k<=bs.length->Z6l (tks bs m k) k=0
 |0,k,h=>by rw[tks,Z6l,if_neg (by omega)]
 |m+1,k,h=>by
  rw[tks]
  by_cases hk:k<bs.length
  . have:=Mp bs k hk
    rw[if_pos hk,Z6l,if_pos (Ri bs k hk)];exact Z7e bs h3 m _ (by omega)
  . rw[if_neg hk,Z6l,if_neg (by omega)]
theorem Z7d (bs:List Nat):∀m k,k<=bs.length->(tks bs m k).length+k<=bs.length
 |0,k,h=>by rw[tks];simpa using h
 |m+1,k,h=>by
  rw[tks]
  by_cases hk:k<bs.length
  . have:=Mp bs k hk
    rw[if_pos hk,List.length_cons];have:=Z7d bs m _ this.2
    omega
  . rw[if_neg hk];simpa using h
theorem Z27 (bs:List Nat):(Ff bs).length<=bs.length:=by
 have:=Z7d bs bs.length 0 (Nat.zero_le _)
 unfold Ff;omega
theorem Zff {bs:List Nat}(hb:∀j,bs.getD j 0<256)(k:Nat):(Nv bs k).1<256:=by
 unfold Nv
 split
 . exact hb k
 . split
   . exact hb k
   . show 0<256;omega
end Go.Proofs.YtcjbgpacnkilnaiGreatDoor
namespace Go.Proofs.YtcjbgpacnkilnaiGreatDoor
open Go.RowKit
set_option linter.unusedVariables false
def wpl (l:List Int):Nat->List Nat
 |0=> []
 |k+1=>wpl l k++(if 0<l.getD k 0 then [k]else [])
theorem Nl (l:List Int):∀k,(wpl l k).length<=k
 |0=>by simp[wpl]
 |k+1=>by
  have:=Nl l k
  rw[wpl,List.length_append]
  split<;>simp<;>omega
theorem Z0s (l:List Int)(p:Nat):∀k,p∈wpl l k↔p<k/\0<l.getD p 0
 |0=>by simp[wpl]
 |k+1=>by
  rw[wpl,List.mem_append,Z0s l p k]
  by_cases h:0<l.getD k 0
  . rw[if_pos h,List.mem_singleton]
    constructor
    . rintro (⟨h1,h2⟩|rfl)
      . exact⟨by omega,h2⟩
      . exact⟨by omega,h⟩
    . rintro ⟨h1,h2⟩
      by_cases e:p=k
      . exact .inr e
      . exact .inl ⟨by omega,h2⟩
  . rw[if_neg h]
    constructor
    . rintro (⟨h1,h2⟩|h1)
      . exact⟨by omega,h2⟩
      . cases h1
    . rintro ⟨h1,h2⟩
      by_cases e:p=k
      . subst e;exact absurd h2 h
      . exact .inl ⟨by omega,h2⟩
theorem Z6s (l:List Int)(k:Nat):∀p∈wpl l k,p<k:=fun p h=>((Z0s l p k).1 h).1
theorem Z20 (l:List Int):∀k,(wpl l k).Pairwise (· < ·)
 |0=>.nil
 |k+1=>by
  rw[wpl,List.pairwise_append];refine⟨Z20 l k,by split<;>simp,fun a ha b hb=> ?_⟩;have:=Z6s l k a ha
  split at hb
  . rw[List.mem_singleton]at hb;omega
  . cases hb
def okW (n:Int):Bool:=decide (0<=n/\n<=1000000)
theorem Z2p {n:Int}(h:okW n=true):0<=n/\n<=1000000:=of_decide_eq_true h
theorem Xe {n:Int}(h:okW n=false):¬(0<=n/\n<=1000000):=of_decide_eq_false h
def Zez (l:List Int)(most:Int):Int:=if 288<l.length then 2 else if ∃j,j<l.length/\okW (l.getD j 0)=false then 3 else if ¬(1<=most/\most<=15)then 3 else if 2^most.toNat<(wpl l l.length).length then 11 else 0
structure GoodW (l:List Int)(m:Nat):Prop where
 len:l.length<=288
 ok:∀j,j<l.length->0<=l.getD j 0/\l.getD j 0<=1000000
 lo:1<=m
 hi:m<=15
 room:(wpl l l.length).length<=2^m
theorem Z9q {l:List Int}{m:Nat}(h:GoodW l m):Zez l m=0:=by
 unfold Zez;have h1:=h.len;have h2:=h.lo;have h3:=h.hi;have h4:=h.room;rw[if_neg (by omega),if_neg,if_neg (by omega),if_neg (by simp;omega)];rintro ⟨j,hj,e⟩;exact Xe e (h.ok j hj)
def Zio (x:Int)(f:List Int->List (Int×Bool)):List Int->List (Int×Bool)
 | []=>(x,true)::f []
 |y::ys=>if x<=y then (x,true)::f (y::ys)else (y,false)::Zio x f ys
def mrg:List Int->List Int->List (Int×Bool)
 | []=>fun ys=>ys.map fun y=>(y,false)
 |x::xs=>Zio x (mrg xs)
theorem Iy (ys:List Int):mrg [] ys=ys.map fun y=>(y,false):=rfl
theorem Lf (x:Int)(xs:List Int):mrg (x::xs) []=(x,true)::mrg xs []:=rfl
theorem Hq (x:Int)(xs:List Int)(y:Int)(ys:List Int):mrg (x::xs) (y::ys)=if x<=y then (x,true)::mrg xs (y::ys)else (y,false)::mrg (x::xs) ys:=rfl
def prs:List Int->List Int
 |a::b::t=>(a+b)::prs t
 |_=> []
def rowAt (W:List Int):Nat->List (Int×Bool)
 |0=>mrg W []
 |k+1=>mrg W (prs ((rowAt W k).map Prod.fst))
def Bg (r:List (Int×Bool))(t:Nat):Nat:=((r.take t).filter Prod.snd).length
def Cd (W:List Int)(most:Nat):Nat->Nat
 |0=>2*(W.length-1)
 |i+1=>2*(Cd W most i-Bg (rowAt W (most-1-i)) (Cd W most i))
def Ax (W:List Int)(most i:Nat):Nat:=Bg (rowAt W (most-1-i)) (Cd W most i)
def Qa (xs:List Int)(p:Nat):List Int:=xs.set p (xs.getD p 0+1)
def Cc (xs:List Int)(ps:List Nat):List Int:=ps.foldl Qa xs
def Ec (n:Nat)(P:List Nat)(W:List Int)(most:Nat):Nat->List Int
 |0=>List.replicate n 0
 |i+1=>Cc (Ec n P W most i) (P.take (Ax W most i))
def Ce (l:List Int)(P:List Nat)(most:Nat):List Int:=
 if P.length<2 then Cc (List.replicate l.length 0) P else Ec l.length P (P.map fun p=>l.getD p 0) most most
structure RiseOf (l:List Int)(P:List Nat):Prop where
 perm:P.Perm (wpl l l.length)
 srt:P.Pairwise fun a b=>l.getD a 0<l.getD b 0\/ (l.getD a 0=l.getD b 0/\a<b)
def IsLens (l:List Int)(most:Nat)(s:List Int):Prop:=∃P,RiseOf l P/\s=Ce l P most
end Go.Proofs.YtcjbgpacnkilnaiGreatDoor
namespace Go.Proofs.YtcjbgpacnkilnaiGreatDoor
set_option linter.unusedVariables false
inductive It where
 |sym (k:Nat)
 |far (k:Nat)
 |rest (n s:Nat)
deriving DecidableEq
def Oc (g n:Nat):Nat->Nat->Nat
 |0,s=>s
 |f+1,s=>if n/2^s<2*g then s else Oc g n f (s+1)
def Jn (g n:Nat):Nat:=Oc g n 12 0
def Tf (g n:Nat):Nat:=g*Jn g n+n/2^Jn g n
def Qf (g n:Nat):Nat:=n%2^Jn g n
def Cm (n:Nat):Nat×Nat×Nat:=if n=258 then (285,0,0)else (257+Tf 4 (n-3),Qf 4 (n-3),Jn 4 (n-3))
def Km (d:Nat):Nat×Nat×Nat:=(Tf 2 (d-1),Qf 2 (d-1),Jn 2 (d-1))
def Z51 (t:Tk):List It:=
 if t.2.1=0 then [.sym t.1]else [.sym (Cm t.2.1.toNat).1,.rest (Cm t.2.1.toNat).2.1 (Cm t.2.1.toNat).2.2,.far (Km t.2.2.toNat).1,.rest (Km t.2.2.toNat).2.1 (Km t.2.2.toNat).2.2]
def Qn (ts:List Tk):List It:=ts.flatMap Z51
def itsOf (ts:List Tk):List It:=Qn ts++ [.sym 256]
def Zi9 (a b:List Int):It->List Bool
 | .sym k=>Bj a k
 | .far k=>Bj b k
 | .rest n s=>Ak n s
def putIs (a b:List Int)(is:List It):List Bool:=is.flatMap (Zi9 a b)
def Zc4 (is:List It):List Nat:=is.filterMap (fun i=>match i with| .sym k=>some k|_=>none)
def Zdt (is:List It):List Nat:=is.filterMap (fun i=>match i with| .far k=>some k|_=>none)
def symC (is:List It):List Int:=Cc (List.replicate 286 0) (Zc4 is)
def farC (is:List It):List Int:=Cc (List.replicate 30 0) (Zdt is)
noncomputable def lensD (l:List Int)(m:Nat):List Int:= @Classical.epsilon (List Int) ⟨[]⟩ (fun s=>IsLens l m s)
def Fu (l:List Int)(least:Nat):Nat->Nat
 |0=>0
 |n+1=>if least<n+1/\l.getD n 0=0 then Fu l least n else n+1
def trimL (l:List Int)(least:Nat):List Int:=l.take (Fu l least l.length)
def Gd (x:Nat):Nat->Nat->List (Nat×Nat×Nat)
 |0,_=> []
 |f+1,m=>if m=0 then []else if m<3 then (x,0,0)::Gd x f (m-1)else if 0<x then (16,min m 6-3,2)::Gd x f (m-min m 6)else if m<11 then (17,m-3,3)::Gd x f 0 else (18,min m 138-11,7)::Gd x f (m-min m 138)
def Oi (x m:Nat):List (Nat×Nat×Nat):=if 0<x then (x,0,0)::Gd x m (m-1)else Gd x m m
def Cb (x:Int):List Int->Nat
 | []=>0
 |y::r=>if y=x then Cb x r+1 else 0
def Ub:Nat->List Int->List (Nat×Nat×Nat)
 |0,_=> []
 |f+1,l=>match l with
  | []=> []
  |x::r=>Oi x.toNat (Cb x r+1)++Ub f (r.drop (Cb x r))
def lenIs (l:List Int):List (Nat×Nat×Nat):=Ub l.length l
def Vc (is:List (Nat×Nat×Nat)):List Int:=Cc (List.replicate 19 0) (is.map Prod.fst)
def Zfz (own:List Int)(i:Nat×Nat×Nat):List Bool:=Bj own i.1++Ak i.2.1 i.2.2
def putRs (own:List Int)(is:List (Nat×Nat×Nat)):List Bool:=is.flatMap (Zfz own)
def Z0o (own:List Int):Nat->Nat
 |0=>0
 |n+1=>if 4<n+1/\own.getD (ord19.getD n 0) 0=0 then Z0o own n else n+1
noncomputable def Z8i (all:List Int):List Int:=lensD (Vc (lenIs all)) 7
def Qo (a b own:List Int):List Bool:=
 Ak (a.length-257) 5++(Ak (b.length-1) 5++(Ak (Z0o own 19-4) 4++((ord19.take (Z0o own 19)).flatMap (fun k=>Ak (own.getD k 0).toNat 3)++putRs own (lenIs (a++b)))))
noncomputable def Zc5 (ts:List Tk):List Int:=trimL (lensD (symC (itsOf ts)) 15) 257
noncomputable def Zdu (ts:List Tk):List Int:=trimL (lensD (farC (itsOf ts)) 15) 1
noncomputable def Fy (a b:List Int)(ts:List Tk):List Bool:=Qo a b (Z8i (a++b))++putIs a b (itsOf ts)
def Jb:List Int:=List.replicate 255 8++ [9,9]
def Pm:List Int:= [0]
def Fc (bs:List Nat):List Tk:=bs.map (fun b=>(b,0,0))
open Classical in
noncomputable def Za7 (bs:List Nat):List Bool:=
 if (Fy Jb Pm (Fc bs)).length<(Fy (Zc5 (Ff bs)) (Zdu (Ff bs)) (Ff bs)).length then Fy Jb Pm (Fc bs)else Fy (Zc5 (Ff bs)) (Zdu (Ff bs)) (Ff bs)
def Gz (ts:List Tk):List Bool:=putIs Qr Jg (itsOf ts)
def freeN (n:Nat):Nat:=(8-n%8)%8
def Qc (S:List Bool)(bs:List Nat):List Bool:=
 S++List.replicate (freeN S.length) false++Ak bs.length 16++Ak (65535-bs.length) 16++rowB bs bs.length
noncomputable def Zbg (S:List Bool)(bs:List Nat)(kind:Nat)(last:Bool):List Bool:=
 if kind=0 then Qc (S++ [last]++Ak kind 2) bs
 else if kind=1 then S++ [last]++Ak kind 2++Gz (Ff bs)
 else S++ [last]++Ak kind 2++Za7 bs
noncomputable def Ql:List (List Nat×Nat)->List Bool->List Bool
 | [],S=>S
 | (bs,k)::r,S=>Ql r (Zbg S bs k (decide (r= [])))
def padB (S:List Bool):List Bool:=S++List.replicate (freeN S.length) false
end Go.Proofs.YtcjbgpacnkilnaiGreatDoor
