import Derived.Test.YtieianhejdcgdaaGreatDoorQ11
import Derived.Deep.RegionHeld3
import Derived.Below
namespace Go.Proofs.YtieianhejdcgdaaGreatDoor
open Go.RowKit
set_option linter.unusedVariables false
set_option maxRecDepth 100000
theorem Aw {a w:World}(h:Below a.heap.size a w)(o:Obj):Below a.heap.size a (w.alloc o):=h.alloc h.size o
theorem Co {B:Nat}{a w:World}(h:Below B a w):Below B a w.drew:=Af h 1
theorem Z3z {W:World}{p:Addr}{v:Value}(h:W.cell? p=some v):W.drew.cell? p=some v:=h
theorem Nh {W:World}{p:Addr}{v:Value}{o:Obj}(h:W.cell? p=some v):(W.alloc o).cell? p=some v:=(World.cell?_alloc_some W p o (by rw[h];rfl)).trans h
theorem FsIn.head {w:World}{ad:Option Addr}{c:Nat}{x:Fv}{xs:List Fv}(h:FsIn w ad c (x::xs)){w':World}(hB:Below w.heap.size w w'):
 ∃b o,ad=some ⟨b,o,none⟩/\b<w.heap.size/\w'.cell? ⟨b,o,none⟩=some (.string (B x.f.name))/\w'.cell? ⟨b,o+1,none⟩=some x.sl/\w'.cell? ⟨b,o+2,none⟩=some (.int .i64 x.f.stamp)/\w'.cell? ⟨b,o+3,none⟩=some (.int .i64 x.f.node)/\w'.cell? ⟨b,o+4,none⟩=some (.bool x.f.gone):=by
 obtain⟨b,o,h1,h2,h3,h4,h5,h6,h7⟩:=h.get (k:=0) (x:=x) hB rfl;simp only[ZI,YN]at h3 h4 h5 h6 h7;exact⟨b,o,h1,h2,h3,h4,h5,h6,h7⟩
theorem Z7l (wr:World)(o1 o2:Obj)(cs:Array Value)(t:TypeId):(((wr.alloc o1).alloc o2).alloc (.cells cs t)).drew.heap[wr.heap.size+2]? =some (.cells cs t (0,0))/\wr.heap.size<=wr.heap.size+2/\Below wr.heap.size wr (((wr.alloc o1).alloc o2).alloc (.cells cs t)).drew:=by
 refine⟨?_,by omega,Co (Aw (Aw (Aw (Below.refl _ _) _) _) _)⟩;have:=heap_alloc_new ((wr.alloc o1).alloc o2) (.cells cs t)
 rw[World.size_alloc,World.size_alloc]at this;exact this
theorem Z7m (wr:World)(o1 o2:Obj)(cs:Array Value)(t:TypeId):(((wr.alloc (.cells cs t)).alloc o1).alloc o2).drew.heap[wr.heap.size]? =some (.cells cs t (0,0))/\wr.heap.size<=wr.heap.size/\Below wr.heap.size wr (((wr.alloc (.cells cs t)).alloc o1).alloc o2).drew:=by
 refine⟨?_,by omega,Co (Aw (Aw (Aw (Below.refl _ _) _) _) _)⟩;show (((wr.alloc (.cells cs t)).alloc o1).alloc o2).heap[wr.heap.size]? =_
 rw[Below.heap_alloc _ _ _ (by simp;omega),Below.heap_alloc _ _ _ (by simp),heap_alloc_new]
theorem Lv (out:List Fv)(z:Fv):fls (out++ [z])=fls out++ [z.f]:=by simp[fls]
end Go.Proofs.YtieianhejdcgdaaGreatDoor
namespace Go.Proofs.YtieianhejdcgdaaGreatDoor
set_option linter.unusedVariables false
abbrev Tk:=Nat×Int×Int
def Cu (t:Tk)(n:Nat):Int:=
 if t.2.1=0/\t.2.2=0 then 0 else if t.2.1=0\/t.1≠0 then 4 else if t.2.1<3\/258<t.2.1\/t.2.2<1 then 3 else if (n:Int)<t.2.2 then 9 else 0
def wid (t:Tk):Nat:=if t.2.1=0 then 1 else t.2.1.toNat
def Mh:List Tk->Nat->Int
 | [],n=>if 3000<n then 2 else 0
 |t::r,n=>if Cu t n=0 then Mh r (n+wid t)else Cu t n
def Me (acc:List Nat)(f:Nat):Nat->List Nat
 |0=>acc
 |m+1=>Me (acc++ [acc.getD (acc.length-f) 0]) f m
def A4 (t:Tk)(acc:List Nat):List Nat:=if t.2.1=0 then acc++ [t.1]else Me acc t.2.2.toNat t.2.1.toNat
def Tg:List Tk->List Nat->List Nat
 | [],acc=>acc
 |t::r,acc=>Tg r (A4 t acc)
theorem Z3r {l:List Tk}{k:Nat}(h:k<l.length):l.drop k=l.getD k (0,0,0)::l.drop (k+1):=by
 rw[XD h]
 congr 1
 simp[List.getD,h]
theorem Nx (f:Nat):∀(m:Nat) (acc:List Nat),(Me acc f m).length=acc.length+m
 |0,acc=>rfl
 |m+1,acc=>by rw[Me,Nx f m];simp;omega
theorem Dv {t:Tk}{n:Nat}(h:Cu t n=0):(t.2.1=0/\t.2.2=0)\/ (t.1=0/\3<=t.2.1/\t.2.1<=258/\1<=t.2.2/\t.2.2<=n):=by
 unfold Cu at h
 by_cases h1:t.2.1=0/\t.2.2=0
 . exact .inl h1
 . rw[if_neg h1]at h
   by_cases h2:t.2.1=0\/t.1≠0
   . rw[if_pos h2]at h;omega
   . rw[if_neg h2]at h
     by_cases h3:t.2.1<3\/258<t.2.1\/t.2.2<1
     . rw[if_pos h3]at h;omega
     . rw[if_neg h3]at h
       by_cases h4:(n:Int)<t.2.2
       . rw[if_pos h4]at h;omega
       . have:t.1=0:=by
          by_cases e:t.1=0
          . exact e
          . exact absurd (.inr e) h2
         exact .inr ⟨this,by omega,by omega,by omega,by omega⟩
theorem NY {t:Tk}{n:Nat}(h:(t.2.1=0/\t.2.2=0)\/ (t.1=0/\3<=t.2.1/\t.2.1<=258/\1<=t.2.2/\t.2.2<=n)):Cu t n=0:=by
 unfold Cu
 rcases h with h|⟨h0,h1,h2,h3,h4⟩
 . rw[if_pos h]
 . rw[if_neg (by omega),if_neg (by omega),if_neg (by omega),if_neg (by omega)]
theorem Z4m {t:Tk}{n:Nat}(h:Cu t n=0):1<=wid t/\wid t<=258:=by
 unfold wid
 rcases Dv h with ⟨a,b⟩|⟨a,b,c,d,e⟩
 . rw[if_pos a];omega
 . rw[if_neg (by omega)];omega
theorem Z1k {t:Tk}{n:Nat}(h:Cu t n=0):max t.2.1 1=(wid t:Int):=by
 unfold wid
 rcases Dv h with ⟨a,b⟩|⟨a,b,c,d,e⟩
 . rw[if_pos a,a];rfl
 . rw[if_neg (by omega)];omega
theorem Hl {t:Tk}{acc:List Nat}:(A4 t acc).length=acc.length+wid t:=by
 unfold A4 wid
 by_cases h:t.2.1=0
 . rw[if_pos h,if_pos h];simp
 . rw[if_neg h,if_neg h,Nx]
theorem L4 {n:Nat}:∀ {l:List Tk},Mh l n=0->n<=3000:=by
 intro l
 induction l generalizing n with
 |nil=>
  intro h;rw[Mh]at h
  by_cases h1:3000<n
  . rw[if_pos h1]at h;omega
  . omega
 |cons t r ih=>
  intro h;rw[Mh]at h
  by_cases h1:Cu t n=0
  . rw[if_pos h1]at h;have:=ih h
    omega
  . rw[if_neg h1]at h;exact absurd h h1
def lcp (bs:List Nat):Nat->Nat->Nat->Nat
 |_,_,0=>0
 |i,k,m+1=>if bs.getD i 0=bs.getD k 0 then lcp bs (i+1) (k+1) m+1 else 0
theorem Rb (bs:List Nat):∀m i k,lcp bs i k m<=m
 |0,i,k=>by simp[lcp]
 |m+1,i,k=>by
  rw[lcp];have:=Rb bs m (i+1) (k+1)
  split<;>omega
theorem Jm (bs:List Nat):∀m i k j,j<lcp bs i k m->bs.getD (i+j) 0=bs.getD (k+j) 0
 |0,i,k,j,h=>by simp[lcp]at h
 |m+1,i,k,j,h=>by
  rw[lcp]at h
  split at h
  . rename_i e
    match j with
    |0=>exact e
    |j+1=>
     have:=Jm bs m (i+1) (k+1) j (by omega)
     rw[show i+(j+1)=i+1+j by omega,show k+(j+1)=k+1+j by omega];exact this
  . omega
theorem BE (bs:List Nat):∀m i k,lcp bs i k m<m->bs.getD (i+lcp bs i k m) 0≠bs.getD (k+lcp bs i k m) 0
 |0,i,k,h=>by omega
 |m+1,i,k,h=>by
  rw[lcp]at h ⊢
  split at h
  . rename_i e
    rw[if_pos e];have:=BE bs m (i+1) (k+1) (by omega)
    rw[show i+(lcp bs (i+1) (k+1) m+1)=i+1+lcp bs (i+1) (k+1) m by omega,show k+(lcp bs (i+1) (k+1) m+1)=k+1+lcp bs (i+1) (k+1) m by omega];exact this
  . rename_i e
    rw[if_neg e];exact e
theorem Z10 {bs:List Nat}{m i k s:Nat}(hs:s<=m)(h:∀j,j<s->bs.getD (i+j) 0=bs.getD (k+j) 0):s<=lcp bs i k m:=by
 by_cases hlt:lcp bs i k m<s
 . exact absurd (h _ hlt) (BE bs m i k (by omega))
 . omega
theorem D6 {bs:List Nat}{m i k s:Nat}(h:bs.getD (i+s) 0≠bs.getD (k+s) 0):lcp bs i k m<=s:=by
 by_cases hlt:s<lcp bs i k m
 . exact absurd (Jm bs m i k s hlt) h
 . omega
theorem Z11 {bs:List Nat}{m i k s:Nat}(hs:s<=m)(h:∀j,j<s->bs.getD (i+j) 0=bs.getD (k+j) 0)(he:s=m\/bs.getD (i+s) 0≠bs.getD (k+s) 0):lcp bs i k m=s:=by
 have h1:=Z10 hs h;have h2:=Rb bs m i k
 rcases he with e|e
 . omega
 . have:=D6 (m:=m) e;omega
def mst (n k:Nat):Nat:=min 258 (n-k)
def bst (bs:List Nat)(k m:Nat):Nat->Nat×Nat
 |0=>(0,0)
 |d+1=>if (bst bs k m d).1<lcp bs (k-(d+1)) k m then (lcp bs (k-(d+1)) k m,d+1)else bst bs k m d
def lng (bs:List Nat)(k:Nat):Nat×Nat:=if (bst bs k (mst bs.length k) k).1<3 then (0,0)else bst bs k (mst bs.length k) k
structure Bst (bs:List Nat)(k m D:Nat)(p:Nat×Nat):Prop where
 most:∀d,1<=d->d<=D->lcp bs (k-d) k m<=p.1
 way:(p.1=0/\p.2=0)\/ (1<=p.2/\p.2<=D/\lcp bs (k-p.2) k m=p.1/\0<p.1/\∀d,1<=d->d<p.2->lcp bs (k-d) k m<p.1)
theorem CI (bs:List Nat)(k m:Nat):∀D,Bst bs k m D (bst bs k m D)
 |0=>⟨fun d h h'=>by omega,.inl ⟨rfl,rfl⟩⟩
 |D+1=>by
  have ih:=CI bs k m D;rw[bst]
  by_cases h:(bst bs k m D).1<lcp bs (k-(D+1)) k m
  . rw[if_pos h];refine⟨?_,.inr ⟨by simp,by simp,rfl,by show 0<lcp bs (k-(D+1)) k m;omega, ?_⟩⟩
    . intro d h1 h2
      by_cases e:d=D+1
      . rw[e];exact VC _
      . exact YU (XV (ih.most d h1 (by omega)) h)
    . intro d h1 h2;have h2':d<D+1:=h2;exact XV (ih.most d h1 (by omega)) h
  . rw[if_neg h];refine⟨?_, ?_⟩
    . intro d h1 h2
      by_cases e:d=D+1
      . rw[e];omega
      . exact ih.most d h1 (by omega)
    . rcases ih.way with h1|⟨h1,h2,h3,h4,h5⟩
      . exact .inl h1
      . exact .inr ⟨h1,by omega,h3,h4,h5⟩
theorem Z5h {bs:List Nat}{k n f:Nat}(h3:3<=n)(hf1:1<=f)(hfk:f<=k)(he:lcp bs (k-f) k (mst bs.length k)=n)(hm:∀d,1<=d->d<=k->lcp bs (k-d) k (mst bs.length k)<=n)(hn:∀d,1<=d->d<f->lcp bs (k-d) k (mst bs.length k)<n):lng bs k=(n,f):=by
 have B:=CI bs k (mst bs.length k) k;unfold lng;generalize bst bs k (mst bs.length k) k=p at*;obtain⟨a,b⟩:=p;have m1:=B.most f hf1 hfk;simp only at m1
 rw[he]at m1;rw[if_neg (by show ¬a<3;omega)]
 rcases B.way with ⟨h1,h2⟩|⟨h1,h2,h4,h5,h6⟩
 . simp only at h1;omega
 . simp only at h1 h2 h4 h5 h6
   have m2:=hm b h1 h2;rw[h4]at m2;have ea:a=n:=by omega
   have eb:b=f:=by
    by_cases c:b<f
    . have:=hn b h1 c;omega
    . by_cases c2:f<b
      . have:=h6 f hf1 c2;omega
      . omega
   rw[ea,eb]
theorem BC {bs:List Nat}{k:Nat}(hm:∀d,1<=d->d<=k->lcp bs (k-d) k (mst bs.length k)<3):lng bs k=(0,0):=by
 have B:=CI bs k (mst bs.length k) k;unfold lng
 rcases B.way with ⟨h1,h2⟩|⟨h1,h2,h4,h5,h6⟩
 . rw[if_pos (by omega)]
 . have:=hm _ h1 h2
   rw[h4]at this;rw[if_pos this]
structure Lng (bs:List Nat)(k n f:Nat):Prop where
 three:3<=n
 one:1<=f
 ahead:f<=k
 is:lcp bs (k-f) k (mst bs.length k)=n
 most:∀d,1<=d->d<=k->lcp bs (k-d) k (mst bs.length k)<=n
 near:∀d,1<=d->d<f->lcp bs (k-d) k (mst bs.length k)<n
theorem Z5g (bs:List Nat)(k:Nat):((lng bs k)=(0,0)/\∀d,1<=d->d<=k->lcp bs (k-d) k (mst bs.length k)<3)\/Lng bs k (lng bs k).1 (lng bs k).2:=by
 have B:=CI bs k (mst bs.length k) k;unfold lng
 by_cases h:(bst bs k (mst bs.length k) k).1<3
 . rw[if_pos h];exact .inl ⟨rfl,fun d h1 h2=>XV (B.most d h1 h2) h⟩
 . rw[if_neg h]
   rcases B.way with ⟨h1,h2⟩|⟨h1,h2,h4,h5,h6⟩
   . omega
   . exact .inr ⟨by omega,h1,h2,h4,B.most,h6⟩
theorem Lng.le {bs:List Nat}{k n f:Nat}(h:Lng bs k n f):n<=258/\k+n<=bs.length:=by
 have:=Rb bs (mst bs.length k) (k-f) k
 rw[h.is]at this;have h3:=h.three;unfold mst at this;omega
theorem Lng.same {bs:List Nat}{k n f:Nat}(h:Lng bs k n f){j:Nat}(hj:j<n):bs.getD (k+j) 0=bs.getD (k-f+j) 0:=by
 have:=Jm bs (mst bs.length k) (k-f) k j (by rw[h.is];exact hj)
 exact this.symm
def He (bs:List Nat)(p:Nat):Nat×Nat×Nat:=(bs.getD p 0,bs.getD (p+1) 0,bs.getD (p+2) 0)
def plc (bs:List Nat)(kn:Nat)(c:Nat×Nat×Nat):List Nat:=(List.range kn).filter (fun p=>decide (He bs p=c))
theorem RT (bs:List Nat)(kn:Nat)(c:Nat×Nat×Nat):plc bs (kn+1) c=plc bs kn c++if He bs kn=c then [kn]else []:=by
 unfold plc;rw[List.range_succ,List.filter_append]
 congr 1
 by_cases h:He bs kn=c<;>simp[h]
theorem KQ {bs:List Nat}{kn p:Nat}{c:Nat×Nat×Nat}:p∈plc bs kn c↔p<kn/\He bs p=c:=by simp[plc]
theorem RU (bs:List Nat)(kn:Nat)(c:Nat×Nat×Nat){i j:Nat}(hj:j<(plc bs kn c).length)(hij:i<j):(plc bs kn c).getD i 0<(plc bs kn c).getD j 0:=by
 have hp:(plc bs kn c).Pairwise (· < ·):=by
  unfold plc;exact List.Pairwise.filter _ List.pairwise_lt_range
 have:=YP.1 hp i j (by omega) hj hij
 simpa[List.getD,hj,show i<(plc bs kn c).length by omega]using this
theorem KR (bs:List Nat)(kn:Nat)(c:Nat×Nat×Nat){j:Nat}(hj:j<(plc bs kn c).length):(plc bs kn c).getD j 0<kn/\He bs ((plc bs kn c).getD j 0)=c:=by
 have:(plc bs kn c).getD j 0∈plc bs kn c:=by
  simp only[List.getD,VR hj,XR];exact WR hj
 exact KQ.1 this
theorem BG {bs:List Nat}{p k m:Nat}(hm:3<=m):He bs p=He bs k↔3<=lcp bs p k m:=by
 unfold He
 constructor
 . intro h;simp only[YW]at h;refine Z10 hm ?_;intro j hj
   match j,hj with
   |0,_=>exact h.1
   |1,_=>exact h.2.1
   |2,_=>exact h.2.2
 . intro h;have h0:=Jm bs m p k 0 (by omega);have h1:=Jm bs m p k 1 (by omega);have h2:=Jm bs m p k 2 (by omega);simp only[YN]at h0;rw[h0,h1,h2]
def Han (bs:List Nat)(k:Nat)(zs:List Nat)(q n f:Nat):Prop:=
 (q=0/\n=0/\f=0)\/ (3<=n/\∃j,zs.length-q<=j/\j<zs.length/\f=k-zs.getD j 0/\lcp bs (zs.getD j 0) k (mst bs.length k)=n/\
  (∀j',zs.length-q<=j'->j'<zs.length->lcp bs (zs.getD j' 0) k (mst bs.length k)<=n)/\(∀j',j<j'->j'<zs.length->lcp bs (zs.getD j' 0) k (mst bs.length k)<n))
theorem Han.le {bs:List Nat}{k:Nat}{zs:List Nat}{q n f:Nat}(h:Han bs k zs q n f):n<=mst bs.length k/\f<=k:=by
 rcases h with ⟨_,rfl,rfl⟩|⟨_,j,_,_,h1,h2,_⟩
 . exact⟨VM _,VM _⟩
 . exact⟨by rw[<-h2];exact Rb _ _ _ _,by omega⟩
theorem Han.more {bs:List Nat}{k:Nat}{zs:List Nat}{q n f:Nat}(h:Han bs k zs q n f)(hq:q<zs.length)(h3:∀j,j<zs.length->3<=lcp bs (zs.getD j 0) k (mst bs.length k))(hm:n<lcp bs (zs.getD (zs.length-1-q) 0) k (mst bs.length k)):
 Han bs k zs (q+1) (lcp bs (zs.getD (zs.length-1-q) 0) k (mst bs.length k)) (k-zs.getD (zs.length-1-q) 0):=by
 have hold:∀j',zs.length-q<=j'->j'<zs.length->lcp bs (zs.getD j' 0) k (mst bs.length k)<=n:=by
  rcases h with ⟨h0,rfl,rfl⟩|⟨_,j,_,_,_,_,h1,_⟩
  . intro j' a b;omega
  . exact h1
 refine .inr ⟨h3 _ (by omega),zs.length-1-q,by omega,by omega,rfl,rfl, ?_, ?_⟩
 . intro j' a b
   by_cases e:j'=zs.length-1-q
   . rw[e];exact VC _
   . have:=hold j' (by omega) b;omega
 . intro j' a b;have:=hold j' (by omega) b;omega
theorem Han.less {bs:List Nat}{k:Nat}{zs:List Nat}{q n f:Nat}(h:Han bs k zs q n f)(hq:q<zs.length)(h3:∀j,j<zs.length->3<=lcp bs (zs.getD j 0) k (mst bs.length k))(hm:lcp bs (zs.getD (zs.length-1-q) 0) k (mst bs.length k)<=n):
 Han bs k zs (q+1) n f:=by
 rcases h with ⟨h0,rfl,rfl⟩|⟨h0,j,a1,a2,a3,a4,a5,a6⟩
 . have:=h3 (zs.length-1-q) (by omega);omega
 . refine .inr ⟨h0,j,by omega,a2,a3,a4, ?_,a6⟩;intro j' b1 b2
   by_cases e:j'=zs.length-1-q
   . rw[e];exact hm
   . exact a5 j' (by omega) b2
theorem Han.lng {bs:List Nat}{k n f q:Nat}(hk:3<=mst bs.length k)(h:Han bs k (plc bs k (He bs k)) q n f)(he:q=(plc bs k (He bs k)).length\/n=mst bs.length k):lng bs k=(n,f):=by
 have hin:∀d,1<=d->d<=k->3<=lcp bs (k-d) k (mst bs.length k)->∃j,j<(plc bs k (He bs k)).length/\(plc bs k (He bs k)).getD j 0=k-d:=by
  intro d h1 h2 h3;have:k-d∈plc bs k (He bs k):=KQ.2 ⟨by omega,(BG hk).2 h3⟩
  obtain⟨j,hj,e⟩:=XC this;exact⟨j,hj,by simpa[List.getD,hj]using e⟩
 rcases h with ⟨h0,rfl,rfl⟩|⟨h0,j,a1,a2,a3,a4,a5,a6⟩
 . have hL:(plc bs k (He bs k)).length=0:=by omega
   apply BC
   intro d h1 h2
   by_cases c:lcp bs (k-d) k (mst bs.length k)<3
   . exact c
   . obtain⟨j,hj,_⟩:=hin d h1 h2 (by omega);omega
 . obtain⟨p1,p2⟩:=KR bs k (He bs k) a2;have ef:k-f=(plc bs k (He bs k)).getD j 0:=by omega
   refine Z5h h0 (by omega) (by omega) (by rw[ef];exact a4) ?_ ?_
   . intro d h1 h2
     rcases he with e|e
     . by_cases c:lcp bs (k-d) k (mst bs.length k)<3
       . omega
       . obtain⟨j',hj',e'⟩:=hin d h1 h2 (by omega);have:=a5 j' (by omega) hj'
         rw[e']at this;exact this
     . rw[e];exact Rb _ _ _ _
   . intro d h1 h2
     by_cases c:lcp bs (k-d) k (mst bs.length k)<3
     . omega
     . obtain⟨j',hj',e'⟩:=hin d h1 (by omega) (by omega)
       have hjj:j<j':=by
        by_cases c1:j'=j
        . rw[c1]at e';omega
        . by_cases c2:j'<j
          . have:=RU bs k (He bs k) a2 c2
            omega
          . omega
       have:=a6 j' hjj hj'
       rw[e']at this;exact this
def Od (bs:List Nat)(k:Nat):Tk:=if (lng bs k).1=0 then (bs.getD k 0,0,0)else if (lng bs k).1<(lng bs (k+1)).1 then (bs.getD k 0,0,0)else (0,((lng bs k).1:Int),((lng bs k).2:Int))
def tks (bs:List Nat):Nat->Nat->List Tk
 |0,_=> []
 |m+1,k=>if k<bs.length then Od bs k::tks bs m (k+wid (Od bs k))else []
def Dm (bs:List Nat):List Tk:=tks bs bs.length 0
theorem P5 (bs:List Nat)(k:Nat)(hk:k<bs.length):(Od bs k=(bs.getD k 0,0,0)/\wid (Od bs k)=1)\/ (∃n f,Lng bs k n f/\lng bs k=(n,f)/\Od bs k=(0,(n:Int),(f:Int))/\wid (Od bs k)=n):=by
 unfold Od
 by_cases h:(lng bs k).1=0
 . rw[if_pos h];exact .inl ⟨rfl,rfl⟩
 . rw[if_neg h]
   by_cases h2:(lng bs k).1<(lng bs (k+1)).1
   . rw[if_pos h2];exact .inl ⟨rfl,rfl⟩
   . rw[if_neg h2]
     rcases Z5g bs k with ⟨e,_⟩|hL
     . rw[e]at h;exact absurd rfl h
     . refine .inr ⟨(lng bs k).1,(lng bs k).2,hL,rfl,rfl, ?_⟩;unfold wid;rw[if_neg (by simpa using h)];simp
theorem Ku (bs:List Nat)(k:Nat)(hk:k<bs.length):1<=wid (Od bs k)/\k+wid (Od bs k)<=bs.length:=by
 rcases P5 bs k hk with ⟨_,e⟩|⟨n,f,hL,_,_,e⟩
 . omega
 . have:=hL.le
   have:=hL.three
   omega
theorem Tx (bs:List Nat)(k:Nat)(hk:k<bs.length):Cu (Od bs k) k=0:=by
 apply NY
 rcases P5 bs k hk with ⟨e,_⟩|⟨n,f,hL,_,e,_⟩
 . rw[e];exact .inl ⟨rfl,rfl⟩
 . rw[e];have:=hL.le
   have:=hL.three
   have:=hL.one
   have:=hL.ahead
   exact .inr ⟨rfl,by simp only;omega,by simp only;omega,by simp only;omega,by simp only;omega⟩
theorem J8 {bs:List Nat}{k f:Nat}(hf1:1<=f)(hfk:f<=k):∀m j,k+(j+m)<=bs.length->(∀i,i<j+m->bs.getD (k+i) 0=bs.getD (k-f+i) 0)->Me (bs.take (k+j)) f m=bs.take (k+(j+m))
 |0,j,_,_=>rfl
 |m+1,j,hl,h=>by
  rw[Me];have e1:(bs.take (k+j)).length=k+j:=by simp;omega
  have e2:(bs.take (k+j)).getD ((bs.take (k+j)).length-f) 0=bs.getD (k+j) 0:=by
   rw[e1,h j (by omega),show k+j-f=k-f+j by omega];simp[List.getD,show k-f+j<k+j by omega]
  have e3:bs.take (k+j)++ [bs.getD (k+j) 0]=bs.take (k+(j+1)):=by
   rw[show k+(j+1)=(k+j)+1 by omega,WU (by omega)];simp[List.getD,show k+j<bs.length by omega]
  rw[e2,e3,J8 hf1 hfk m (j+1) (by omega) (fun i hi=>h i (by omega)),show j+1+m=j+(m+1) by omega]
theorem KO (bs:List Nat)(k:Nat)(hk:k<bs.length):A4 (Od bs k) (bs.take k)=bs.take (k+wid (Od bs k)):=by
 unfold A4
 rcases P5 bs k hk with ⟨e,e2⟩|⟨n,f,hL,_,e,e2⟩
 . rw[e2,e,if_pos rfl,WU hk];simp[List.getD,hk]
 . have h3:=hL.three;have hle:=hL.le;rw[e2,e,if_neg (by simp only;omega)];simp only[WL];have:=J8 (bs:=bs) hL.one hL.ahead n 0 (by omega) (fun i hi=>hL.same (by omega))
   simpa using this
theorem QY (bs:List Nat)(m k:Nat)(h:bs.length<=k):tks bs m k= []:=by
 cases m with
 |zero=>rfl
 |succ m=>rw[tks,if_neg (by omega)]
theorem QX (bs:List Nat)(m k:Nat)(h:k<bs.length)(hm:bs.length<=k+m):∃m',tks bs m k=Od bs k::tks bs m' (k+wid (Od bs k))/\bs.length<=k+wid (Od bs k)+m':=by
 cases m with
 |zero=>omega
 |succ m=>
  have:=Ku bs k h
  exact⟨m,by rw[tks,if_pos h],by omega⟩
theorem JH (bs:List Nat):∀m k,k<=bs.length->bs.length<=k+m->Tg (tks bs m k) (bs.take k)=bs
 |0,k,h,h2=>by
  rw[tks,Tg];exact VP (by omega)
 |m+1,k,h,h2=>by
  rw[tks]
  by_cases hk:k<bs.length
  . have:=Ku bs k hk
    rw[if_pos hk,Tg,KO bs k hk,JH bs m _ (by omega) (by omega)]
  . rw[if_neg hk,Tg];exact VP (by omega)
theorem JI (bs:List Nat)(h3:bs.length<=3000):∀m k,k<=bs.length->Mh (tks bs m k) k=0
 |0,k,h=>by rw[tks,Mh,if_neg (by omega)]
 |m+1,k,h=>by
  rw[tks]
  by_cases hk:k<bs.length
  . have:=Ku bs k hk
    rw[if_pos hk,Mh,if_pos (Tx bs k hk)];exact JI bs h3 m _ (by omega)
  . rw[if_neg hk,Mh,if_neg (by omega)]
theorem JG (bs:List Nat):∀m k,k<=bs.length->(tks bs m k).length+k<=bs.length
 |0,k,h=>by rw[tks];simpa using h
 |m+1,k,h=>by
  rw[tks]
  by_cases hk:k<bs.length
  . have:=Ku bs k hk
    rw[if_pos hk,VH];have:=JG bs m _ this.2
    omega
  . rw[if_neg hk];simpa using h
theorem QW (bs:List Nat):Tg (Dm bs) []=bs:=by
 have:=JH bs bs.length 0 (VM _) (by omega)
 simpa[Dm]using this
theorem Ot (bs:List Nat):(Dm bs).length<=bs.length:=by
 have:=JG bs bs.length 0 (VM _)
 unfold Dm;omega
theorem Z1w {bs:List Nat}(hb:∀j,bs.getD j 0<256)(k:Nat):(Od bs k).1<256:=by
 unfold Od
 split
 . exact hb k
 . split
   . exact hb k
   . show 0<256;omega
end Go.Proofs.YtieianhejdcgdaaGreatDoor
namespace Go.Proofs.YtieianhejdcgdaaGreatDoor
open Go.RowKit
set_option linter.unusedVariables false
def wpl (l:List Int):Nat->List Nat
 |0=> []
 |k+1=>wpl l k++(if 0<l.getD k 0 then [k]else [])
theorem Pt (l:List Int):∀k,(wpl l k).length<=k
 |0=>by simp[wpl]
 |k+1=>by
  have:=Pt l k
  rw[wpl,VB]
  split<;>simp<;>omega
theorem S8 (l:List Int)(p:Nat):∀k,p∈wpl l k↔p<k/\0<l.getD p 0
 |0=>by simp[wpl]
 |k+1=>by
  rw[wpl,VZ,S8 l p k]
  by_cases h:0<l.getD k 0
  . rw[if_pos h,WK]
    constructor
    . rintro (⟨h1,h2⟩|rfl)
      . exact⟨by omega,h2⟩
      . exact⟨by omega,h⟩
    . rintro ⟨h1,h2⟩
      by_cases e:p=k
      . exact .inr e
      . exact .inl ⟨by omega,h2⟩
  . rw[if_neg h]
    constructor
    . rintro (⟨h1,h2⟩|h1)
      . exact⟨by omega,h2⟩
      . cases h1
    . rintro ⟨h1,h2⟩
      by_cases e:p=k
      . subst e;exact absurd h2 h
      . exact .inl ⟨by omega,h2⟩
theorem IE (l:List Int)(k:Nat):∀p∈wpl l k,p<k:=fun p h=>((S8 l p k).1 h).1
theorem Y2 (l:List Int):∀k,(wpl l k).Pairwise (· < ·)
 |0=>.nil
 |k+1=>by
  rw[wpl,List.pairwise_append];refine⟨Y2 l k,by split<;>simp,fun a ha b hb=> ?_⟩;have:=IE l k a ha
  split at hb
  . rw[WK]at hb;omega
  . cases hb
def okW (n:Int):Bool:=decide (0<=n/\n<=1000000)
theorem AP {n:Int}(h:okW n=true):0<=n/\n<=1000000:=of_decide_eq_true h
theorem B8 {n:Int}(h:okW n=false):¬(0<=n/\n<=1000000):=of_decide_eq_false h
def Z19 (l:List Int)(most:Int):Int:=if 288<l.length then 2 else if ∃j,j<l.length/\okW (l.getD j 0)=false then 3 else if ¬(1<=most/\most<=15)then 3 else if 2^most.toNat<(wpl l l.length).length then 11 else 0
structure GoodW (l:List Int)(m:Nat):Prop where
 len:l.length<=288
 ok:∀j,j<l.length->0<=l.getD j 0/\l.getD j 0<=1000000
 lo:1<=m
 hi:m<=15
 room:(wpl l l.length).length<=2^m
theorem NL {l:List Int}{m:Nat}(h:GoodW l m):Z19 l m=0:=by
 unfold Z19;have h1:=h.len;have h2:=h.lo;have h3:=h.hi;have h4:=h.room;rw[if_neg (by omega),if_neg,if_neg (by omega),if_neg (by simp;omega)];rintro ⟨j,hj,e⟩;exact B8 e (h.ok j hj)
def Z5e (x:Int)(f:List Int->List (Int×Bool)):List Int->List (Int×Bool)
 | []=>(x,true)::f []
 |y::ys=>if x<=y then (x,true)::f (y::ys)else (y,false)::Z5e x f ys
def mrg:List Int->List Int->List (Int×Bool)
 | []=>fun ys=>ys.map fun y=>(y,false)
 |x::xs=>Z5e x (mrg xs)
theorem Kg (ys:List Int):mrg [] ys=ys.map fun y=>(y,false):=rfl
theorem Mv (x:Int)(xs:List Int):mrg (x::xs) []=(x,true)::mrg xs []:=rfl
theorem Iq (x:Int)(xs:List Int)(y:Int)(ys:List Int):mrg (x::xs) (y::ys)=if x<=y then (x,true)::mrg xs (y::ys)else (y,false)::mrg (x::xs) ys:=rfl
def prs:List Int->List Int
 |a::b::t=>(a+b)::prs t
 |_=> []
def rowAt (W:List Int):Nat->List (Int×Bool)
 |0=>mrg W []
 |k+1=>mrg W (prs ((rowAt W k).map Prod.fst))
def Bn (r:List (Int×Bool))(t:Nat):Nat:=((r.take t).filter Prod.snd).length
def Ck (W:List Int)(most:Nat):Nat->Nat
 |0=>2*(W.length-1)
 |i+1=>2*(Ck W most i-Bn (rowAt W (most-1-i)) (Ck W most i))
def Ba (W:List Int)(most i:Nat):Nat:=Bn (rowAt W (most-1-i)) (Ck W most i)
def Sp (xs:List Int)(p:Nat):List Int:=xs.set p (xs.getD p 0+1)
def Cj (xs:List Int)(ps:List Nat):List Int:=ps.foldl Sp xs
def Ez (n:Nat)(P:List Nat)(W:List Int)(most:Nat):Nat->List Int
 |0=>List.replicate n 0
 |i+1=>Cj (Ez n P W most i) (P.take (Ba W most i))
def Cl (l:List Int)(P:List Nat)(most:Nat):List Int:=
 if P.length<2 then Cj (List.replicate l.length 0) P else Ez l.length P (P.map fun p=>l.getD p 0) most most
structure RiseOf (l:List Int)(P:List Nat):Prop where
 perm:P.Perm (wpl l l.length)
 srt:P.Pairwise fun a b=>l.getD a 0<l.getD b 0\/ (l.getD a 0=l.getD b 0/\a<b)
def IsLens (l:List Int)(most:Nat)(s:List Int):Prop:=∃P,RiseOf l P/\s=Cl l P most
end Go.Proofs.YtieianhejdcgdaaGreatDoor
namespace Go.Proofs.YtieianhejdcgdaaGreatDoor
set_option linter.unusedVariables false
inductive It where
 |sym (k:Nat)
 |far (k:Nat)
 |rest (n s:Nat)
deriving DecidableEq
def Qh (g n:Nat):Nat->Nat->Nat
 |0,s=>s
 |f+1,s=>if n/2^s<2*g then s else Qh g n f (s+1)
def Ky (g n:Nat):Nat:=Qh g n 12 0
def Vy (g n:Nat):Nat:=g*Ky g n+n/2^Ky g n
def Su (g n:Nat):Nat:=n%2^Ky g n
def Cd (n:Nat):Nat×Nat×Nat:=if n=258 then (285,0,0)else (257+Vy 4 (n-3),Su 4 (n-3),Ky 4 (n-3))
def Id (d:Nat):Nat×Nat×Nat:=(Vy 2 (d-1),Su 2 (d-1),Ky 2 (d-1))
def Nu (t:Tk):List It:=
 if t.2.1=0 then [.sym t.1]else [.sym (Cd t.2.1.toNat).1,.rest (Cd t.2.1.toNat).2.1 (Cd t.2.1.toNat).2.2,.far (Id t.2.2.toNat).1,.rest (Id t.2.2.toNat).2.1 (Id t.2.2.toNat).2.2]
def Oj (ts:List Tk):List It:=ts.flatMap Nu
def itsOf (ts:List Tk):List It:=Oj ts++ [.sym 256]
def KP (a b:List Int):It->List Bool
 | .sym k=>An a k
 | .far k=>An b k
 | .rest n s=>Ah n s
def putIs (a b:List Int)(is:List It):List Bool:=is.flatMap (KP a b)
def QZ (is:List It):List Nat:=is.filterMap (fun i=>match i with| .sym k=>some k|_=>none)
def TV (is:List It):List Nat:=is.filterMap (fun i=>match i with| .far k=>some k|_=>none)
def symC (is:List It):List Int:=Cj (List.replicate 286 0) (QZ is)
def farC (is:List It):List Int:=Cj (List.replicate 30 0) (TV is)
noncomputable def lensD (l:List Int)(m:Nat):List Int:= @Classical.epsilon (List Int) ⟨[]⟩ (fun s=>IsLens l m s)
def Gv (l:List Int)(least:Nat):Nat->Nat
 |0=>0
 |n+1=>if least<n+1/\l.getD n 0=0 then Gv l least n else n+1
def trimL (l:List Int)(least:Nat):List Int:=l.take (Gv l least l.length)
def Ej (x:Nat):Nat->Nat->List (Nat×Nat×Nat)
 |0,_=> []
 |f+1,m=>if m=0 then []else if m<3 then (x,0,0)::Ej x f (m-1)else if 0<x then (16,min m 6-3,2)::Ej x f (m-min m 6)else if m<11 then (17,m-3,3)::Ej x f 0 else (18,min m 138-11,7)::Ej x f (m-min m 138)
def Mm (x m:Nat):List (Nat×Nat×Nat):=if 0<x then (x,0,0)::Ej x m (m-1)else Ej x m m
def Bm (x:Int):List Int->Nat
 | []=>0
 |y::r=>if y=x then Bm x r+1 else 0
def Oi:Nat->List Int->List (Nat×Nat×Nat)
 |0,_=> []
 |f+1,l=>match l with
  | []=> []
  |x::r=>Mm x.toNat (Bm x r+1)++Oi f (r.drop (Bm x r))
def lenIs (l:List Int):List (Nat×Nat×Nat):=Oi l.length l
def Yf (is:List (Nat×Nat×Nat)):List Int:=Cj (List.replicate 19 0) (is.map Prod.fst)
def DU (own:List Int)(i:Nat×Nat×Nat):List Bool:=An own i.1++Ah i.2.1 i.2.2
def putRs (own:List Int)(is:List (Nat×Nat×Nat)):List Bool:=is.flatMap (DU own)
def Wq (own:List Int):Nat->Nat
 |0=>0
 |n+1=>if 4<n+1/\own.getD (ord19.getD n 0) 0=0 then Wq own n else n+1
noncomputable def N4 (all:List Int):List Int:=lensD (Yf (lenIs all)) 7
def Jv (a b own:List Int):List Bool:=
 Ah (a.length-257) 5++(Ah (b.length-1) 5++(Ah (Wq own 19-4) 4++((ord19.take (Wq own 19)).flatMap (fun k=>Ah (own.getD k 0).toNat 3)++putRs own (lenIs (a++b)))))
noncomputable def JP (ts:List Tk):List Int:=trimL (lensD (symC (itsOf ts)) 15) 257
noncomputable def NR (ts:List Tk):List Int:=trimL (lensD (farC (itsOf ts)) 15) 1
noncomputable def Gb (a b:List Int)(ts:List Tk):List Bool:=Jv a b (N4 (a++b))++putIs a b (itsOf ts)
def Jw:List Int:=List.replicate 255 8++ [9,9]
def Om:List Int:= [0]
def Dq (bs:List Nat):List Tk:=bs.map (fun b=>(b,0,0))
open Classical in
noncomputable def BZ (bs:List Nat):List Bool:=
 if (Gb Jw Om (Dq bs)).length<(Gb (JP (Dm bs)) (NR (Dm bs)) (Dm bs)).length then Gb Jw Om (Dq bs)else Gb (JP (Dm bs)) (NR (Dm bs)) (Dm bs)
def Gf (ts:List Tk):List Bool:=putIs Mn Ic (itsOf ts)
def freeN (n:Nat):Nat:=(8-n%8)%8
def Ia (S:List Bool)(bs:List Nat):List Bool:=
 S++List.replicate (freeN S.length) false++Ah bs.length 16++Ah (65535-bs.length) 16++rowB bs bs.length
noncomputable def Ko (S:List Bool)(bs:List Nat)(kind:Nat)(last:Bool):List Bool:=
 if kind=0 then Ia (S++ [last]++Ah kind 2) bs
 else if kind=1 then S++ [last]++Ah kind 2++Gf (Dm bs)
 else S++ [last]++Ah kind 2++BZ bs
noncomputable def Gc:List (List Nat×Nat)->List Bool->List Bool
 | [],S=>S
 | (bs,k)::r,S=>Gc r (Ko S bs k (decide (r= [])))
def padB (S:List Bool):List Bool:=S++List.replicate (freeN S.length) false
end Go.Proofs.YtieianhejdcgdaaGreatDoor
