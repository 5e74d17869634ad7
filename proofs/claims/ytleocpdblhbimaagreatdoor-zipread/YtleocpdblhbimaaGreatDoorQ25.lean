import Derived.Test.YtleocpdblhbimaaGreatDoorQ17
import Derived.Below
import Derived.Deep.RegionHeld3
import Derived.Deep.AppendLies
set_option linter.unusedSimpArgs false
set_option linter.unusedVariables false
set_option maxRecDepth 100000
namespace Go.Proofs.YtleocpdblhbimaaGreatDoor
abbrev Tk:=Nat×Int×Int
def Hn (t:Tk)(n:Nat):Int:=
 if t.2.1=0/\t.2.2=0 then 0 else if t.2.1=0\/t.1≠0 then 4 else if t.2.1<3\/258<t.2.1\/t.2.2<1 then 3 else if (n:Int)<t.2.2 then 9 else 0
def wid (t:Tk):Nat:=if t.2.1=0 then 1 else t.2.1.toNat
def JS:List Tk->Nat->Int
 | [],n=>if 3000<n then 2 else 0
 |t::r,n=>if Hn t n=0 then JS r (n+wid t)else Hn t n
def Z8e (acc:List Nat)(f:Nat):Nat->List Nat
 |0=>acc
 |m+1=>Z8e (acc++ [acc.getD (acc.length-f) 0]) f m
theorem Z58 {l:List Tk}{k:Nat}(E:k<l.length):l.drop k=l.getD k (0,0,0)::l.drop (k+1):=by rw[WS E];congr 1;simp[List.getD,E]
theorem Jk {t:Tk}{n:Nat}(E:Hn t n=0):(t.2.1=0/\t.2.2=0)\/ (t.1=0/\3<=t.2.1/\t.2.1<=258/\1<=t.2.2/\t.2.2<=n):=by unfold Hn at E;by_cases H:t.2.1=0/\t.2.2=0;exact .inl H;rw[if_neg H]at E;by_cases F:t.2.1=0\/t.1≠0;rw[if_pos F]at E;omega;rw[if_neg F]at E;by_cases G:t.2.1<3\/258<t.2.1\/t.2.2<1;rw[if_pos G]at E;omega;rw[if_neg G]at E;by_cases I:(n:Int)<t.2.2;rw[if_pos I]at E;omega;(have:t.1=0:=by by_cases e:t.1=0;exact e;exact absurd (.inr e) F);exact .inr ⟨this,om,om,om,om⟩
theorem PU {t:Tk}{n:Nat}(E:(t.2.1=0/\t.2.2=0)\/ (t.1=0/\3<=t.2.1/\t.2.1<=258/\1<=t.2.2/\t.2.2<=n)):Hn t n=0:=by unfold Hn;rcases E with E|⟨M,I,F,G,H⟩;rw[if_pos E];rw[if_neg om,if_neg om,if_neg om,if_neg om]
theorem Z5y {t:Tk}{n:Nat}(E:Hn t n=0):1<=wid t/\wid t<=258:=by unfold wid;(rcases Jk E with ⟨a,b⟩|⟨a,b,c,d,e⟩);rw[if_pos a];omega;rw[if_neg om];omega
theorem Z36 {t:Tk}{n:Nat}(E:Hn t n=0):max t.2.1 1=(wid t:Int):=by unfold wid;(rcases Jk E with ⟨a,b⟩|⟨a,b,c,d,e⟩);rw[if_pos a,a];rfl;rw[if_neg om];omega
theorem QT {n:Nat}:∀ {l:List Tk},JS l n=0->n<=3000:=by
 intro l
 induction l generalizing n with
 |nil=>intro h;rw[JS]at h;by_cases E:3000<n;rw[if_pos E]at h;omega;omega
 |cons t r ih=>intro h;rw[JS]at h;by_cases E:Hn t n=0;rw[if_pos E]at h;have:=ih h;omega;rw[if_neg E]at h;exact absurd h E
def lcp (bs:List Nat):Nat->Nat->Nat->Nat
 |_,_,0=>0
 |i,k,m+1=>if bs.getD i 0=bs.getD k 0 then lcp bs (i+1) (k+1) m+1 else 0
theorem Rm (bs:List Nat):∀m i k,lcp bs i k m<=m
 |0,i,k=>by simp[lcp]
 |m+1,i,k=>by rw[lcp];have:=Rm bs m (i+1) (k+1);split<;>omega
theorem Mc (bs:List Nat):∀m i k j,j<lcp bs i k m->bs.getD (i+j) 0=bs.getD (k+j) 0
 |0,i,k,j,h=>by simp[lcp]at h
 |m+1,i,k,j,h=>by
  rw[lcp]at h;split at h
  . rename_i e
    match j with
    |0=>exact e
    |j+1=>have:=Mc bs m (i+1) (k+1) j om;rw[show i+(j+1)=i+1+j by omega,show k+(j+1)=k+1+j by omega];exact this
  omega
theorem CH (bs:List Nat):∀m i k,lcp bs i k m<m->bs.getD (i+lcp bs i k m) 0≠bs.getD (k+lcp bs i k m) 0
 |0,i,k,h=>om
 |m+1,i,k,h=>by rw[lcp]at h ⊢;split at h;(. rename_i e;rw[if_pos e];have:=CH bs m (i+1) (k+1) om;rw[show i+(lcp bs (i+1) (k+1) m+1)=i+1+lcp bs (i+1) (k+1) m by omega,show k+(lcp bs (i+1) (k+1) m+1)=k+1+lcp bs (i+1) (k+1) m by omega];exact this);. rename_i e;rw[if_neg e];exact e
theorem Z2l {bs:List Nat}{m i k s:Nat}(G:s<=m)(E:∀j,j<s->bs.getD (i+j) 0=bs.getD (k+j) 0):s<=lcp bs i k m:=by by_cases F:lcp bs i k m<s;exact absurd (E _ F) (CH bs m i k om);omega
theorem G0 {bs:List Nat}{m i k s:Nat}(F:bs.getD (i+s) 0≠bs.getD (k+s) 0):lcp bs i k m<=s:=by by_cases E:s<lcp bs i k m;exact absurd (Mc bs m i k s E) F;omega
theorem Z2m {bs:List Nat}{m i k s:Nat}(F:s<=m)(G:∀j,j<s->bs.getD (i+j) 0=bs.getD (k+j) 0)(E:s=m\/bs.getD (i+s) 0≠bs.getD (k+s) 0):lcp bs i k m=s:=by have I:=Z2l F G;have H:=Rm bs m i k;rcases E with e|e;omega;have:=G0 (m:=m) e;omega
def mst (n k:Nat):Nat:=min 258 (n-k)
def bst (bs:List Nat)(k m:Nat):Nat->Nat×Nat
 |0=>(0,0)
 |d+1=>if (bst bs k m d).1<lcp bs (k-(d+1)) k m then (lcp bs (k-(d+1)) k m,d+1)else bst bs k m d
def lng (bs:List Nat)(k:Nat):Nat×Nat:=if (bst bs k (mst bs.length k) k).1<3 then (0,0)else bst bs k (mst bs.length k) k
structure Bst (bs:List Nat)(k m D:Nat)(p:Nat×Nat):Prop where
 most:∀d,1<=d->d<=D->lcp bs (k-d) k m<=p.1
 way:(p.1=0/\p.2=0)\/ (1<=p.2/\p.2<=D/\lcp bs (k-p.2) k m=p.1/\0<p.1/\∀d,1<=d->d<p.2->lcp bs (k-d) k m<p.1)
theorem DT (bs:List Nat)(k m:Nat):∀D,Bst bs k m D (bst bs k m D)
 |0=>⟨fun d h O=>om,.inl ⟨rfl,rfl⟩⟩
 |D+1=>by have ih:=DT bs k m D;rw[bst];by_cases h:(bst bs k m D).1<lcp bs (k-(D+1)) k m;rw[if_pos h];refine⟨?_,.inr ⟨oS,oS,rfl,by show 0<lcp bs (k-(D+1)) k m;omega, ?_⟩⟩;intro d E F;by_cases e:d=D+1;rw[e];exact VB _;exact YX (XO (ih.most d E om) h);intro d E F;have M:d<D+1:=F;exact XO (ih.most d E om) h;rw[if_neg h];refine⟨?_, ?_⟩;intro d E F;by_cases e:d=D+1;rw[e];omega;exact ih.most d E om;rcases ih.way with E|⟨E,F,G,H,I⟩;exact .inl E;exact .inr ⟨E,om,G,H,I⟩
theorem Z6r {bs:List Nat}{k n f:Nat}(aa:3<=n)(I:1<=f)(M:f<=k)(T:lcp bs (k-f) k (mst bs.length k)=n)(U:∀d,1<=d->d<=k->lcp bs (k-d) k (mst bs.length k)<=n)(Y:∀d,1<=d->d<f->lcp bs (k-d) k (mst bs.length k)<n):lng bs k=(n,f):=by have B:=DT bs k (mst bs.length k) k;unfold lng;generalize bst bs k (mst bs.length k) k=p at*;obtain⟨a,b⟩:=p;have m1:=B.most f I M;simp only at m1;rw[T]at m1;rw[if_neg (by show ¬a<3;omega)];(rcases B.way with ⟨E,F⟩|⟨E,F,G,Z,H⟩);simp only at E;omega;simp only at E F G Z H;have m2:=U b E F;rw[G]at m2;have ea:a=n:=om;(have O:b=f:=by by_cases c:b<f;have:=Y b E c;omega;by_cases c2:f<b;have:=H f I c2;omega;omega);rw[ea,O]
theorem CD {bs:List Nat}{k:Nat}(H:∀d,1<=d->d<=k->lcp bs (k-d) k (mst bs.length k)<3):lng bs k=(0,0):=by have B:=DT bs k (mst bs.length k) k;unfold lng;(rcases B.way with ⟨F,E⟩|⟨F,E,G,M,I⟩);rw[if_pos om];have:=H _ F E;rw[G]at this;rw[if_pos this]
structure Lng (bs:List Nat)(k n f:Nat):Prop where
 three:3<=n
 one:1<=f
 ahead:f<=k
 is:lcp bs (k-f) k (mst bs.length k)=n
 most:∀d,1<=d->d<=k->lcp bs (k-d) k (mst bs.length k)<=n
 near:∀d,1<=d->d<f->lcp bs (k-d) k (mst bs.length k)<n
theorem Z6q (bs:List Nat)(k:Nat):((lng bs k)=(0,0)/\∀d,1<=d->d<=k->lcp bs (k-d) k (mst bs.length k)<3)\/Lng bs k (lng bs k).1 (lng bs k).2:=by have B:=DT bs k (mst bs.length k) k;unfold lng;by_cases h:(bst bs k (mst bs.length k) k).1<3;rw[if_pos h];exact .inl ⟨rfl,fun d F E=>XO (B.most d F E) h⟩;rw[if_neg h];(rcases B.way with ⟨F,E⟩|⟨F,E,G,I,H⟩);omega;exact .inr ⟨om,F,E,G,B.most,H⟩
theorem Lng.le {bs:List Nat}{k n f:Nat}(E:Lng bs k n f):n<=258/\k+n<=bs.length:=by have:=Rm bs (mst bs.length k) (k-f) k;rw[E.is]at this;have F:=E.three;unfold mst at this;omega
def Hi (bs:List Nat)(p:Nat):Nat×Nat×Nat:=(bs.getD p 0,bs.getD (p+1) 0,bs.getD (p+2) 0)
def plc (bs:List Nat)(kn:Nat)(c:Nat×Nat×Nat):List Nat:=(List.range kn).filter (fun p=>decide (Hi bs p=c))
theorem Z0a (bs:List Nat)(E:Nat)(c:Nat×Nat×Nat):plc bs (E+1) c=plc bs E c++if Hi bs E=c then [E]else []:=by unfold plc;rw[List.range_succ,List.filter_append];congr 1;by_cases h:Hi bs E=c<;>simp[h]
theorem MJ {bs:List Nat}{E p:Nat}{c:Nat×Nat×Nat}:p∈plc bs E c↔p<E/\Hi bs p=c:=by simp[plc]
theorem Z0c (bs:List Nat)(E:Nat)(c:Nat×Nat×Nat){i j:Nat}(F:j<(plc bs E c).length)(G:i<j):(plc bs E c).getD i 0<(plc bs E c).getD j 0:=by(have H:(plc bs E c).Pairwise (· < ·):=by unfold plc;exact List.Pairwise.filter _ List.pairwise_lt_range);have:=YE.1 H i j om F G;simpa[List.getD,F,show i<(plc bs E c).length by omega]using this
theorem MK (bs:List Nat)(E:Nat)(c:Nat×Nat×Nat){j:Nat}(F:j<(plc bs E c).length):(plc bs E c).getD j 0<E/\Hi bs ((plc bs E c).getD j 0)=c:=by(have:(plc bs E c).getD j 0∈plc bs E c:=by simp only[List.getD,VP F,YH];exact WK F);exact MJ.1 this
theorem CI {bs:List Nat}{p k m:Nat}(H:3<=m):Hi bs p=Hi bs k↔3<=lcp bs p k m:=by
 unfold Hi;constructor
 . intro h;simp only[YD]at h;refine Z2l H ?_;intro j I
   match j,I with
   |0,_=>exact h.1
   |1,_=>exact h.2.1
   |2,_=>exact h.2.2
 intro h;have E:=Mc bs m p k 0 om;have G:=Mc bs m p k 1 om;have F:=Mc bs m p k 2 om;simp only[XN]at E;rw[E,G,F]
def Han (bs:List Nat)(k:Nat)(zs:List Nat)(q n f:Nat):Prop:=
 (q=0/\n=0/\f=0)\/ (3<=n/\∃j,zs.length-q<=j/\j<zs.length/\f=k-zs.getD j 0/\lcp bs (zs.getD j 0) k (mst bs.length k)=n/\
  (∀j',zs.length-q<=j'->j'<zs.length->lcp bs (zs.getD j' 0) k (mst bs.length k)<=n)/\(∀j',j<j'->j'<zs.length->lcp bs (zs.getD j' 0) k (mst bs.length k)<n))
theorem Han.le {bs:List Nat}{k:Nat}{E:List Nat}{q n f:Nat}(G:Han bs k E q n f):n<=mst bs.length k/\f<=k:=by(rcases G with ⟨_,rfl,rfl⟩|⟨_,j,_,_,H,F,_⟩);exact⟨VH _,VH _⟩;exact⟨by rw[<-F];exact Rm _ _ _ _,om⟩
theorem Han.more {bs:List Nat}{k:Nat}{E:List Nat}{q n f:Nat}(I:Han bs k E q n f)(M:q<E.length)(G:∀j,j<E.length->3<=lcp bs (E.getD j 0) k (mst bs.length k))(O:n<lcp bs (E.getD (E.length-1-q) 0) k (mst bs.length k)):Han bs k E (q+1) (lcp bs (E.getD (E.length-1-q) 0) k (mst bs.length k)) (k-E.getD (E.length-1-q) 0):=by(have hold:∀F,E.length-q<=F->F<E.length->lcp bs (E.getD F 0) k (mst bs.length k)<=n:=by(rcases I with ⟨T,rfl,rfl⟩|⟨_,j,_,_,_,_,H,_⟩);intro F a b;omega;exact H);refine .inr ⟨G _ om,E.length-1-q,om,om,rfl,rfl, ?_, ?_⟩;intro F a b;by_cases e:F=E.length-1-q;rw[e];exact VB _;have:=hold F om b;omega;intro F a b;have:=hold F om b;omega
theorem Han.less {bs:List Nat}{k:Nat}{E:List Nat}{q n f:Nat}(Z:Han bs k E q n f)(aa:q<E.length)(H:∀j,j<E.length->3<=lcp bs (E.getD j 0) k (mst bs.length k))(I:lcp bs (E.getD (E.length-1-q) 0) k (mst bs.length k)<=n):Han bs k E (q+1) n f:=by(rcases Z with ⟨G,rfl,rfl⟩|⟨G,j,ac,O,Y,M,T,U⟩);have:=H (E.length-1-q) om;omega;refine .inr ⟨G,j,om,O,Y,M, ?_,U⟩;intro F b1 b2;by_cases e:F=E.length-1-q;rw[e];exact I;exact T F om b2
theorem Han.lng {bs:List Nat}{k n f q:Nat}(ac:3<=mst bs.length k)(h:Han bs k (plc bs k (Hi bs k)) q n f)(aa:q=(plc bs k (Hi bs k)).length\/n=mst bs.length k):lng bs k=(n,f):=by(have O:∀d,1<=d->d<=k->3<=lcp bs (k-d) k (mst bs.length k)->∃j,j<(plc bs k (Hi bs k)).length/\(plc bs k (Hi bs k)).getD j 0=k-d:=by intro d E G Z;have:k-d∈plc bs k (Hi bs k):=MJ.2 ⟨om,(CI ac).2 Z⟩;obtain⟨j,M,e⟩:=XI this;exact⟨j,M,by simpa[List.getD,M]using e⟩);(rcases h with ⟨U,rfl,rfl⟩|⟨U,j,ai,T,ak,Y,ae,ag⟩);have aj:(plc bs k (Hi bs k)).length=0:=om;apply CD;intro d E G;by_cases c:lcp bs (k-d) k (mst bs.length k)<3;exact c;obtain⟨j,M,_⟩:=O d E G om;omega;obtain⟨al,ah⟩:=MK bs k (Hi bs k) T;have ef:k-f=(plc bs k (Hi bs k)).getD j 0:=om;refine Z6r U om om (by rw[ef];exact Y) ?_ ?_;intro d E G;rcases aa with e|e;by_cases c:lcp bs (k-d) k (mst bs.length k)<3;omega;obtain⟨F,I,H⟩:=O d E G om;have:=ae F om I;rw[H]at this;exact this;rw[e];exact Rm _ _ _ _;intro d E G;by_cases c:lcp bs (k-d) k (mst bs.length k)<3;omega;obtain⟨F,I,H⟩:=O d E om om;(have af:j<F:=by by_cases c1:F=j;rw[c1]at H;omega;by_cases c2:F<j;have:=Z0c bs k (Hi bs k) T c2;omega;omega);have:=ag F af I;rw[H]at this;exact this
def Qd (bs:List Nat)(k:Nat):Tk:=if (lng bs k).1=0 then (bs.getD k 0,0,0)else if (lng bs k).1<(lng bs (k+1)).1 then (bs.getD k 0,0,0)else (0,((lng bs k).1:Int),((lng bs k).2:Int))
def tks (bs:List Nat):Nat->Nat->List Tk
 |0,_=> []
 |m+1,k=>if k<bs.length then Qd bs k::tks bs m (k+wid (Qd bs k))else []
def Gi (bs:List Nat):List Tk:=tks bs bs.length 0
theorem KX (bs:List Nat)(k:Nat)(G:k<bs.length):(Qd bs k=(bs.getD k 0,0,0)/\wid (Qd bs k)=1)\/ (∃n f,Lng bs k n f/\lng bs k=(n,f)/\Qd bs k=(0,(n:Int),(f:Int))/\wid (Qd bs k)=n):=by unfold Qd;by_cases h:(lng bs k).1=0;rw[if_pos h];exact .inl ⟨rfl,rfl⟩;rw[if_neg h];by_cases E:(lng bs k).1<(lng bs (k+1)).1;rw[if_pos E];exact .inl ⟨rfl,rfl⟩;rw[if_neg E];(rcases Z6q bs k with ⟨e,_⟩|F);rw[e]at h;exact absurd rfl h;refine .inr ⟨(lng bs k).1,(lng bs k).2,F,rfl,rfl, ?_⟩;unfold wid;rw[if_neg (by simpa using h)];simp
theorem Oq (bs:List Nat)(k:Nat)(F:k<bs.length):1<=wid (Qd bs k)/\k+wid (Qd bs k)<=bs.length:=by(rcases KX bs k F with ⟨_,e⟩|⟨n,f,E,_,_,e⟩);omega;have:=E.le;have:=E.three;omega
theorem Uo (bs:List Nat)(k:Nat)(F:k<bs.length):Hn (Qd bs k) k=0:=by apply PU;(rcases KX bs k F with ⟨e,_⟩|⟨n,f,E,_,e,_⟩);rw[e];exact .inl ⟨rfl,rfl⟩;rw[e];have:=E.le;have:=E.three;have:=E.one;have:=E.ahead;exact .inr ⟨rfl,by simp only;omega,by simp only;omega,by simp only;omega,by simp only;omega⟩
theorem TP (bs:List Nat)(m k:Nat)(E:bs.length<=k):tks bs m k= []:=by
 cases m with
 |zero=>rfl
 |succ m=>rw[tks,if_neg om]
theorem TN (bs:List Nat)(m k:Nat)(F:k<bs.length)(G:bs.length<=k+m):∃E,tks bs m k=Qd bs k::tks bs E (k+wid (Qd bs k))/\bs.length<=k+wid (Qd bs k)+E:=by
 cases m with
 |zero=>omega
 |succ m=>have:=Oq bs k F;exact⟨m,by rw[tks,if_pos F],om⟩
theorem KW (bs:List Nat)(F:bs.length<=3000):∀m k,k<=bs.length->JS (tks bs m k) k=0
 |0,k,h=>by rw[tks,JS,if_neg om]
 |m+1,k,h=>by rw[tks];by_cases E:k<bs.length;have:=Oq bs k E;rw[if_pos E,JS,if_pos (Uo bs k E)];exact KW bs F m _ om;rw[if_neg E,JS,if_neg om]
theorem KV (bs:List Nat):∀m k,k<=bs.length->(tks bs m k).length+k<=bs.length
 |0,k,h=>by rw[tks];simpa using h
 |m+1,k,h=>by rw[tks];by_cases E:k<bs.length;have:=Oq bs k E;rw[if_pos E,VJ];have:=KV bs m _ this.2;omega;rw[if_neg E];simpa using h
theorem BG (bs:List Nat):(Gi bs).length<=bs.length:=by have:=KV bs bs.length 0 (VH _);unfold Gi;omega
theorem Z3f {bs:List Nat}(E:∀j,bs.getD j 0<256)(k:Nat):(Qd bs k).1<256:=by unfold Qd;split;exact E k;. split;exact E k;show 0<256;omega
open Go.RowKit
def wpl (l:List Int):Nat->List Nat
 |0=> []
 |k+1=>wpl l k++(if 0<l.getD k 0 then [k]else [])
theorem Pt (l:List Int):∀k,(wpl l k).length<=k
 |0=>by simp[wpl]
 |k+1=>by have:=Pt l k;rw[wpl,VE];split<;>simp<;>omega
theorem X6 (l:List Int)(p:Nat):∀k,p∈wpl l k↔p<k/\0<l.getD p 0
 |0=>by simp[wpl]
 |k+1=>by rw[wpl,WP,X6 l p k];by_cases h:0<l.getD k 0;rw[if_pos h,WO];constructor;rintro (⟨F,E⟩|rfl);exact⟨om,E⟩;exact⟨om,h⟩;rintro ⟨F,E⟩;by_cases e:p=k;exact .inr e;exact .inl ⟨om,E⟩;. rw[if_neg h];constructor;(. rintro (⟨F,E⟩|F);exact⟨om,E⟩;. cases F);rintro ⟨F,E⟩;by_cases e:p=k;subst e;exact absurd E h;exact .inl ⟨om,E⟩
theorem JY (l:List Int)(k:Nat):∀p∈wpl l k,p<k:=fun p h=>((X6 l p k).1 h).1
theorem AX (l:List Int):∀k,(wpl l k).Pairwise (· < ·)
 |0=>.nil
 |k+1=>by rw[wpl,List.pairwise_append];refine⟨AX l k,by split<;>simp,fun a E b hb=> ?_⟩;have:=JY l k a E;split at hb;rw[WO]at hb;omega;. cases hb
def okW (n:Int):Bool:=decide (0<=n/\n<=1000000)
theorem BX {n:Int}(E:okW n=true):0<=n/\n<=1000000:=of_decide_eq_true E
theorem D6 {n:Int}(E:okW n=false):¬(0<=n/\n<=1000000):=of_decide_eq_false E
def Z2x (l:List Int)(most:Int):Int:=if 288<l.length then 2 else if ∃j,j<l.length/\okW (l.getD j 0)=false then 3 else if ¬(1<=most/\most<=15)then 3 else if 2^most.toNat<(wpl l l.length).length then 11 else 0
structure GoodW (l:List Int)(m:Nat):Prop where
 len:l.length<=288
 ok:∀j,j<l.length->0<=l.getD j 0/\l.getD j 0<=1000000
 lo:1<=m
 hi:m<=15
 room:(wpl l l.length).length<=2^m
theorem PD {l:List Int}{m:Nat}(E:GoodW l m):Z2x l m=0:=by unfold Z2x;have M:=E.len;have G:=E.lo;have I:=E.hi;have H:=E.room;rw[if_neg om,if_neg,if_neg om,if_neg oO];rintro ⟨j,F,e⟩;exact D6 e (E.ok j F)
def Z6m (x:Int)(f:List Int->List (Int×Bool)):List Int->List (Int×Bool)
 | []=>(x,true)::f []
 |y::ys=>if x<=y then (x,true)::f (y::ys)else (y,false)::Z6m x f ys
def mrg:List Int->List Int->List (Int×Bool)
 | []=>fun ys=>ys.map fun y=>(y,false)
 |x::xs=>Z6m x (mrg xs)
theorem Kn (ys:List Int):mrg [] ys=ys.map fun y=>(y,false):=rfl
theorem Nj (x:Int)(xs:List Int):mrg (x::xs) []=(x,true)::mrg xs []:=rfl
theorem Jc (x:Int)(xs:List Int)(y:Int)(ys:List Int):mrg (x::xs) (y::ys)=if x<=y then (x,true)::mrg xs (y::ys)else (y,false)::mrg (x::xs) ys:=rfl
def prs:List Int->List Int
 |a::b::t=>(a+b)::prs t
 |_=> []
def rowAt (W:List Int):Nat->List (Int×Bool)
 |0=>mrg W []
 |k+1=>mrg W (prs ((rowAt W k).map Prod.fst))
def Bz (r:List (Int×Bool))(t:Nat):Nat:=((r.take t).filter Prod.snd).length
def Cr (W:List Int)(most:Nat):Nat->Nat
 |0=>2*(W.length-1)
 |i+1=>2*(Cr W most i-Bz (rowAt W (most-1-i)) (Cr W most i))
def Bi (W:List Int)(most i:Nat):Nat:=Bz (rowAt W (most-1-i)) (Cr W most i)
def Tb (xs:List Int)(p:Nat):List Int:=xs.set p (xs.getD p 0+1)
def Cq (xs:List Int)(ps:List Nat):List Int:=ps.foldl Tb xs
def Ez (n:Nat)(P:List Nat)(W:List Int)(most:Nat):Nat->List Int
 |0=>List.replicate n 0
 |i+1=>Cq (Ez n P W most i) (P.take (Bi W most i))
def Cs (l:List Int)(P:List Nat)(most:Nat):List Int:=
 if P.length<2 then Cq (List.replicate l.length 0) P else Ez l.length P (P.map fun p=>l.getD p 0) most most
structure RiseOf (l:List Int)(P:List Nat):Prop where
 perm:P.Perm (wpl l l.length)
 srt:P.Pairwise fun a b=>l.getD a 0<l.getD b 0\/ (l.getD a 0=l.getD b 0/\a<b)
def IsLens (l:List Int)(most:Nat)(s:List Int):Prop:=∃P,RiseOf l P/\s=Cs l P most
end Go.Proofs.YtleocpdblhbimaaGreatDoor
namespace Go.Proofs.YtleocpdblhbimaaGreatDoor
inductive It where
 |sym (k:Nat)
 |far (k:Nat)
 |rest (n s:Nat)
deriving DecidableEq
def Qn (g n:Nat):Nat->Nat->Nat
 |0,s=>s
 |f+1,s=>if n/2^s<2*g then s else Qn g n f (s+1)
def Lj (g n:Nat):Nat:=Qn g n 12 0
def Xd (g n:Nat):Nat:=g*Lj g n+n/2^Lj g n
def Tg (g n:Nat):Nat:=n%2^Lj g n
def De (n:Nat):Nat×Nat×Nat:=if n=258 then (285,0,0)else (257+Xd 4 (n-3),Tg 4 (n-3),Lj 4 (n-3))
def Mn (d:Nat):Nat×Nat×Nat:=(Xd 2 (d-1),Tg 2 (d-1),Lj 2 (d-1))
def GF (t:Tk):List It:=
 if t.2.1=0 then [.sym t.1]else [.sym (De t.2.1.toNat).1,.rest (De t.2.1.toNat).2.1 (De t.2.1.toNat).2.2,.far (Mn t.2.2.toNat).1,.rest (Mn t.2.2.toNat).2.1 (Mn t.2.2.toNat).2.2]
def Tp (ts:List Tk):List It:=ts.flatMap GF
def itsOf (ts:List Tk):List It:=Tp ts++ [.sym 256]
def Z6b (a b:List Int):It->List Bool
 | .sym k=>codeT a k
 | .far k=>codeT b k
 | .rest n s=>Al n s
def putIs (a b:List Int)(is:List It):List Bool:=is.flatMap (Z6b a b)
def TR (is:List It):List Nat:=is.filterMap (fun i=>match i with| .sym k=>some k|_=>none)
def Z1m (is:List It):List Nat:=is.filterMap (fun i=>match i with| .far k=>some k|_=>none)
def symC (is:List It):List Int:=Cq (List.replicate 286 0) (TR is)
def farC (is:List It):List Int:=Cq (List.replicate 30 0) (Z1m is)
noncomputable def lensD (l:List Int)(m:Nat):List Int:= @Classical.epsilon (List Int) ⟨[]⟩ (fun s=>IsLens l m s)
def Gu (l:List Int)(least:Nat):Nat->Nat
 |0=>0
 |n+1=>if least<n+1/\l.getD n 0=0 then Gu l least n else n+1
def trimL (l:List Int)(least:Nat):List Int:=l.take (Gu l least l.length)
def He (x:Nat):Nat->Nat->List (Nat×Nat×Nat)
 |0,_=> []
 |f+1,m=>if m=0 then []else if m<3 then (x,0,0)::He x f (m-1)else if 0<x then (16,min m 6-3,2)::He x f (m-min m 6)else if m<11 then (17,m-3,3)::He x f 0 else (18,min m 138-11,7)::He x f (m-min m 138)
def Qt (x m:Nat):List (Nat×Nat×Nat):=if 0<x then (x,0,0)::He x m (m-1)else He x m m
def Cp (x:Int):List Int->Nat
 | []=>0
 |y::r=>if y=x then Cp x r+1 else 0
def Xv:Nat->List Int->List (Nat×Nat×Nat)
 |0,_=> []
 |f+1,l=>match l with
  | []=> []
  |x::r=>Qt x.toNat (Cp x r+1)++Xv f (r.drop (Cp x r))
def lenIs (l:List Int):List (Nat×Nat×Nat):=Xv l.length l
def Yz (is:List (Nat×Nat×Nat)):List Int:=Cq (List.replicate 19 0) (is.map Prod.fst)
def Z40 (own:List Int)(i:Nat×Nat×Nat):List Bool:=codeT own i.1++Al i.2.1 i.2.2
def putRs (own:List Int)(is:List (Nat×Nat×Nat)):List Bool:=is.flatMap (Z40 own)
def W6 (own:List Int):Nat->Nat
 |0=>0
 |n+1=>if 4<n+1/\own.getD (ord19.getD n 0) 0=0 then W6 own n else n+1
noncomputable def MX (all:List Int):List Int:=lensD (Yz (lenIs all)) 7
def Rw (a b own:List Int):List Bool:=
 Al (a.length-257) 5++(Al (b.length-1) 5++(Al (W6 own 19-4) 4++((ord19.take (W6 own 19)).flatMap (fun k=>Al (own.getD k 0).toNat 3)++putRs own (lenIs (a++b)))))
noncomputable def TS (ts:List Tk):List Int:=trimL (lensD (symC (itsOf ts)) 15) 257
noncomputable def Z1n (ts:List Tk):List Int:=trimL (lensD (farC (itsOf ts)) 15) 1
noncomputable def Ga (a b:List Int)(ts:List Tk):List Bool:=Rw a b (MX (a++b))++putIs a b (itsOf ts)
def Ks:List Int:=List.replicate 255 8++ [9,9]
def Sc:List Int:= [0]
def Gf (bs:List Nat):List Tk:=bs.map (fun b=>(b,0,0))
open Classical in
noncomputable def IK (bs:List Nat):List Bool:=
 if (Ga Ks Sc (Gf bs)).length<(Ga (TS (Gi bs)) (Z1n (Gi bs)) (Gi bs)).length then Ga Ks Sc (Gf bs)else Ga (TS (Gi bs)) (Z1n (Gi bs)) (Gi bs)
def Ha (ts:List Tk):List Bool:=putIs Ky Ir (itsOf ts)
def freeN (n:Nat):Nat:=(8-n%8)%8
def Qm (S:List Bool)(bs:List Nat):List Bool:=
 S++List.replicate (freeN S.length) false++Al bs.length 16++Al (65535-bs.length) 16++rowB bs bs.length
noncomputable def JT (S:List Bool)(bs:List Nat)(kind:Nat)(last:Bool):List Bool:=
 if kind=0 then Qm (S++ [last]++Al kind 2) bs
 else if kind=1 then S++ [last]++Al kind 2++Ha (Gi bs)
 else S++ [last]++Al kind 2++IK bs
noncomputable def Tm:List (List Nat×Nat)->List Bool->List Bool
 | [],S=>S
 | (bs,k)::r,S=>Tm r (JT S bs k (decide (r= [])))
def padB (S:List Bool):List Bool:=S++List.replicate (freeN S.length) false
end Go.Proofs.YtleocpdblhbimaaGreatDoor
namespace Go.Proofs.YtleocpdblhbimaaGreatDoor
open Go.RowKit
theorem C4 (xs ys:List Nat):∀q,q<=xs.length->rowB (xs++ys) q=rowB xs q
 |0,_=>rfl
 |q+1,h=>by rw[rowB,rowB,C4 xs ys q om];congr 2;simp only[List.getD];rw[WN om]
theorem Xi (xs ys:List Nat):∀q,rowB (xs++ys) (xs.length+q)=rowB xs xs.length++rowB ys q
 |0=>by rw[XN,C4 xs ys _ (VB _)];simp[rowB]
 |q+1=>by rw[<-WT,rowB,Xi xs ys q,rowB,VS];congr 3;simp only[List.getD];rw[VX om];congr 2;omega
end Go.Proofs.YtleocpdblhbimaaGreatDoor
