import Derived.Test.YtleocpdblhbimaaGreatDoorQ5
import Derived.Laws.EntriesVeiled
set_option linter.unusedVariables false
set_option linter.unusedSimpArgs false
set_option maxRecDepth 100000
set_option maxHeartbeats 8000000
namespace Go.Proofs.YtleocpdblhbimaaGreatDoor
open Go.Value renaming int->so,slice->va,pointer->vc,tuple->vd,bool->ve,agg->vf,nilFunc->vg
open Go.IntKind renaming i64->vh,u8->vi
open Go.Obj renaming cells->vl
open Go.Ending renaming returned->vm
open Option renaming none->vn,some->vp
open Bool renaming false->vq,true->vr
open Go renaming World->wd,Value->vt,Calls->vu,Addr->vw
open Go.RowKit renaming Below->vx,intOf->vy,Hid->vz
open Go.Proofs.Tryz renaming prog->v8
section
variable{af bs:List Nat}{ac i j k m n p q s:Nat}
abbrev Tk:=Nat×Int×Int
def Wj(t:Tk)(n:Nat):Int:=
 if t.2.1=0/\t.2.2=0 then 0 else if t.2.1=0\/t.1≠0 then 4 else if t.2.1<3\/258<t.2.1\/t.2.2<1 then 3 else if (n:Int)<t.2.2 then 9 else 0
def HC(t:Tk):Nat:=if t.2.1=0 then 1 else t.2.1.toNat
def H4:List Tk->Nat->Int
 | [],n=>if 3000<n then 2 else 0
 |t::r,n=>if Wj t n=0 then H4 r (n+HC t)else Wj t n
def Zdk(acc:List Nat)(f:Nat):Nat->List Nat
 |0=>acc
 |m+1=>Zdk (acc++ [acc.getD (acc.length-f) 0]) f m
theorem Za1{l:List Tk}(h:k<l.length):l.drop k=l.getD k (0,0,0)::l.drop (k+1):=by rw[WX h];congr 1;simp[List.getD,h]
theorem B8{t:Tk}(h:Wj t n=0):(t.2.1=0/\t.2.2=0)\/ (t.1=0/\3<=t.2.1/\t.2.1<=258/\1<=t.2.2/\t.2.2<=n):=by unfold Wj at h;by_cases F:t.2.1=0/\t.2.2=0;exact .inl F;rw[if_neg F]at h;by_cases E:t.2.1=0\/t.1≠0;rw[if_pos E]at h;omega;rw[if_neg E]at h;by_cases G:t.2.1<3\/258<t.2.1\/t.2.2<1;rw[if_pos G]at h;omega;rw[if_neg G]at h;by_cases H:(n:Int)<t.2.2;rw[if_pos H]at h;omega;(have:t.1=0:=by by_cases e:t.1=0;exact e;exact absurd (.inr e) E);exact .inr ⟨this,om,om,om,om⟩
theorem Zg4{t:Tk}(h:(t.2.1=0/\t.2.2=0)\/ (t.1=0/\3<=t.2.1/\t.2.1<=258/\1<=t.2.2/\t.2.2<=n)):Wj t n=0:=by unfold Wj;rcases h with h|⟨H,G,E,I,F⟩;rw[if_pos h];rw[if_neg om,if_neg om,if_neg om,if_neg om]
theorem Zh1{t:Tk}(h:Wj t n=0):1<=HC t/\HC t<=258:=by unfold HC;(rcases B8 h with ⟨a,b⟩|⟨a,b,c,d,e⟩);rw[if_pos a];omega;rw[if_neg om];omega
theorem Zgq{t:Tk}(h:Wj t n=0):max t.2.1 1=(HC t:Int):=by unfold HC;(rcases B8 h with ⟨a,b⟩|⟨a,b,c,d,e⟩);rw[if_pos a,a];rfl;rw[if_neg om];omega
theorem Zg6:∀ {l:List Tk},H4 l n=0->n<=3000:=by
 intro l
 induction l generalizing n with
 |nil=>intro h;rw[H4]at h;by_cases E:3000<n;rw[if_pos E]at h;omega;omega
 |cons t r ih=>intro h;rw[H4]at h;by_cases E:Wj t n=0;rw[if_pos E]at h;have:=ih h;omega;rw[if_neg E]at h;exact absurd h E
def lcp(bs:List Nat):Nat->Nat->Nat->Nat
 |_,_,0=>0
 |i,k,m+1=>if bs.getD i 0=bs.getD k 0 then lcp bs (i+1) (k+1) m+1 else 0
theorem aM(bs:List Nat):∀m i k,lcp bs i k m<=m
 |0,i,k=>by simp[lcp]
 |m+1,i,k=>by rw[lcp];have:=aM bs m (i+1) (k+1);split<;>omega
theorem B9(bs:List Nat):∀m i k j,j<lcp bs i k m->bs.getD (i+j) 0=bs.getD (k+j) 0
 |0,i,k,j,h=>by simp[lcp]at h
 |m+1,i,k,j,h=>by
  rw[lcp]at h;split at h
  . rename_i e
    match j with
    |0=>exact e
    |j+1=>have:=B9 bs m (i+1) (k+1) j om;rw[show i+(j+1)=i+1+j by omega,show k+(j+1)=k+1+j by omega];exact this
  omega
theorem Zff(bs:List Nat):∀m i k,lcp bs i k m<m->bs.getD (i+lcp bs i k m) 0≠bs.getD (k+lcp bs i k m) 0
 |0,i,k,h=>om
 |m+1,i,k,h=>by rw[lcp]at h ⊢;split at h;(. rename_i e;rw[if_pos e];have:=Zff bs m (i+1) (k+1) om;rw[show i+(lcp bs (i+1) (k+1) m+1)=i+1+lcp bs (i+1) (k+1) m by omega,show k+(lcp bs (i+1) (k+1) m+1)=k+1+lcp bs (i+1) (k+1) m by omega];exact this);. rename_i e;rw[if_neg e];exact e
theorem Zgn(F:s<=m)(h:∀j,j<s->bs.getD (i+j) 0=bs.getD (k+j) 0):s<=lcp bs i k m:=by by_cases E:lcp bs i k m<s;exact absurd (h _ E) (Zff bs m i k om);omega
theorem Zew(h:bs.getD (i+s) 0≠bs.getD (k+s) 0):lcp bs i k m<=s:=by by_cases E:s<lcp bs i k m;exact absurd (B9 bs m i k s E) h;omega
theorem Zgo(F:s<=m)(h:∀j,j<s->bs.getD (i+j) 0=bs.getD (k+j) 0)(E:s=m\/bs.getD (i+s) 0≠bs.getD (k+s) 0):lcp bs i k m=s:=by have G:=Zgn F h;have H:=aM bs m i k;rcases E with e|e;omega;have:=Zew (m:=m) e;omega
def mst(n k:Nat):Nat:=min 258 (n-k)
def S0(bs:List Nat)(k m:Nat):Nat->Nat×Nat
 |0=>(0,0)
 |d+1=>if (S0 bs k m d).1<lcp bs (k-(d+1)) k m then (lcp bs (k-(d+1)) k m,d+1)else S0 bs k m d
def HL(bs:List Nat)(k:Nat):Nat×Nat:=if (S0 bs k (mst bs.length k) k).1<3 then (0,0)else S0 bs k (mst bs.length k) k
structure Bst(bs:List Nat)(k m D:Nat)(p:Nat×Nat):Prop where
 most:∀d,1<=d->d<=D->lcp bs (k-d) k m<=p.1
 way:(p.1=0/\p.2=0)\/ (1<=p.2/\p.2<=D/\lcp bs (k-p.2) k m=p.1/\0<p.1/\∀d,1<=d->d<p.2->lcp bs (k-d) k m<p.1)
theorem Zfj(bs:List Nat)(k m:Nat):∀D,Bst bs k m D (S0 bs k m D)
 |0=>⟨λd h O=>om,.inl ⟨rfl,rfl⟩⟩
 |D+1=>by have ih:=Zfj bs k m D;rw[S0];by_cases h:(S0 bs k m D).1<lcp bs (k-(D+1)) k m;rw[if_pos h];refine⟨?_,.inr ⟨oS,oS,rfl,by show 0<lcp bs (k-(D+1)) k m;omega,?_⟩⟩;intro d E F;by_cases e:d=D+1;rw[e];exact VA _;exact UG (UJ (ih.most d E om) h);intro d E F;have U:d<D+1:=F;exact UJ (ih.most d E om) h;rw[if_neg h];refine⟨?_,?_⟩;intro d E F;by_cases e:d=D+1;rw[e];omega;exact ih.most d E om;rcases ih.way with E|⟨E,F,I,G,H⟩;exact .inl E;exact .inr ⟨E,om,I,G,H⟩
theorem Zh6{f:Nat}(af:3<=n)(H:1<=f)(U:f<=k)(Z:lcp bs (k-f) k (mst bs.length k)=n)(O:∀d,1<=d->d<=k->lcp bs (k-d) k (mst bs.length k)<=n)(ae:∀d,1<=d->d<f->lcp bs (k-d) k (mst bs.length k)<n):HL bs k=(n,f):=by have B:=qBR;unfold HL;generalize S0 bs k (mst bs.length k) k=p at*;obtain⟨a,b⟩:=p;have m1:=B.most f H U;simp only at m1;rw[Z]at m1;rw[if_neg (by show ¬a<3;omega)];(rcases B.way with ⟨E,F⟩|⟨E,F,I,aa,G⟩);simp only at E;omega;simp only at E F I aa G;have m2:=O b E F;rw[I]at m2;have ea:a=n:=om;(have ac:b=f:=by by_cases c:b<f;have:=ae b E c;omega;by_cases c2:f<b;have:=G f H c2;omega;omega);rw[ea,ac]
theorem Zfe(G:∀d,1<=d->d<=k->lcp bs (k-d) k (mst bs.length k)<3):HL bs k=(0,0):=by have B:=qBR;unfold HL;(rcases B.way with ⟨F,E⟩|⟨F,E,H,O,I⟩);rw[if_pos om];have:=G _ F E;rw[H]at this;rw[if_pos this]
structure Lng(bs:List Nat)(k n f:Nat):Prop where
 three:3<=n
 one:1<=f
 ahead:f<=k
 is:lcp bs (k-f) k (mst bs.length k)=n
 most:∀d,1<=d->d<=k->lcp bs (k-d) k (mst bs.length k)<=n
 near:∀d,1<=d->d<f->lcp bs (k-d) k (mst bs.length k)<n
theorem Zh5(bs:List Nat)(k:Nat):((HL bs k)=(0,0)/\∀d,1<=d->d<=k->lcp bs (k-d) k (mst bs.length k)<3)\/Lng bs k (HL bs k).1 (HL bs k).2:=by have B:=qBR;unfold HL;by_cases h:(S0 bs k (mst bs.length k) k).1<3;rw[if_pos h];exact .inl ⟨rfl,λd F E=>UJ (B.most d F E) h⟩;rw[if_neg h];(rcases B.way with ⟨F,E⟩|⟨F,E,H,I,G⟩);omega;exact .inr ⟨om,F,E,H,B.most,G⟩
theorem Lng.le{f:Nat}(h:Lng bs k n f):n<=258/\k+n<=bs.length:=by have:=aM bs (mst bs.length k) (k-f) k;rw[h.is]at this;have E:=h.three;unfold mst at this;omega
def B7(bs:List Nat)(p:Nat):Nat×Nat×Nat:=(bs.getD p 0,bs.getD (p+1) 0,bs.getD (p+2) 0)
def FB(bs:List Nat)(kn:Nat)(c:Nat×Nat×Nat):List Nat:=(List.range kn).filter (λp=>decide (B7 bs p=c))
theorem Zge(bs:List Nat)(E:Nat)(c:Nat×Nat×Nat):FB bs (E+1) c=FB bs E c++if B7 bs E=c then [E]else []:=by unfold FB;rw[List.range_succ,List.filter_append];congr 1;by_cases h:B7 bs E=c<;>simp[h]
theorem Zfw{c:Nat×Nat×Nat}:p∈FB bs ac c↔p<ac/\B7 bs p=c:=by simp[FB]
theorem Zgf(bs:List Nat)(E:Nat)(c:Nat×Nat×Nat)(F:j<(FB bs E c).length)(H:i<j):(FB bs E c).getD i 0<(FB bs E c).getD j 0:=by(have G:(FB bs E c).Pairwise (· < ·):=by unfold FB;exact List.Pairwise.filter _ List.pairwise_lt_range);have:=YK.1 G i j om F H;simpa[List.getD,F,show i<(FB bs E c).length by omega]using this
theorem Zfx(bs:List Nat)(E:Nat)(c:Nat×Nat×Nat)(F:j<(FB bs E c).length):(FB bs E c).getD j 0<E/\B7 bs ((FB bs E c).getD j 0)=c:=by(have:(FB bs E c).getD j 0∈FB bs E c:=by simp only[List.getD,VP F,ZG];exact WO F);exact Zfw.1 this
theorem Zfg(F:3<=m):B7 bs p=B7 bs k↔3<=lcp bs p k m:=by
 unfold B7;constructor
 . intro h;simp only[ZH]at h;refine Zgn F ?_;intro j G
   match j,G with
   |0,_=>exact h.1
   |1,_=>exact h.2.1
   |2,_=>exact h.2.2
 intro h;have E:=B9 bs m p k 0 om;have I:=B9 bs m p k 1 om;have H:=B9 bs m p k 2 om;simp only[XS]at E;rw[E,I,H]
def M8(bs:List Nat)(k:Nat)(zs:List Nat)(q n f:Nat):Prop:=
 (q=0/\n=0/\f=0)\/ (3<=n/\∃j,zs.length-q<=j/\j<zs.length/\f=k-zs.getD j 0/\lcp bs (zs.getD j 0) k (mst bs.length k)=n/\
  (∀j',zs.length-q<=j'->j'<zs.length->lcp bs (zs.getD j' 0) k (mst bs.length k)<=n)/\(∀j',j<j'->j'<zs.length->lcp bs (zs.getD j' 0) k (mst bs.length k)<n))
theorem M8.le{f:Nat}(h:M8 bs k af q n f):n<=mst bs.length k/\f<=k:=by(rcases h with ⟨_,rfl,rfl⟩|⟨_,j,_,_,F,E,_⟩);exact⟨VF _,VF _⟩;exact⟨by rw[<-E];exact aM _ _ _ _,om⟩
theorem M8.more{f:Nat}(h:M8 bs k af q n f)(I:q<af.length)(G:∀j,j<af.length->3<=lcp bs (af.getD j 0) k (mst bs.length k))(H:n<lcp bs (af.getD (af.length-1-q) 0) k (mst bs.length k)):M8 bs k af (q+1) (lcp bs (af.getD (af.length-1-q) 0) k (mst bs.length k)) (k-af.getD (af.length-1-q) 0):=by(have hold:∀E,af.length-q<=E->E<af.length->lcp bs (af.getD E 0) k (mst bs.length k)<=n:=by(rcases h with ⟨O,rfl,rfl⟩|⟨_,j,_,_,_,_,F,_⟩);intro E a b;omega;exact F);refine .inr ⟨G _ om,af.length-1-q,om,om,rfl,rfl,?_,?_⟩;intro E a b;by_cases e:E=af.length-1-q;rw[e];exact VA _;have:=hold E om b;omega;intro E a b;have:=hold E om b;omega
theorem M8.less{f:Nat}(h:M8 bs k af q n f)(aa:q<af.length)(I:∀j,j<af.length->3<=lcp bs (af.getD j 0) k (mst bs.length k))(H:lcp bs (af.getD (af.length-1-q) 0) k (mst bs.length k)<=n):M8 bs k af (q+1) n f:=by(rcases h with ⟨F,rfl,rfl⟩|⟨F,j,a1,a2,O,G,U,Z⟩);have:=I (af.length-1-q) om;omega;refine .inr ⟨F,j,om,a2,O,G,?_,Z⟩;intro E b1 b2;by_cases e:E=af.length-1-q;rw[e];exact H;exact U E om b2
theorem M8.lng{f:Nat}(ae:3<=mst bs.length k)(h:M8 bs k (FB bs k (B7 bs k)) q n f)(af:q=(FB bs k (B7 bs k)).length\/n=mst bs.length k):HL bs k=(n,f):=by(have I:∀d,1<=d->d<=k->3<=lcp bs (k-d) k (mst bs.length k)->∃j,j<(FB bs k (B7 bs k)).length/\(FB bs k (B7 bs k)).getD j 0=k-d:=by intro d F G ah;have:k-d∈FB bs k (B7 bs k):=Zfw.2 ⟨om,(Zfg ae).2 ah⟩;obtain⟨j,U,e⟩:=XP this;exact⟨j,U,by simpa[List.getD,U]using e⟩);(rcases h with ⟨Z,rfl,rfl⟩|⟨Z,j,a1,a2,ak,aa,ag,ai⟩);have al:(FB bs k (B7 bs k)).length=0:=om;apply Zfe;intro d F G;by_cases c:lcp bs (k-d) k (mst bs.length k)<3;exact c;obtain⟨j,U,_⟩:=I d F G om;omega;obtain⟨p1,aj⟩:=Zfx bs k (B7 bs k) a2;have ef:k-f=(FB bs k (B7 bs k)).getD j 0:=om;refine Zh6 Z om om (by rw[ef];exact aa) ?_ ?_;intro d F G;rcases af with e|e;by_cases c:lcp bs (k-d) k (mst bs.length k)<3;omega;obtain⟨E,O,H⟩:=I d F G om;have:=ag E om O;rw[H]at this;exact this;rw[e];exact aM _ _ _ _;intro d F G;by_cases c:lcp bs (k-d) k (mst bs.length k)<3;omega;obtain⟨E,O,H⟩:=I d F om om;(have ac:j<E:=by by_cases c1:E=j;rw[c1]at H;omega;by_cases c2:E<j;have:=Zgf bs k (B7 bs k) a2 c2;omega;omega);have:=ai E ac O;rw[H]at this;exact this
def HN(bs:List Nat)(k:Nat):Tk:=if (HL bs k).1=0 then (bs.getD k 0,0,0)else if (HL bs k).1<(HL bs (k+1)).1 then (bs.getD k 0,0,0)else (0,((HL bs k).1:Int),((HL bs k).2:Int))
def Is(bs:List Nat):Nat->Nat->List Tk
 |0,_=> []
 |m+1,k=>if k<bs.length then HN bs k::Is bs m (k+HC (HN bs k))else []
def Ie(bs:List Nat):List Tk:=Is bs bs.length 0
theorem Zf5(bs:List Nat)(k:Nat)(G:k<bs.length):(HN bs k=(bs.getD k 0,0,0)/\HC (HN bs k)=1)\/ (∃n f,Lng bs k n f/\HL bs k=(n,f)/\HN bs k=(0,(n:Int),(f:Int))/\HC (HN bs k)=n):=by unfold HN;by_cases h:(HL bs k).1=0;rw[if_pos h];exact .inl ⟨rfl,rfl⟩;rw[if_neg h];by_cases E:(HL bs k).1<(HL bs (k+1)).1;rw[if_pos E];exact .inl ⟨rfl,rfl⟩;rw[if_neg E];(rcases Zh5 bs k with ⟨e,_⟩|F);rw[e]at h;exact absurd rfl h;refine .inr ⟨(HL bs k).1,(HL bs k).2,F,rfl,rfl,?_⟩;unfold HC;rw[if_neg uJ];simp
theorem G8(bs:List Nat)(k:Nat)(F:k<bs.length):1<=HC (HN bs k)/\k+HC (HN bs k)<=bs.length:=by(rcases Zf5 bs k F with ⟨_,e⟩|⟨n,f,E,_,_,e⟩);omega;have:=E.le;have:=E.three;omega
theorem Zek(bs:List Nat)(k:Nat)(F:k<bs.length):Wj (HN bs k) k=0:=by apply Zg4;(rcases Zf5 bs k F with ⟨e,_⟩|⟨n,f,E,_,e,_⟩);rw[e];exact .inl ⟨rfl,rfl⟩;rw[e];have:=E.le;have:=E.three;have:=E.one;have:=E.ahead;exact .inr ⟨rfl,by simp only;omega,by simp only;omega,by simp only;omega,by simp only;omega⟩
theorem Zgd(bs:List Nat)(m k:Nat)(h:bs.length<=k):Is bs m k= []:=by
 cases m with
 |zero=>rfl
 |succ m=>rw[Is,if_neg om]
theorem Zgc(bs:List Nat)(m k:Nat)(h:k<bs.length)(F:bs.length<=k+m):∃E,Is bs m k=HN bs k::Is bs E (k+HC (HN bs k))/\bs.length<=k+HC (HN bs k)+E:=by
 cases m with
 |zero=>omega
 |succ m=>have:=G8 bs k h;exact⟨m,by rw[Is,if_pos h],om⟩
theorem Zf4(F:bs.length<=3000):∀m k,k<=bs.length->H4 (Is bs m k) k=0
 |0,k,h=>by rw[Is,H4,if_neg om]
 |m+1,k,h=>by rw[Is];by_cases E:k<bs.length;have:=G8 bs k E;rw[if_pos E,H4,if_pos (Zek bs k E)];exact Zf4 F m _ om;rw[if_neg E,H4,if_neg om]
theorem Zfr(bs:List Nat):∀m k,k<=bs.length->(Is bs m k).length+k<=bs.length
 |0,k,h=>by rw[Is];simpa using h
 |m+1,k,h=>by rw[Is];by_cases E:k<bs.length;have:=G8 bs k E;rw[if_pos E,VG];have:=Zfr bs m _ this.2;omega;rw[if_neg E];simpa using h
theorem Zfd(bs:List Nat):(Ie bs).length<=bs.length:=by have:=Zfr bs bs.length 0 (VF _);unfold Ie;omega
theorem Zgu(E:∀j,bs.getD j 0<256)(k:Nat):(HN bs k).1<256:=by unfold HN;split;exact E k;. split;exact E k;show 0<256;omega
end
section
open Go.RowKit Go.Proofs.Tryz
variable{l:List Int}{m:Nat}
def wpl(l:List Int):Nat->List Nat
 |0=> []
 |k+1=>wpl l k++(if 0<l.getD k 0 then [k]else [])
theorem Sg(l:List Int):∀k,(wpl l k).length<=k
 |0=>by simp[wpl]
 |k+1=>by have:=Sg l k;rw[wpl,VB];split<;>simp<;>omega
theorem ED(l:List Int)(p:Nat):∀k,p∈wpl l k↔p<k/\0<l.getD p 0
 |0=>by simp[wpl]
 |k+1=>by rw[wpl,WG,ED l p k];by_cases h:0<l.getD k 0;rw[A1 h,WR];constructor;rintro (⟨F,E⟩|rfl);exact⟨om,E⟩;exact⟨om,h⟩;rintro ⟨F,E⟩;by_cases e:p=k;exact .inr e;exact .inl ⟨om,E⟩;. rw[A0 h];constructor;(. rintro (⟨F,E⟩|F);exact⟨om,E⟩;. cases F);rintro ⟨F,E⟩;by_cases e:p=k;subst e;exact absurd E h;exact .inl ⟨om,E⟩
theorem QM(l:List Int)(k:Nat):∀p∈wpl l k,p<k:=λp h=>((ED l p k).1 h).1
theorem GI(l:List Int):∀k,(wpl l k).Pairwise (· < ·)
 |0=>.nil
 |k+1=>by rw[wpl,List.pairwise_append];refine⟨GI l k,by split<;>simp,λa E b hb=> ?_⟩;have:=QM l k a E;split at hb;rw[WR]at hb;omega;. cases hb
def okW(n:Int):Bool:=decide (0<=n/\n<=1000000)
theorem IQ{n:Int}(h:okW n=vr):0<=n/\n<=1000000:=LN h
theorem X5{n:Int}(h:okW n=vq):¬(0<=n/\n<=1000000):=kbj h
def W3(l:List Int)(most:Int):Int:=if 288<l.length then 2 else if ∃j,j<l.length/\okW (l.getD j 0)=vq then 3 else if ¬(1<=most/\most<=15)then 3 else if 2^most.toNat<(wpl l l.length).length then 11 else 0
structure H0(l:List Int)(m:Nat):Prop where
 len:l.length<=288
 ok:∀j,j<l.length->0<=l.getD j 0/\l.getD j 0<=1000000
 lo:1<=m
 hi:m<=15
 room:(wpl l l.length).length<=2^m
theorem Z1c(h:H0 l m):W3 l m=0:=by unfold W3;have H:=h.len;have F:=h.lo;have I:=h.hi;have G:=h.room;rw[A0 om,A0,A0 om,A0 oO];rintro ⟨j,E,e⟩;exact X5 e (h.ok j E)
def Zbq(x:Int)(f:List Int->List (Int×Bool)):List Int->List (Int×Bool)
 | []=>(x,vr)::f []
 |y::ys=>if x<=y then (x,vr)::f (y::ys)else (y,vq)::Zbq x f ys
def F1:List Int->List Int->List (Int×Bool)
 | []=>λys=>ys.map λy=>(y,vq)
 |x::xs=>Zbq x (F1 xs)
theorem Lx(ys:List Int):F1 [] ys=ys.map λy=>(y,vq):=rfl
theorem Pn(x:Int)(xs:List Int):F1 (x::xs) []=(x,vr)::F1 xs []:=rfl
theorem Kc(x:Int)(xs:List Int)(y:Int)(ys:List Int):F1 (x::xs) (y::ys)=if x<=y then (x,vr)::F1 xs (y::ys)else (y,vq)::F1 (x::xs) ys:=rfl
def Io:List Int->List Int
 |a::b::t=>(a+b)::Io t
 |_=> []
def rowAt(W:List Int):Nat->List (Int×Bool)
 |0=>F1 W []
 |k+1=>F1 W (Io ((rowAt W k).map Prod.fst))
def Ca(r:List (Int×Bool))(t:Nat):Nat:=((r.take t).filter Prod.snd).length
def Dc(W:List Int)(most:Nat):Nat->Nat
 |0=>2*(W.length-1)
 |i+1=>2*(Dc W most i-Ca (rowAt W (most-1-i)) (Dc W most i))
def Bg(W:List Int)(most i:Nat):Nat:=Ca (rowAt W (most-1-i)) (Dc W most i)
def Vy(xs:List Int)(p:Nat):List Int:=xs.set p (xs.getD p 0+1)
def Da(xs:List Int)(ps:List Nat):List Int:=ps.foldl Vy xs
def Fh(n:Nat)(P:List Nat)(W:List Int)(most:Nat):Nat->List Int
 |0=>List.replicate n 0
 |i+1=>Da (Fh n P W most i) (P.take (Bg W most i))
def Dd(l:List Int)(P:List Nat)(most:Nat):List Int:=
 if P.length<2 then Da (List.replicate l.length 0) P else Fh l.length P (P.map λp=>l.getD p 0) most most
structure BN(l:List Int)(P:List Nat):Prop where
 perm:P.Perm (wpl l l.length)
 srt:P.Pairwise λa b=>l.getD a 0<l.getD b 0\/ (l.getD a 0=l.getD b 0/\a<b)
def IsLens(l:List Int)(most:Nat)(s:List Int):Prop:=∃P,BN l P/\s=Dd l P most
end
end Go.Proofs.YtleocpdblhbimaaGreatDoor
namespace Go.Proofs.YtleocpdblhbimaaGreatDoor
open Go.Value renaming int->so,slice->va,pointer->vc,tuple->vd,bool->ve,agg->vf,nilFunc->vg
open Go.IntKind renaming i64->vh,u8->vi
open Go.Obj renaming cells->vl
open Go.Ending renaming returned->vm
open Option renaming none->vn,some->vp
open Bool renaming false->vq,true->vr
open Go renaming World->wd,Value->vt,Calls->vu,Addr->vw
open Go.RowKit renaming Below->vx,intOf->vy,Hid->vz
open Go.Proofs.Tryz renaming prog->v8
inductive It where
 |sym (k:Nat)
 |far (k:Nat)
 |rest (n s:Nat)
deriving DecidableEq
def Ta(g n:Nat):Nat->Nat->Nat
 |0,s=>s
 |f+1,s=>if n/2^s<2*g then s else Ta g n f (s+1)
def Mx(g n:Nat):Nat:=Ta g n 12 0
def B5(g n:Nat):Nat:=g*Mx g n+n/2^Mx g n
def Wi(g n:Nat):Nat:=n%2^Mx g n
def Dq(n:Nat):Nat×Nat×Nat:=if n=258 then (285,0,0)else (257+B5 4 (n-3),Wi 4 (n-3),Mx 4 (n-3))
def Of(d:Nat):Nat×Nat×Nat:=(B5 2 (d-1),Wi 2 (d-1),Mx 2 (d-1))
def NM(t:Tk):List It:=
 if t.2.1=0 then [.sym t.1]else [.sym (Dq t.2.1.toNat).1,.rest (Dq t.2.1.toNat).2.1 (Dq t.2.1.toNat).2.2,.far (Of t.2.2.toNat).1,.rest (Of t.2.2.toNat).2.1 (Of t.2.2.toNat).2.2]
def Wv(ts:List Tk):List It:=ts.flatMap NM
def itsOf(ts:List Tk):List It:=Wv ts++ [.sym 256]
def Zbd(a b:List Int):It->List Bool
 | .sym k=>codeT a k
 | .far k=>codeT b k
 | .rest n s=>Al n s
def putIs(a b:List Int)(is:List It):List Bool:=is.flatMap (Zbd a b)
def W9(is:List It):List Nat:=is.filterMap (λi=>match i with| .sym k=>vp k|_=>vn)
def W8(is:List It):List Nat:=is.filterMap (λi=>match i with| .far k=>vp k|_=>vn)
def symC(is:List It):List Int:=Da (List.replicate 286 0) (W9 is)
def farC(is:List It):List Int:=Da (List.replicate 30 0) (W8 is)
noncomputable def lensD(l:List Int)(m:Nat):List Int:= @Classical.epsilon (List Int) ⟨[]⟩ (λs=>IsLens l m s)
def Hj(l:List Int)(least:Nat):Nat->Nat
 |0=>0
 |n+1=>if least<n+1/\l.getD n 0=0 then Hj l least n else n+1
def trimL(l:List Int)(least:Nat):List Int:=l.take (Hj l least l.length)
def Hu(x:Nat):Nat->Nat->List (Nat×Nat×Nat)
 |0,_=> []
 |f+1,m=>if m=0 then []else if m<3 then (x,0,0)::Hu x f (m-1)else if 0<x then (16,min m 6-3,2)::Hu x f (m-min m 6)else if m<11 then (17,m-3,3)::Hu x f 0 else (18,min m 138-11,7)::Hu x f (m-min m 138)
def Th(x m:Nat):List (Nat×Nat×Nat):=if 0<x then (x,0,0)::Hu x m (m-1)else Hu x m m
def Cv(x:Int):List Int->Nat
 | []=>0
 |y::r=>if y=x then Cv x r+1 else 0
def E6:Nat->List Int->List (Nat×Nat×Nat)
 |0,_=> []
 |f+1,l=>match l with
  | []=> []
  |x::r=>Th x.toNat (Cv x r+1)++E6 f (r.drop (Cv x r))
def lenIs(l:List Int):List (Nat×Nat×Nat):=E6 l.length l
def S8(is:List (Nat×Nat×Nat)):List Int:=Da (List.replicate 19 0) (is.map Prod.fst)
def PK(own:List Int)(i:Nat×Nat×Nat):List Bool:=codeT own i.1++Al i.2.1 i.2.2
def putRs(own:List Int)(is:List (Nat×Nat×Nat)):List Bool:=is.flatMap (PK own)
def DX(own:List Int):Nat->Nat
 |0=>0
 |n+1=>if 4<n+1/\own.getD (ord19.getD n 0) 0=0 then DX own n else n+1
noncomputable def TS(all:List Int):List Int:=lensD (S8 (lenIs all)) 7
def Ww(a b own:List Int):List Bool:=
 Al (a.length-257) 5++(Al (b.length-1) 5++(Al (DX own 19-4) 4++((ord19.take (DX own 19)).flatMap (λk=>Al (own.getD k 0).toNat 3)++putRs own (lenIs (a++b)))))
noncomputable def S3(ts:List Tk):List Int:=trimL (lensD (symC (itsOf ts)) 15) 257
noncomputable def S2(ts:List Tk):List Int:=trimL (lensD (farC (itsOf ts)) 15) 1
noncomputable def Hm(a b:List Int)(ts:List Tk):List Bool:=Ww a b (TS (a++b))++putIs a b (itsOf ts)
def Me:List Int:=List.replicate 255 8++ [9,9]
def Uu:List Int:= [0]
def Gs(bs:List Nat):List Tk:=bs.map (λb=>(b,0,0))
open Classical in
noncomputable def O8(bs:List Nat):List Bool:=
 if (Hm Me Uu (Gs bs)).length<(Hm (S3 (Ie bs)) (S2 (Ie bs)) (Ie bs)).length then Hm Me Uu (Gs bs)else Hm (S3 (Ie bs)) (S2 (Ie bs)) (Ie bs)
def Ja(ts:List Tk):List Bool:=putIs Pu Lj (itsOf ts)
def freeN(n:Nat):Nat:=(8-n%8)%8
def We(S:List Bool)(bs:List Nat):List Bool:=
 S++List.replicate (freeN S.length) vq++Al bs.length 16++Al (65535-bs.length) 16++rowB bs bs.length
noncomputable def HB(S:List Bool)(bs:List Nat)(kind:Nat)(last:Bool):List Bool:=
 if kind=0 then We (S++ [last]++Al kind 2) bs
 else if kind=1 then S++ [last]++Al kind 2++Ja (Ie bs)
 else S++ [last]++Al kind 2++O8 bs
noncomputable def Wp:List (List Nat×Nat)->List Bool->List Bool
 | [],S=>S
 | (bs,k)::r,S=>Wp r (HB S bs k (decide (r= [])))
def padB(S:List Bool):List Bool:=S++List.replicate (freeN S.length) vq
end Go.Proofs.YtleocpdblhbimaaGreatDoor
namespace Go.Proofs.YtleocpdblhbimaaGreatDoor
open Go.RowKit Go.Proofs.Tryz
open Go.Value renaming int->so,slice->va,pointer->vc,tuple->vd,bool->ve,agg->vf,nilFunc->vg
open Go.IntKind renaming i64->vh,u8->vi
open Go.Obj renaming cells->vl
open Go.Ending renaming returned->vm
open Option renaming none->vn,some->vp
open Bool renaming false->vq,true->vr
open Go renaming World->wd,Value->vt,Calls->vu,Addr->vw
open Go.RowKit renaming Below->vx,intOf->vy,Hid->vz
open Go.Proofs.Tryz renaming prog->v8
variable{h5:Array Oper}{Q:Exit->Act->World->Prop}{bs:List Nat}{G aa ac ai ak ar b g1 g2 k n:Nat}{No No':Nat->Prop}{a:Option Addr}{u:US}{E I R:Value}{O W ao w w':World}
theorem T8(xs ys:List Nat):∀q,q<=xs.length->rowB (xs++ys) q=rowB xs q
 |0,_=>rfl
 |q+1,h=>by rw[rowB,rowB,T8 xs ys q om];congr 2;simp only[List.getD];rw[WT om]
theorem Rf(xs ys:List Nat):∀q,rowB (xs++ys) (xs.length+q)=rowB xs xs.length++rowB ys q
 |0=>by rw[XS,T8 xs ys _ (VA _)];simp[rowB]
 |q+1=>by rw[<-WV,rowB,Rf xs ys q,rowB,VO];congr 3;simp only[List.getD];rw[VX om];congr 2;omega
theorem Ry(n:Nat):freeN n<8:=by unfold freeN;omega
theorem Uq(n:Nat):(n+freeN n)%8=0:=by unfold freeN;omega
theorem OC:freeN (n+1)=(if freeN n=0 then 8 else freeN n)-1:=by unfold freeN;split<;>omega
theorem Ec(S:List Bool):(padB S).length=S.length+freeN S.length:=by simp[padB]
theorem Z8s{f:Nat}(x k:Nat)(S:List Bool)(af:bs.length=n)(ae:1<=f)(ac:f<=8)(h:rowB bs n=S++List.replicate f vq):rowB (bs.set (n-1) (bs.getD (n-1) 0|||x/2^k%2*2^(8-f))) n=S++ [x.testBit k]++List.replicate (f-1) false:=by have aa:=congrArg List.length h;rw[Af,VB,XJ]at aa;(have hb:∀i,i<8*n->Jh bs i=(S++List.replicate f vq).getD i false:=λi hi=>by rw[<-h,Fe bs n i hi]);apply XM;rw[Af];simp;omega;intro i G ag;rw[Af]at G;(have H:∀(l:List Bool) (hi:i<l.length),l[i]=l.getD i false:=λl hi=>by simp[List.getD,hi]);rw[H,H,Fe _ n i G];unfold Jh;rw[JP];have F:=hb i G;unfold Jh at F;by_cases e:i/8=n-1;rw[e]at F ⊢;rw[A1 ⟨rfl,om⟩,Nat.testBit_or,Su,F];by_cases E:i<S.length;have:¬i%8=8-f:=om;rw[H2 this,Bool.false_and,Bool.or_false];simp only[List.getD];rw[VO,WT E,WT E];by_cases Z:i=S.length;subst Z;have:S.length%8=8-f:=om;rw[H6 this,ZP];simp only[List.getD];rw[VX (VA _),XT,VO,VX (VA _),XT];obtain⟨I,rfl⟩:∃I,f=I+1:=⟨f-1,om⟩;simp[List.replicate_succ];have:¬i%8=8-f:=om;rw[H2 this,Bool.false_and,Bool.or_false];simp only[List.getD];rw[VX om,VX oO];(have hr:∀(m j:Nat),((List.replicate m vq:List Bool)[j]?).getD vq=false:=by intro m j;by_cases O:j<m<;>simp[O]);rw[hr,hr];rw[A0 (λU=>e U.1.symm),F];have E:i<S.length:=om;simp only[List.getD];rw[VO,WT E,WT E]
theorem Z8g{y:Nat}(h:∀j,bs.getD j 0<256)(E:y<256)(j:Nat):(bs++ [y]).getD j 0<256:=by simp only[List.getD];by_cases e:j<bs.length;rw[WT e];exact h j;rw[VX om];by_cases e2:j-bs.length=0;rw[e2];simpa using E;obtain⟨q,F⟩:∃q,j-bs.length=q+1:=⟨j-bs.length-1,om⟩;rw[F];simp
structure RIs(No:Nat->Prop)(B:Nat)(w:wd)(b:Nat)(S:List Bool):Prop where
 base:B<=b
 no:¬No b
 ex:∃ov bs,w.heap[b]? =vp (vl #[ov,so vh (freeN S.length:Nat)] 179 (0,0))/\w.ownsRow (b+1) 5 1 ov bs.length (u8s bs)/\(∀g,ov.ownBlock=vp g->¬No g)/\(∀j,bs.getD j 0<256)/\rowB bs bs.length=padB S
structure Rp(No:Nat->Prop)(B:Nat)(w:wd)(b:Nat)(S:List Bool)(w':wd):Prop where
 is:RIs No B w' b S
 below:vx B w w'
 kp:Kp No w w'
theorem RIs.lt{B:Nat}{S:List Bool}(h:RIs No B w b S):b<w.heap.size:=by obtain⟨ov,bs,E,_⟩:=h.ex;exact(VD.1 E).1
theorem Rp.refl{B:Nat}{S:List Bool}(h:RIs No B w b S):Rp No B w b S w:=⟨h,A2 _ _,Kp.refl _ _⟩
theorem Rp.trans{B:Nat}{S E:List Bool}(h:Rp No B w b S O)(k:Rp No B O b E ao):Rp No B w b E ao:=⟨k.is,h.below.trans k.below,h.kp.trans k.kp h.below.size⟩
theorem RIs.grow{B:Nat}{S:List Bool}(h:RIs No B w b S)(G:vx w.heap.size w w')(H:∀g,No' g->No g\/w.heap.size<=g):RIs No' B w' b S:=by obtain⟨ov,bs,O,F,Z,I,U⟩:=h.ex;refine⟨h.base,?_,ov,bs,(G.block b h.lt).trans O,Bv F (λg E=>G.block g (F.lt g E).2),?_,I,U⟩;intro e;rcases H b e with e|e;exact h.no e;have:=h.lt;omega;intro g E e;rcases H g e with e|e;exact Z g E e;have:=(F.lt g E).2;omega
theorem RIs.drewN{B:Nat}{S:List Bool}(h:RIs No B w b S)(q:Nat):RIs No B (w.drewN q) b S:=h.grow (Ae (A2 _ _) q) (λg e=>.inl e)
theorem RIs.drew{B:Nat}{S:List Bool}(h:RIs No B w b S)(q:Nat):Rp No B w b S (w.drewN q):=⟨h.drewN q,Ae (A2 _ _) q,λ_ _ _=>rfl⟩
def Zdr(No:Nat->Prop)(B:Nat)(w:wd)(b:Nat)(S:List Bool)(n f g cap:Nat)(bs:List Nat)(wc:wd):Prop:=
 wc.heap[b]? =vp (vl #[va (vp ⟨g,0,vn⟩) n cap,so vh (f:Nat)] 179 (0,0))/\wc.ownsRow (b+1) 5 1 (va (vp ⟨g,0,vn⟩) n cap) n (u8s bs)/\¬No g/\bs.length=n/\(∀j,bs.getD j 0<256)/\rowB bs n=S++List.replicate f vq/\1<=f/\f<=8/\(f-1=freeN (S.length+1))/\vx B w wc/\Kp No w wc
theorem Eb{B:Nat}(n s:Nat)(S:List Bool)(w:wd)(h:RIs No B w b S)(df:n<65536)(dv:s<=16)(ed:S.length<=300000)(b8:∀g,w.heap.size<=g->¬No g):vu v8 147 #[vc (vp ⟨b,0,vn⟩),so vh n,so vh s] w λe w'=>e=vm (vd #[])/\Rp No B w b (S++Al n s) w':=by
 obtain⟨cv,hi,cq,bm,c8⟩:=EM Gq;have H:=Ab h;have c9:=Ab b8;clear h b8;go_enter func147,ntmps147;go_wp2;go_loopw [8] (λi wr=>∃k:Nat,k<=s/\i=so vh k/\Rp No B w b (S++Al n k) wr) (λi _=>s-(vy i).toNat);exact⟨0,VF _,rfl,by simpa[Al]using Rp.refl H⟩;obtain⟨k,ds,rfl,O⟩:=hrel;by_cases dr:k<s
 . (have cj:(S++Al n k).length=S.length+k:=by rw[VB,Ai]);(have cd:S++Al n (k+1)=S++Al n k++ [n.testBit k]:=by rw[Al,VO]);have dh:=Ab cd;obtain⟨E,bg⟩:=exq (S++Al n k);rw[bg]at cj O;have cu:=Ab bg;clear bg cd;obtain⟨ov,bs,G,av,bw,b4,F⟩:=O.is.ex;have ba:=congrArg List.length F;rw[Af,Ec]at ba;have cw:=Ry E.length;have c5:=O.is.lt;have al:=O.is.base;have a6:=O.is.no;have aj:=Ab O;have db:=O.below.size;have c0:wr.cell? ⟨b,0,vn⟩=vp ov:=Ac G;have c1:wr.cell? ⟨b,1,vn⟩=vp (so vh (freeN E.length:Nat)):=Ac G;have f0:=B1 wr b 0 _ _ G;have f1:=B1 wr b 1 _ _ G;obtain⟨a,cc,az⟩:=mO;obtain⟨bv,jg,bc,bq,bo⟩:=HF G av bw b4 F;have bi:=OC (n:=E.length);obtain⟨au,bj⟩:=exq (freeN E.length);obtain⟨L,bf⟩:=exq (bs.length);rw[bj]at c1 ba cw bi;have ar:=Ab bj;have ay:=Ab bf;rw[bf]at az ba;clear G av bw b4 F bj bf O;go_upto_if 15 with (fail);go_cut [] (λwc=>∃n2 f g cap ac,vz (Zdr No B w b E n2 f g cap ac wc)/\n2<=40000)
   . by_cases b7:au=0
     . subst b7;subst az
       have de:vz ((va a L cc).ownBlock=vn\/ (va a L cc).ownBlock≠vp b):=by
        cases U:(va a L cc).ownBlock with
        |none=>exact .inl rfl
        |some g=>refine .inr (λe=> ?_);have:=(jg.lt g U).1;cases e;omega
       have co:vz (wr.ownsRow (b+1) 5 1 (va a L cc) L (u8s bs)):=bF;go_wp2_with (at_builtin;refine HG _ rfl _ _ 23 rfl (b+1) 5 cv (so vi 0) 1 1 underlying23 hi cq bm c8 rfl od _ L (u8s bs) rfl (co.alloc _) ⟨wr.heap.size,0,vn⟩ 1 1 [so vi 0] rfl rfl (RR _ _ _) (Df rfl) ou om oO ?_);intro v' w3 bd ai _ bu;have a8:=bd;obtain⟨Z,af,I,bn,a9⟩:=Ax bd om;(have a5:w3.heap[b]? =vp (vl #[va a L cc,so vh (0:Nat)] 179 (0,0)):=by rw[ai.block b oO (λe=>by rcases Aa de with h|h;rw[h]at e;cases e;exact h e.symm)];have:=Aa bv;rw[Aa ar]at this;exact(EN wr _ b c5).trans this);have d5:w3.cell? ⟨b,0,vn⟩=vp (va a L cc):=Ac a5;have dq:=B1 w3 b 0 _ _ a5;(have a3:(w3.setCell ⟨b,0,vn⟩ v').heap[b]? =vp (vl #[v',so vh (0:Nat)] 179 (0,0)):=by rw[CR w3 b 0 _ _ _ a5];rfl);have d7:(w3.setCell ⟨b,0,vn⟩ v').cell? ⟨b,1,vn⟩=vp (so vh (0:Nat)):=Ac a3;have ee:=B1 (w3.setCell ⟨b,0,vn⟩ v') b 1 _ _ a3
       have bh:vz (Zdr No B w b E (L+1) 8 Z af (bs++ [0]) ((w3.setCell ⟨b,0,vn⟩ v').setCell ⟨b,1,vn⟩ (so vh 8))):=by
        have ax:=Ad w3 b 0 v';have aa:=Ad (w3.setCell ⟨b,0,vn⟩ v') b 1 (so vh 8);have ck:=ai.size;simp only[CL]at ck;have bm:=ax.size
        have bz:v'.ownBlock=vn\/v'.ownBlock≠vp b:=by
         cases U:v'.ownBlock with
         |none=>exact .inl rfl
         |some g=>refine .inr (λe=> ?_);have:=(a8.lt g U).1;cases e;omega
        have b9:=Aa aj;refine⟨?_,?_,?_,?_,Z8g bq od,?_,om,om,?_,?_,?_⟩;rw[CR _ b 1 _ _ _ a3,<-I];rfl;rw[<-I];have:=(a8.kept ax bz).kept aa bz;rw[A5];exact this;rcases bu with h|h;exact bc Z (by rw[<-h,I];rfl);rw[I]at h;have:=VK h;exact c9 Z (by simp at this;omega);rw[VB,Aa ay];rfl;have F:=Aa bo;have e:=Rf bs [0] 1;rw[Aa ay]at e F;rw[e,F];unfold padB;rw[Aa ar];simp only[ZS,XB];rfl;rw[bi];rfl;have cg:=b9.below;have b1:=cg.alloc om (vl #[so vi 0] 5);have b2:=b1.grown ai oO (λg e=>by have:=(jg.lt g e).1;omega);exact(b2.grown ax om (λg e=>by cases e;exact al)).grown aa om (λg e=>by cases e;exact al);have da:=b9.kp;have k1:=da.grown (ga (Av wr vn) (vl #[so vi 0] 5)) db (λj e=>by cases e);have k2:=k1.grown ai oO (λj e=>Aa bc j e);exact(k2.grown ax om (λg e=>by cases e;exact a6)).grown aa om (λg e=>by cases e;exact a6)
       subst I;clear bd a8 ai bu a5 a3 bn a9;go_wp2;(all_goals go_meet);all_goals exact⟨L+1,8,Z,af,bs++ [0],bh,om⟩
     . have dt:((au:Int)==0)=false:=sV;have b0:vz (wr.ownsRow (b+1) 5 1 ov L (u8s bs)):=bF;obtain⟨Z,af,I,bn,a9⟩:=Ax b0 om;(have bh:vz (Zdr No B w b E L au Z af bs wr):=by have G:=Aa bv;have F:=Aa bo;rw[Aa ar]at G;rw[Aa ay]at F;unfold padB at F;rw[Aa ar]at F;rw[I]at G;refine⟨G,by rw[<-I];exact Aa b0,Aa bc Z (by rw[I];rfl),ay,bq,F,om,om,?_,aj.below,aj.kp⟩;rw[bi,A0 b7]);subst az;clear bn a9 I;go_wp2;(all_goals go_meet);all_goals exact⟨L,au,Z,af,bs,bh,om⟩
   obtain⟨n2,f,g,cap,ac,bb,d8⟩:=hcut;obtain⟨m1,m2,aw,ae,ao,ap,dn,eg,a4,ak,a7⟩:=Aa bb;clear c0 c1 f0 f1 az;(have ah:g≠b:=by have:=(m2.lt g rfl).1;omega);(have dw:1<=n2:=by have:=congrArg List.length ap;rw[Af,VB,XJ]at this;omega);have c0:wc.cell? ⟨b,0,vn⟩=vp (va (vp ⟨g,0,vn⟩) n2 cap):=Ac m1;have c1:wc.cell? ⟨b,1,vn⟩=vp (so vh (f:Nat)):=Ac m1;have f1:=B1 wc b 1 _ _ m1;obtain⟨x,U⟩:=exq (ac.getD (n2-1) 0);have bk:=ao (n2-1);rw[U]at bk;(have eb:wc.cell? ⟨g,n2-1,vn⟩=vp (so vi x):=by rw[m2.cellAt (n2-1) om,<-U];simp[List.getD,ae,show n2-1<n2 by omega]);have fl:=m2.frozenAt (n2-1);have cz:=Ab (Z4k k (8-f) bk df om);have cm:=bb;have dz:((n2:Int)-1).toNat=n2-1:=om;have dy:(0:Int)<=n2-1:=om;have du:(n2:Int)-1<(n2:Int):=om;have dm:(0:Int)<=8-(f:Int):=om;have d6:∀v,(wc.setCell ⟨g,n2-1,vn⟩ v).cell? ⟨b,1,vn⟩=vp (so vh (f:Nat)):=λv=>(K4 _ _ _ _ uC).trans c1;(have d9:∀v,(wc.setCell ⟨g,n2-1,vn⟩ v).frozen? ⟨b,1,vn⟩=false:=λv=>by simp[f1]);have dl:=Ab U;have c6:=Ab ah;clear m1 m2 aw ae ao ap a4 ak a7 U bb ah;go_wp2;go_big_region;go_wp2;go_roundw
   . obtain⟨m1,m2,aw,ae,ao,ap,dc,c7,a4,ak,a7⟩:=Aa cm;have cp:=Aa cz;have ah:=Aa c6;rw[cp];have cy:(x|||n/2^k%2*2^(8-f))<256:=Nat.or_lt_two_pow (n:=8) bk (UJ (Zi (IH (k:=8-f) om)) od);have ag:=m2.stored (n2-1) (so vi (x|||n/2^k%2*2^(8-f):Nat));have b5:=Z8s n k E ae dc c7 ap;rw[Aa dl]at b5;generalize (x|||n/2^k%2*2^(8-f))=y at*;have aa:=Ad (wc.setCell ⟨g,n2-1,vn⟩ (so vi (y:Nat))) b 1 (so vh ((f:Int)-1))
     have dj:(wc.setCell ⟨g,n2-1,vn⟩ (so vi (y:Nat))).heap[b]? =vp (vl #[va (vp ⟨g,0,vn⟩) n2 cap,so vh (f:Nat)] 179 (0,0)):=
      (ag.2.block b (VD.1 m1).1 (λe=>ah (VK e).symm)).trans m1
     have eh:b<wc.heap.size:=(VD.1 m1).1;have bm:=ag.2.size;refine⟨k+1,om,by go_num,?_⟩;(have ce:S++Al n (k+1)=E++ [n.testBit k]:=by rw[Aa dh,Aa cu]);rw[ce];refine⟨⟨al,a6,va (vp ⟨g,0,vn⟩) n2 cap,ac.set (n2-1) y,?_,?_,?_,?_,?_⟩,?_,?_⟩;show (((wc.setCell ⟨g,n2-1,vn⟩ (so vi (y:Nat))).setCell ⟨b,1,vn⟩ (so vh ((f:Int)-1))).heap)[b]? =_;rw[CR _ b 1 _ _ _ dj,VB];show vp (vl #[_,so vh ((f:Int)-1)] _ _)=vp (vl #[_,so vh (freeN (E.length+1):Nat)] _ _);rw[<-a4,show ((f:Int)-1)=((f-1:Nat):Int) by omega];have cn:=Z4q (ag.1.kept aa (.inr (λe=>ah (VK e))));(have di:u8s (ac.set (n2-1) y)=(u8s ac).set (n2-1) (so vi (y:Nat)):=by rw[u8s,List.map_set]);rw[YA,ae,di];exact cn;intro ci ct;(have:g=ci:=by simpa[Value.ownBlock]using ct);rw[<-this];exact aw;(. intro j;rw[JP];split;exact cy;exact ao j);rw[YA,ae,b5];unfold padB;rw[VB];show _=E++ [n.testBit k]++List.replicate (freeN (E.length+1)) vq;rw[<-a4];exact((ak.grown ag.2 om (λj e=>by have:=VK e;have:=(m2.lt g rfl).1;omega)).grown aa om (λj e=>by cases e;exact al)).drew;have k1:=a7.grown ag.2 ak.size (λj e=>by rw[<-VK e];exact aw);exact k1.grown (Cw aa) (oI ak.size) (λj e=>by cases e;exact a6)
   simp[vy];omega
 . obtain rfl:k=s:=om;have aj:=Ab O;clear O;go_wp2;go_end0;exact⟨rfl,aj⟩
theorem SQ{B:Nat}{S:List Bool}(h:RIs No B w b S):vu v8 176 #[vc (vp ⟨b,0,vn⟩)] w λe w'=>e=vm (vd #[])/\Rp No B w b (padB S) w':=by
 obtain⟨ov,bs,E,F,Z,O,U⟩:=h.ex;have H:=h.base;have I:=h.no;have ae:=h.lt;have c1:w.cell? ⟨b,1,vn⟩=vp (so vh (freeN S.length:Nat)):=Ac E;have f1:=B1 w b 1 _ _ E
 have aa:vz (Rp No B w b (padB S) (w.setCell ⟨b,1,vn⟩ (so vh 0))):=by
  have G:=Ad w b 1 (so vh 0);(have e0:freeN (padB S).length=0:=by rw[Ec];have:=Uq S.length;unfold freeN at*;omega);refine⟨⟨H,I,ov,bs,?_,?_,Z,O,?_⟩,?_,?_⟩;rw[CR w b 1 _ _ _ E,e0];rfl
  . refine F.kept G ?_
    cases ac:ov.ownBlock with
    |none=>exact .inl rfl
    |some g=>refine .inr (λe=> ?_);have:=(F.lt g ac).1;cases e;omega
  rw[U];unfold padB;unfold padB at e0;rw[e0];simp;exact(A2 B w).grown G om (λg e=>by cases e;exact H);exact(Kp.refl No w).grown G (VA _) (λg e=>by cases e;exact I)
 clear h E F Z O U;generalize (freeN S.length)=af at*;go_enter func176,ntmps176;go_wp2;go_end0;exact⟨rfl,aa⟩
theorem Z5y(S:List Bool):freeN (padB S).length=0:=by rw[Ec];have:=Uq S.length;unfold freeN at*;omega
theorem pdS{S:List Bool}(h:freeN S.length=0):padB S=S:=by unfold padB;rw[h];simp
theorem LP:(List.range 3001).all (λn=>bits .and vh (bits .xor vh (-1) (n:Int)) 65535==((65535-n:Nat):Int))=true:=by decide+kernel
theorem RG(h:n<=3000):bits .and vh (bits .xor vh (-1) (n:Int)) 65535=((65535-n:Nat):Int):=by have:=XA.1 LP n oO;simpa using this
theorem RY(O:bs.length=n)(G:BytesIn w a bs)(H:a=vn->ac=0):(a=vn/\n=0/\ac=0/\bs= [])\/∃ad,a=vp ad/\∀j u,(u8s bs)[j]? =vp u->w.cell? (ad.add j)=vp u:=by
 cases a with
 |none=>rcases G with h|⟨b,o,e,_⟩;subst h;exact .inl ⟨rfl,O.symm,H rfl,rfl⟩;. cases e
 |some ad=>refine .inr ⟨ad,rfl,?_⟩;rcases G with h|⟨b,o,e,hb,h⟩;subst h;intro j u E;simp at E;. cases e;intro j u E;have I:=dP;(have F:j<bs.length:=by by_cases c:j<bs.length;exact c;. rw[VZ oO]at E;cases E);rw[I,h j F];simp[F]at E;subst E;simp[List.getD,F]
theorem J5(h:BytesIn w a bs)(H:w.heap.size<=w'.heap.size)(F:∀b o,a=vp ⟨b,o,vn⟩->bs≠ []->b<w.heap.size->w'.heap[b]? =w.heap[b]?):BytesIn w' a bs:=by by_cases e:bs= [];exact .inl e;rcases h with h|⟨b,o,rfl,hb,G⟩;exact absurd h e;exact .inr ⟨b,o,rfl,om,λj E=>(FA (w:=w) (a:=⟨b,_,vn⟩) (F b o rfl e hb)).trans (G j E)⟩
theorem C6{B:Nat}(a3:Nat){S:List Bool}(h:RIs No B w ac S)(ay:bs.length=n)(cp:n<=3000)(a7:a=vn->a3=0)(bk:BytesIn w a bs)(af:∀j,bs.getD j 0<256)(bu:∀b o,a=vp ⟨b,o,vn⟩->bs≠ []->No b)(al:∀g,w.heap.size<=g->¬No g)(c7:S.length<=290000):vu v8 148 #[vc (vp ⟨ac,0,vn⟩),va a n a3] w λe w'=>e=vm (vd #[])/\Rp No B w ac (We S bs) w':=by
 obtain⟨bf,hi,b9,co,cj⟩:=EM Gq;have ci:=Ec S;have cy:=Ry S.length;obtain⟨a9,bo,bm⟩:=Bq (SQ h) (λak (r:Rp No B w ac (padB S) ak)=>Eb n 16 (padB S) ak r.is om od om (λg U=>al g (oI r.below.size))) (λao (r:Rp No B w ac (padB S++Al n 16) ao)=>Eb (65535-n) 16 (padB S++Al n 16) ao r.is om od (by rw[VB,Ai];omega) (λg U=>al g (oI r.below.size)));(have bg:We S bs=padB S++Al n 16++Al (65535-n) 16++rowB bs bs.length:=by unfold We padB;rw[ay]);rw[bg];have b4:=RG cp;obtain⟨bw,aj,ct,cg,cm⟩:=HF (λw3 Z (r:Rp No B w ac Z w3)=>J5 bk r.below.size (λb o e b0 hb=>r.kp b hb (bu b o e b0))) ay af a7 al;have cz:=h.lt;have a8:=h.base;have bz:=h.no;clear bg h bk bu a7 af ay al;go_enter func148,ntmps148;go_wp2_with fail;refine a9.mono ?_;rintro e ak ⟨rfl,az⟩;have bb:=Ab (bo ak az);have ba:=Ab az;clear az a9 bo;go_wp2_with fail;refine bb.mono ?_;rintro e ao ⟨rfl,bq⟩;have a4:=ba.trans bq;have bc:=Ab (bm ao a4);have bv:=Ab a4;clear bq a4 bm bb ba;go_wp2_with fail;refine bc.mono ?_;rintro e w3 ⟨rfl,a6⟩;have F:=bv.trans a6;obtain⟨Z,O⟩:=exq (padB S++Al n 16++Al (65535-n) 16);rw[O]at F;(have bi:Z.length=(padB S).length+32:=by rw[<-O];simp[Ai]);(have au:freeN Z.length=0:=by have:=Z5y S;rw[bi];unfold freeN at*;omega);have cw:=Ab O;obtain⟨ov,old,aa,I,ap,bn,ag⟩:=F.is.ex;rw[pdS au]at ag;rw[au]at aa;have ar:=congrArg List.length ag;rw[Af]at ar;have cq:=RY aj (bw w3 _ F) cg;have c0:w3.cell? ⟨ac,0,vn⟩=vp ov:=Ac aa;have f0:=B1 w3 ac 0 _ _ aa;obtain⟨L,ax⟩:=exq (old.length);rw[ax]at I ar;have b5:=F.below.size
 have ai:vz (∀v' E,E.ownsRow (ac+1) 5 1 v' (L+n) (u8s old++u8s bs)->w3.grownBy E ov.ownBlock->(v'.ownBlock=ov.ownBlock\/v'.ownBlock=vp w3.heap.size)->E.cell? ⟨ac,0,vn⟩=vp ov/\E.frozen? ⟨ac,0,vn⟩=vq/\Rp No B w ac (padB S++Al n 16++Al (65535-n) 16++rowB bs bs.length) (E.setCell ⟨ac,0,vn⟩ v')):=by
  intro v' E H G ae;have a5:E.heap[ac]? =vp (vl #[ov,so vh (0:Nat)] 179 (0,0)):=(G.block ac om (λe=>by have:=(I.lt ac e.symm).1;omega)).trans aa;have aw:=Ad E ac 0 v';have cv:=G.size;(have b8:(rowB bs bs.length).length=8*n:=by rw[Af,Aa aj]);(have bh:freeN (Z++rowB bs bs.length).length=0:=by rw[VB,b8];unfold freeN at*;omega);refine⟨Ac a5,B1 E ac 0 _ _ a5,?_⟩;rw[O];refine⟨⟨a8,bz,v',old++bs,?_,?_,?_,?_,?_⟩,?_,?_⟩;rw[bh,CR _ ac 0 _ _ _ a5];rfl
  . rw[VB,ax,Aa aj];have e:u8s (old++bs)=u8s old++u8s bs:=oS;rw[e];refine H.kept aw ?_
    cases af:v'.ownBlock with
    |none=>exact .inl rfl
    |some g=>refine .inr (λe=> ?_);have:=(H.lt g af).1;cases e;omega
  intro g U;rcases ae with e|e;exact ap g (by rw[<-e];exact U);rw[e]at U;have:=VK U;exact cm g om;intro j;by_cases b7:j<old.length;have:=bn j;simp only[List.getD]at this ⊢;rw[WT b7];exact this;have:=Aa ct (j-old.length);simp only[List.getD]at this ⊢;rw[VX om];exact this;rw[pdS bh,VB,Rf old bs bs.length,<-ax]at*;rw[ag];exact(F.below.grown G om (λg e=>by have:=(I.lt g e).1;omega)).grown aw om (λg e=>by cases e;exact a8);exact(F.kp.grown G b5 (λg e=>ap g e)).grown aw om (λg e=>by cases e;exact bz)
 have ah:=Ab I;have c6:L<=40000:=om;have ce:0<L:=om;obtain⟨ga,ca,cd,_,_⟩:=Ax I ce;clear aa I ap bn ag a6 F bc bv ar ci O bi au bw b4;subst cd;(rcases cq with ⟨rfl,rfl,rfl,rfl⟩|⟨ad,rfl,bj⟩);(. have bd:=Aa ai _ w3 (by simpa using Aa ah) (Av w3 _) (.inl rfl);have av:=Ab bd.2.2;clear bd ai;go_wp2_with (at_builtin;refine wpList_append_own_none rfl _ _ 23 rfl (ac+1) 5 bf 1 underlying23 hi _ L (u8s old) rfl ah rfl ?_);go_end0;exact⟨rfl,av⟩);. have ck:=Ab bj;clear bj;go_wp2_with (at_builtin;refine HG _ rfl _ _ 23 rfl (ac+1) 5 bf (so vi 0) 1 1 underlying23 hi b9 co cj rfl od _ L (u8s old) rfl ah ad n a3 (u8s bs) rfl (by rw[WP,Aa aj,Nat.mul_one]) ck qAU ou om om ?_);intro v' E H G _ ae;obtain⟨r0,r1,r2⟩:=Aa ai v' E H G ae;obtain⟨c5,cu,cn,_,_⟩:=Ax H om;have av:=Ab r2;subst cn;clear H G ae r2 ai ah;go_wp2;go_end0;exact⟨rfl,av⟩
theorem Gf:(Tryz.prog.info? 282).map (·.size)=vp 2:=oR
theorem Wg{o:Oper}{a:Act}{K:Act->wd->Prop}{E:Prop}(lk:o.guard=vn)(T:TypeId)(x y:Operand)(H:o.op=.store T x y) (g:Nat) (F G:Array vt) (aa:a.eval x=vc (vp ⟨g,0,vn⟩)) (I:a.eval y=vf F) (U:W.heap[g]? =vp (vl G T (0,0))) (Z:(Tryz.prog.info? T).map (·.size)=vp F.size) (ac:G.size=F.size) (O:F.all (·.oneCell')=vr) (h:K (a.put o.dst undef) (W.setRow g F)):if Region.wanted o (yielded h5 a.tmps)=vr then Oper.wp v8 o a W K Q else E:=by have e:=qBL;rw[A1 e];exact wp_store_row T x y H g F aa I T G U Z ac O h
theorem Ql(w:wd)(g:Nat)(E:Array vt):w.grownBy (w.setRow g E) (vp g):=by have hb:=Az (A2 0 w) (VF g) E;exact⟨hb.os,hb.tape,hb.output,hb.size,λG _ F=>TX _ _ _ _ (λe=>F (by rw[e]))⟩
theorem KY(row:List Bool)(u u1 u2 u3:US)(F H G:Nat)(g1:uget row 5 u=(F,u1))(g2:uget row 5 u1=(H,u2))(I:uget row 4 u2=(G,u3))(E:u3.e≠0):(Dm row u).2=u3:=Pc row u u1 u2 u3 F H G g1 g2 I u3 E (by
 split
 . rw[Xi 8 u3 E];exact Ku _ _ _ _ E
 . exact Ku _ _ _ _ E)
theorem QP(row:List Bool)(u u1 u2 u3 E:US)(F H G:Nat)(S:List Int)(g1:uget row 5 u=(F,u1))(g2:uget row 5 u1=(H,u2))(ac:uget row 4 u2=(G,u3))(ae:F+257<=286)(af:H+1<=30)(aa:usmall row (ord19.take (G+4)) (List.replicate 19 0) u3=(S,E))(I:E.e=0)(O:errL S≠0):(Dm row u).2= {E with e:=8}:=by(have Z:Gx row (F+257) (H+1) (G+4) u3=(S,E):=by unfold Gx;rw[A0 om];exact aa);(have U:Sp (S,E)= {E with e:=8}:=by unfold Sp An;rw[A1 ⟨I,O⟩,A1 I]);unfold Dm;simp only[g1,g2,ac];rw[Z];unfold Lk;rw[U,A1 (by exact(by decide:(8:Int)≠0))]
theorem KZ(row:List Bool)(u u1 u2 u3:US)(E F G:Nat)(g1:uget row 5 u=(E,u1))(g2:uget row 5 u1=(F,u2))(U:uget row 4 u2=(G,u3))(I:u3.e=0)(H:286<E+257\/30<F+1):(Dm row u).2= {u3 with e:=8}:=Pc row u u1 u2 u3 E F G g1 g2 U _ (by exact(by decide:(8:Int)≠0)) (by
 rw[A1 H]
 have O:An 8 u3= {u3 with e:=8}:=by unfold An;rw[A1 I]
 rw[O]
 exact Ku _ _ _ _ (by exact(by decide:(8:Int)≠0)))
def Ze1(No:Nat->Prop)(B:Nat)(w:wd)(b:Nat)(R f1 f2:vt)(A C:List Int)(v:US)(e:Ending)(w':wd):Prop:=
 (v.e≠0/\e=HR v.e/\Bl No B w w')\/ (v.e=0/\Rk No B w b R f1 f2 v w'/\Good A/\Good C/\∃g1 m1 b1 n1 g2 m2 b2 n2,e=vm (vf #[DV g1 m1,DV g2 m2])/\H3 w' g1 m1 b1 n1 b A/\H3 w' g2 m2 b2 n2 b C/\(w.heap.size<=g1/\w.heap.size<=m1/\w.heap.size<=b1)/\(w.heap.size<=g2/\w.heap.size<=m2/\w.heap.size<=b2))
theorem X0{B:Nat}(h:IIs No B w b (va a n ac) E I u)(cy:Rd w No a n bs)(em:u.p<=8*n)(U:u.e=0)(co:∀g,w.heap.size<=g->¬No g)(A C:List Int)(v:US)(cu:vz (Dm (rowB bs n) u=((A,C),v))):vu v8 252 #[vc (vp ⟨b,0,vn⟩)] w λe w'=>Ze1 No B w b (va a n ac) E I A C v e w':=by
 have bi:=Af bs n;have fe:=h.lt;have ci:=Ab (Rk.refl h)
 have ej:vz (∀wr:wd,w.heap.size<=wr.heap.size->∀g,wr.heap.size<=g->¬NK No w.heap.size wr.heap.size g):=Ab (λwr gn g ae e=>by
  rcases e with e|e
  . exact co g om e
  . omega)
 have fw:=Ab co;have a3:vz (∀wr:wd,Bl No B w wr->Rd wr (NJ No w.heap.size) a n bs/\Rd wr (NK No w.heap.size wr.heap.size) a n bs):=Ab (λwr hb=>⟨(cy.keep hb.below.size hb.kp).wide (λ_ h=>.inl h),(cy.keep hb.below.size hb.kp).wide (λ_ h=>.inl h)⟩);obtain⟨m0,u1,ai⟩:∃r y,uget (rowB bs n) 5 u=(r,y):=⟨_,_,rfl⟩;obtain⟨n0,u2,ag⟩:∃r y,uget (rowB bs n) 5 u1=(r,y):=⟨_,_,rfl⟩;obtain⟨c0,u3,H⟩:∃r y,uget (rowB bs n) 4 u2=(r,y):=⟨_,_,rfl⟩;(have p1:u1.p<=8*n:=by have:=He (rowB bs n) 5 u om;rw[ai,bi]at this;exact this);(have ew:u2.p<=8*n:=by have:=He (rowB bs n) 5 u1 om;rw[ag,bi]at this;exact this);(have eu:u3.p<=8*n:=by have:=He (rowB bs n) 4 u2 om;rw[H,bi]at this;exact this);(have l1:m0<32:=by have:=T4 (rowB bs n) 5 u;rw[ai]at this;exact this);(have l2:n0<32:=by have:=T4 (rowB bs n) 5 u1;rw[ag]at this;exact this);(have gd:c0<16:=by have:=T4 (rowB bs n) 4 u2;rw[H]at this;exact this);have bv:vz (v=(Dm (rowB bs n) u).2):=Ab (by rw[Aa cu]);have bw:vz (u3.e≠0->v=u3):=Ab (λe=>by rw[Aa bv];exact KY (rowB bs n) u u1 u2 u3 m0 n0 c0 ai ag H e);have cg:vz (u1.e≠0->u3=u1):=Ab (λe=>by (have aa:u2=u1:=by have:=Fw (rowB bs n) 5 u1 e;rw[ag]at this;exact this);(have a5:u3=u2:=by have:=Fw (rowB bs n) 4 u2 (by rw[aa];exact e);rw[H]at this;exact this);rw[a5,aa]);have b4:vz (u2.e≠0->u3=u2):=Ab (λe=>by have:=Fw (rowB bs n) 4 u2 e;rw[H]at this;exact this);have b5:vz (u3.e=0->(286<m0+257\/30<n0+1)->v= {u3 with e:=8}):=Ab (λe fg=>by rw[Aa bv];exact KZ (rowB bs n) u u1 u2 u3 m0 n0 c0 ai ag H e fg);have dt:vz (∀W,Rk No B w b (va a n ac) E I u W->vu v8 230 #[vc (vp ⟨b,0,vn⟩),so vh 5] W λe w'=>HK (NJ No w.heap.size) B W b (va a n ac) E I (so vh m0) u1 e w'):=Ab (λW G=>Eg (NJ No w.heap.size) B b a n ac 5 bs E I u W G.is (a3 W G.bl).1 em U od m0 u1 (Ab ai));have de:vz (∀W,u1.e=0->Rk No B w b (va a n ac) E I u1 W->vu v8 230 #[vc (vp ⟨b,0,vn⟩),so vh 5] W λe w'=>HK (NJ No w.heap.size) B W b (va a n ac) E I (so vh n0) u2 e w'):=Ab (λW U G=>Eg (NJ No w.heap.size) B b a n ac 5 bs E I u1 W G.is (a3 W G.bl).1 p1 U od n0 u2 (Ab ag));have du:vz (∀W,u2.e=0->Rk No B w b (va a n ac) E I u2 W->vu v8 230 #[vc (vp ⟨b,0,vn⟩),so vh 4] W λe w'=>HK (NJ No w.heap.size) B W b (va a n ac) E I (so vh c0) u3 e w'):=Ab (λW U G=>Eg (NJ No w.heap.size) B b a n ac 4 bs E I u2 W G.is (a3 W G.bl).1 ew U od c0 u3 (Ab H));obtain⟨S,us,aj⟩:∃S us,usmall (rowB bs n) (ord19.take (c0+4)) (List.replicate 19 0) u3=(S,us):=⟨_,_,rfl⟩;have ep:vz (∀W,u3.e=0->Rk No B w b (va a n ac) E I u3 W->vu v8 272 #[vc (vp ⟨b,0,vn⟩),so vh (4+(c0:Int))] W λe w'=>Zcu (NK No w.heap.size W.heap.size) B W b (va a n ac) E I S us e w'):=Ab (λW U G=>by have:=Qb G.inner (a3 W G.bl).2 eu U (ej W G.bl.below.size) (c0+4) om S us (Ab aj);rw[show ((c0+4:Nat):Int)=4+(c0:Int) by omega]at this;exact this);(have dc:S.length=19:=by have:=Xk (row:=rowB bs n) (ks:=ord19.take (c0+4)) (s:=List.replicate 19 0) (u:=u3);rw[aj]at this;simpa using this);have dj:∀x∈S,0<=x/\x<=7:=by have:=Sm (rowx:=rowB bs n) (ord19.take (c0+4)) (List.replicate 19 0) u3 (by intro x ar;rw[List.eq_of_mem_replicate ar];decide);rw[aj]at this;exact this
 have en:vz (errL S≠0->errL S=8):=Ab (λe=>by
  rcases FC S om (λx ar=>by have:=dj x ar;omega)with h|h
  . exact absurd h e
  . exact h)
 have d5:vz (286<m0+257\/30<n0+1\/ (us.e≠0->v=us)/\(us.e=0->errL S≠0->v= {us with e:=8})):=Ab (by
  by_cases ao:286<m0+257
  . exact .inl ao
  . by_cases aa:30<n0+1
    . exact .inr (.inl aa)
    . refine .inr (.inr ⟨λe=> ?_,λZ e2=> ?_⟩)
      . rw[Aa bv]
        exact Pc (rowB bs n) u u1 u2 u3 m0 n0 c0 ai ag H us e (by rw[A0 om,aj])
      . rw[Aa bv]
        exact QP (rowB bs n) u u1 u2 u3 us m0 n0 c0 S ai ag H om om aj Z e2)
 obtain⟨L,v',a8⟩:∃L v',ulens (rowB bs n) S (m0+257+(n0+1)) (m0+257+(n0+1)) [] us=(L,v'):=⟨_,_,rfl⟩;obtain⟨tot,e0⟩:=exq (m0+257+(n0+1));have d9:vz (∀W gr gm mb nn,us.e=0->errL S=0->Rk No B w b (va a n ac) E I us W->H3 W gr gm mb nn b S->w.heap.size<=gr->w.heap.size<=gm->w.heap.size<=mb->vu v8 271 #[vc (vp ⟨b,0,vn⟩),DV gr gm,so vh (257+(m0:Int)+(1+(n0:Int)))] W λe w'=>(v'.e≠0/\e=HR v'.e/\Bl (NK No w.heap.size W.heap.size) B W w')\/ (v'.e=0/\Rk (NK No w.heap.size W.heap.size) B W b (va a n ac) E I v' w'/\∃ct,e=vm ct/\w'.ownsRow W.heap.size 3 1 ct L.length (iv L)/\L.length=tot)):=Ab (λW gr gm mb nn U fo G cj ao aa a5=>by have r1:=cj.lt;have r2:=cj.is.lt;(have et:us.p<=8*n:=by have:=(Zt (ks:=ord19.take (c0+4)) (s:=List.replicate 19 0) (row:=rowB bs n) (u:=u3) (by rw[aj];exact U) om).2.1;rw[aj,bi]at this;exact this);have:=EG G.inner (a3 W G.bl).2 et U (ej W G.bl.below.size) cj (Cl fo) ⟨.inr ⟨ao,r1.1⟩,.inr ⟨aa,r1.2⟩,.inr ⟨a5,r2⟩⟩ dc tot om L v' (Ab (by rw[<-e0];exact a8));rw[show ((tot:Nat):Int)=257+(m0:Int)+(1+(n0:Int)) by omega]at this;exact this);have b8:vz (m0+257<=286->n0+1<=30->us.e=0->errL S=0->Gy (m0+257) (L,v')=((A,C),v)):=Ab (λao aa a5 f6=>by rw[<-Aa cu,Z3m (rowB bs n) u u1 u2 u3 us m0 n0 c0 S ai ag H ao aa aj a5 f6,a8]);have dn:vz (v'.e=0->∀x∈L,0<=x/\x<=15):=Ab (λe=>by have:=Xn (rowx:=rowB bs n) (tot:=m0+257+(n0+1)) dc (m0+257+(n0+1)) [] us oS (by rw[a8];exact e);rw[a8]at this;exact this);clear h cy em U co ai ag H aj a8 dj cu;go_enter func252,ntmps252;go_wp2_with fail;refine(dt _ (ci.past ((A2 _ _).alloc (VA _) _))).mono ?_;have cd:=Ab (ci.past ((A2 _ _).alloc (VA _) (vl #[vg,vg] 282)));have dh:=cS;have eo:=Ab dh;have fx:w.heap.size<(w.alloc (vl #[vg,vg] 282)).heap.size:=oS;clear dh;generalize w.alloc (vl #[vg,vg] 282)=g0 at*;rintro e cm ae;(rcases ae with ⟨Z,rfl,bh⟩|⟨Z,rfl,cp⟩);rotate_left;have O:vz (v=u1):=Ab (by rw[Aa bw (by rw[Aa cg Z];exact Z),Aa cg Z]);have ap:=Ab (cd.bl.trans (cp.weaken (λ_ h=>.inl h)));exact jC;have bm:=Ab (cd.num bh);have di:vz (cm.heap[w.heap.size]? =vp (vl #[vg,vg] 282 (0,0))):=Ab ((bh.kp _ fx (.inr (VA _))).trans (Aa eo));(have fy:w.heap.size<cm.heap.size:=by have:=bh.below.size;omega);clear bh;go_wp2_with fail;refine(de cm Z bm).mono ?_;rintro e cz ae;(rcases ae with ⟨e2,rfl,bq⟩|⟨e2,rfl,g8⟩);rotate_left;have O:vz (v=u2):=Ab (by rw[Aa bw (by rw[Aa b4 e2];exact e2),Aa b4 e2]);have ap:=Ab (bm.bl.trans (g8.weaken (λ_ h=>.inl h)));exact jD;have bb:=Ab (bm.num bq);have dv:vz (cz.heap[w.heap.size]? =vp (vl #[vg,vg] 282 (0,0))):=Ab ((bq.kp _ fy (.inr (VA _))).trans (Aa di));(have fi:w.heap.size<cz.heap.size:=by have:=bq.below.size;omega);clear bq;go_wp2_with fail;refine(du cz e2 bb).mono ?_;rintro e w3 ae;(rcases ae with ⟨e3,rfl,bf⟩|⟨e3,rfl,db⟩);rotate_left;(. have O:vz (v=u3):=Ab (bw e3);have ap:=Ab (bb.bl.trans (db.weaken (λ_ h=>.inl h)));clear db;go_wp2;exact⟨rfl,.inl ⟨by rw[Aa O];exact e3,by rw[Aa O],ap⟩⟩);have k3:=Ab (bb.num bf);have dr:vz (w3.heap[w.heap.size]? =vp (vl #[vg,vg] 282 (0,0))):=Ab ((bf.kp _ fi (.inr (VA _))).trans (Aa dv));(have c7:w.heap.size<w3.heap.size:=by have:=bf.below.size;omega);clear bf;have ng:=Ab (Ci 8 w3);by_cases ao:286<m0+257;have O:vz (v= {u3 with e:=8}):=Ab (b5 e3 (.inl ao));have e4:(286:Int)<257+(m0:Int):=om;exact zE;have e4:¬(286:Int)<257+(m0:Int):=om;by_cases aa:30<n0+1;have O:vz (v= {u3 with e:=8}):=Ab (b5 e3 (.inr aa));have fj:(30:Int)<1+(n0:Int):=om;exact zE;have fj:¬(30:Int)<1+(n0:Int):=om
 have ce:vz ((us.e≠0->v=us)/\(us.e=0->errL S≠0->v= {us with e:=8})):=Ab (by
  rcases Aa d5 with h|h|h
  . exact absurd h ao
  . exact absurd h aa
  . exact h)
 clear ng d5 b5 bw cg b4 dt de du;go_wp2_with fail;refine(ep w3 e3 k3).mono ?_;rintro e gw ae;(rcases ae with ⟨al,rfl,a7⟩|⟨al,ax,rfl,a7⟩|⟨al,ax,bc,gr,gm,mb,nn,rfl,d1,az,a6,b7,au⟩);(. have O:vz (v=us):=Ab (ce.1 al);have ap:=Ab (k3.bl.trans (a7.weaken (λ_ h=>.inl h)));clear a7;go_wp2;exact⟨rfl,.inl ⟨by rw[Aa O];exact al,by rw[Aa O],ap⟩⟩);(. have O:vz (v= {us with e:=8}):=Ab (ce.2 al ax);have ap:=Ab (k3.bl.trans (a7.weaken (λ_ h=>.inl h)));have e1:=Ab (en ax);clear a7;go_wp2;exact⟨rfl,.inl ⟨by rw[Aa O];exact(by decide:(8:Int)≠0),by rw[Aa O,Aa e1],ap⟩⟩);have bu:=Ab (k3.step bc);have da:vz (gw.heap[w.heap.size]? =vp (vl #[vg,vg] 282 (0,0))):=Ab ((bc.bl.kp _ c7 (.inr ⟨VA _,c7⟩)).trans (Aa dr));(have ek:w.heap.size<gw.heap.size:=by have:=bc.bl.below.size;omega);have ds:=Ab (d9 gw gr gm mb nn al ax bu au om om om);clear bc d1 az a6 b7 au d9 ep ce en;go_wp2_with fail;refine ds.mono ?_;rintro e F ae;(rcases ae with ⟨af,rfl,eh⟩|⟨af,bg,ct,rfl,a4,c5⟩);(. have O:vz (v=v'):=Ab (by have:=Aa b8 om om al ax;unfold Gy at this;rw[A1 af]at this;exact(VM this).2.symm);have ap:=Ab (bu.bl.trans (eh.weaken (λ_ h=>.inl h)));clear eh;go_wp2;exact⟨rfl,.inl ⟨by rw[Aa O];exact af,by rw[Aa O],ap⟩⟩);have bn:=Ab (bu.step bg);have fh:vz (F.heap[w.heap.size]? =vp (vl #[vg,vg] 282 (0,0))):=Ab ((bg.bl.kp _ ek (.inr ⟨VA _,ek⟩)).trans (Aa da));(have dm:w.heap.size<F.heap.size:=by have:=bg.bl.below.size;omega);rw[c5]at a4;obtain⟨ak,ay,rfl,g5,ei⟩:=Ax a4 om;have f8:=Z4r a4;(have cw:Row vh F ak 0 L:=by obtain⟨gy,g4,f5,ed,e7,_⟩:=Zeq a4;cases f5;rcases e7 with ft|⟨f9,gq,f4,_,H⟩;rw[ft]at ed;simp at ed;omega;. cases f4;exact H);have dl:=Ab cw;have b9:=Ab c5;(have fu:F.cell? ⟨ak,256,vn⟩=vp (so vh (L.getD 256 0)):=by have:=cw 256 om;rw[VY]at this;exact this);have cn:vz (Gy (m0+257) (L,v')=((A,C),v)):=Ab (b8 om om al ax);have dw:=Ab (dn af);obtain⟨z,bz⟩:=exq (L.getD 256 0);rw[bz]at fu;have c9:=Ab bz;clear bg a4 cw bz b8 dn ds cd bm bb k3 bu di dv dr da eo ci;have gh:(256:Int)<tot:=om;by_cases bd:z=0;(. have O:vz (v= {v' with e:=8}):=Ab (by have:=Aa cn;unfold Gy at this;rw[A0 (λc=>c af),A1 (.inl ((Aa c9).trans bd))]at this;rw[<-(VM this).2];unfold An;rw[A1 af]);have ng:=Ab (Ci 8 F);subst bd;go_wp2_with fail;refine ng.mono ?_;rintro e w6 ⟨rfl,rfl⟩;go_wp2;exact⟨rfl,.inl ⟨by rw[Aa O];exact(by decide:(8:Int)≠0),by rw[Aa O],bn.bl⟩⟩);(have g9:(z==0)=false:=by rw[HH];exact bd);obtain⟨m,hm⟩:=exq (m0+257);have ee:257+(m0:Int)=m:=om;have gz:m<=tot:=om;(have eb:(L.take m).length=m:=by rw[VL];have:=Aa b9;omega);(have c6:(L.drop m).length=tot-m:=by rw[VR,Aa b9]);have e9:=Ab (λq=>Mf b (vp ⟨ak,0,vn⟩) m ay (L.take m) (F.drewN q) eb om (.inr ⟨ak,0,rfl,ei,λj c8=>by have:=Aa dl j (oh b9);(have e:(L.take m).getD j 0=L.getD j 0:=by simp only[List.getD];rw[XR om]);rw[e];exact this⟩));have ey:vz (∀W,vx F.heap.size F W->vu v8 270 #[vc (vp ⟨b,0,vn⟩),va (vp ⟨ak,m,vn⟩) (tot-m) (ay-m)] W λe w'=>Ze2 b (L.drop m) W e w'):=Ab (λW dy=>Mf b (vp ⟨ak,m,vn⟩) (tot-m) (ay-m) (L.drop m) W c6 om (.inr ⟨ak,m,rfl,by have:=dy.size;omega,λj c8=>by (have f7:m+j<L.length:=by rw[VR]at c8;omega);have:=Aa dl (m+j) f7;rw[VY]at this;(have e:(L.drop m).getD j 0=L.getD (m+j) 0:=by simp only[List.getD];rw[XL]);rw[e];exact(dy.cell (p:=⟨ak,m+j,vn⟩) ei).trans this⟩));have d8:vz (errL (L.take m)≠0\/errL (L.drop m)≠0->v= {v' with e:=8}):=Ab (λfk=>by have:=Aa cn;unfold Gy at this;rw[A0 (λc=>c af),hm,A1 (.inr fk)]at this;rw[<-(VM this).2];unfold An;rw[A1 af])
 have ff:vz (errL (L.take m)=0->errL (L.drop m)=0->A=L.take m/\C=L.drop m/\v=v'):=Ab (λfp hc=>by
  have:=Aa cn
  unfold Gy at this
  rw[A0 (λc=>c af),hm,A0 (by
   rintro (c|c|c)
   . exact bd (c9.symm.trans c)
   . exact c fp
   . exact c hc)]at this
  exact⟨(VM (VM this).1).1.symm,(VM (VM this).1).2.symm,(VM this).2.symm⟩)
 have dq:vz ((errL (L.take m)≠0->errL (L.take m)=8)/\(errL (L.drop m)≠0->errL (L.drop m)=8)):=Ab (by
  constructor
  . intro e
    rcases FC (L.take m) om (λx ar=>Aa dw x (VU ar))with h|h
    . exact absurd h e
    . exact h
  . intro e
    rcases FC (L.drop m) om (λx ar=>Aa dw x (WM ar))with h|h
    . exact absurd h e
    . exact h)
 have gi:(m:Int)<=tot:=om;have g7:(m:Int)<=ay:=om;have gj:(tot:Int)<=ay:=om;have gv:¬ay=m:=om;rw[ee];clear ee;clear eb c6;go_wp2;refine wp_region_any oR ?_;(try (change wpAny _ _ _ _ _ _ _ (World.drew _)));refine E3 0 ?_;refine E3 1 ?_;refine E3 2 ?_;refine E3 3 ?_;refine E3 5 ?_;refine E3 6 ?_;refine E3 7 ?_;refine E3 8 ?_;refine Va 4 λK hK=> ?_;go_simp;refine(e9 _).mono ?_;rintro e w6 ⟨dz,e5⟩;have av:vz (vx F.heap.size F w6):=Ab ((Ae (A2 _ _) _).trans dz);clear dz;(rcases e5 with ⟨d0,g1,m1,b1,n1,rfl,d1,az,a6,b7,au⟩|⟨d0,rfl⟩);rotate_left;have O:vz (v= {v' with e:=8}):=Ab (d8 (.inl d0));rw[(Aa dq).1 d0];exact And.intro rfl (Or.inl ⟨by rw[Aa O];exact(by decide:(8:Int)≠0),by rw[Aa O],(bn.past av).bl⟩);dsimp only;refine hK _ _ ?_;clear hK K;refine Va 9 λK hK=> ?_;go_simp;refine(ey _ av).mono ?_;rintro e ba ⟨cq,f3⟩;have bo:=Ab cq;have cv:vz (vx F.heap.size F ba):=Ab (av.trans (cq.mono av.size));clear cq;(rcases f3 with ⟨x0,g2,m2,b2,n2,rfl,x1,x2,x3,x4,bj⟩|⟨x0,rfl⟩);rotate_left;have O:vz (v= {v' with e:=8}):=Ab (d8 (.inr x0));rw[(Aa dq).2 x0];exact And.intro rfl (Or.inl ⟨by rw[Aa O];exact(by decide:(8:Int)≠0),by rw[Aa O],(bn.past cv).bl⟩);dsimp only;refine hK _ _ ?_;clear hK K;refine HA 10 ?_;refine Va 11 λK hK=> ?_;have b0:ba.heap[w.heap.size]? =vp (vl #[vg,vg] 282 (0,0)):=(cv.block _ dm).trans (Aa fh);refine Wg rfl 282 (.tmp 2) (.tmp 46) rfl w.heap.size #[DV g1 m1,DV g2 m2] _ rfl rfl b0 Gf rfl qAD ?_;refine hK _ _ ?_;clear hK K;refine wpAny_done oR ?_ _;simp only[Act.put,VE,VH,VJ];obtain⟨aw,bk⟩:=exq (ba.setRow w.heap.size #[DV g1 m1,DV g2 m2]);(have e8:aw.heap[w.heap.size]? =vp (vl #[DV g1 m1,DV g2 m2] 282 (0,0)):=by rw[<-bk];exact ND _ _ _ _ _ _ b0);(have ah:ba.grownBy aw (vp w.heap.size):=by rw[<-bk];exact Ql _ _ _);have d6:vz (Rk No B w b (va a n ac) E I v' aw):=Ab ((bn.past cv).aside ah (λg e=>by cases e;exact VA _) (Aa fw) fe);have df:vz (H3 aw g1 m1 b1 n1 b (L.take m)):=Ab (by have a9:=au.lt;have ck:=au.is.lt;have fq:=bo.size;refine(au.keep fq (bo.block g1 a9.1) (bo.block m1 a9.2) (bo.block b1 ck)).keep ah.size (ah.block g1 om ?_) (ah.block m1 om ?_) (ah.block b1 om ?_)<;>(intro e;have:=VK e;have hs5:=dm;have gu:F.heap.size<=g1:=d1;have gx:F.heap.size<=m1:=az;have gg:F.heap.size<=b1:=a6;omega));have eg:vz (H3 aw g2 m2 b2 n2 b (L.drop m)):=Ab (by have a9:=bj.lt;have ck:=bj.is.lt;have e6:=av.size;refine bj.keep ah.size (ah.block g2 a9.1 ?_) (ah.block m2 a9.2 ?_) (ah.block b2 ck ?_)<;>(intro e;have:=VK e;omega));have O:vz (Ze1 No B w b (va a n ac) E I A C v (vm (vf #[DV g1 m1,DV g2 m2])) aw):=Ab (by obtain⟨r1,r2,d7⟩:=Aa ff d0 x0;have e6:=av.size;(have Z:w.heap.size<=g1:=by have d':F.heap.size<=g1:=d1;omega);(have e2:w.heap.size<=m1:=by have d':F.heap.size<=m1:=az;omega);(have e3:w.heap.size<=b1:=by have d':F.heap.size<=b1:=a6;omega);refine .inr ⟨by rw[d7];exact af,by rw[d7];exact Aa d6,by rw[r1];exact Cl d0,by rw[r2];exact Cl x0,g1,m1,b1,n1,g2,m2,b2,n2,rfl,by rw[r1];exact Aa df,by rw[r2];exact Aa eg,⟨Z,e2,e3⟩,⟨om,om,om⟩⟩);rw[bk];clear bk ah d0 d1 az a6 b7 au x0 x1 x2 x3 x4 bj df eg d6 b0;go_wp2;refine E1 (v:=vf #[DV g1 m1,DV g2 m2]) ?_ rfl O;exact MS rfl _ _ w.heap.size _ _ _ _ qAH e8 underlying282 rfl Gf
def Fx(No:Nat->Prop)(w:wd)(b:Nat)(f1 f2:vt):Prop:=
 (f1=vg/\f2=vg)\/∃g1 m1 b1 n1 g2 m2 b2 n2,f1=DV g1 m1/\f2=DV g2 m2/\H3 w g1 m1 b1 n1 b Pu/\H3 w g2 m2 b2 n2 b Lj/\(No g1/\No m1/\No b1)/\(No g2/\No m2/\No b2)
theorem Fx.keep(h:Fx No w b E I)(aa:w.heap.size<=w'.heap.size)(F:Kp No w w'):Fx No w' b E I:=by rcases h with h|⟨g1,m1,b1,n1,g2,m2,b2,n2,ae,e2,d1,G,⟨a1,a2,Z⟩,⟨c1,c2,U⟩⟩;exact .inl h;have O:=d1.lt;have ac:=d1.is.lt;have H:=G.lt;have af:=G.is.lt;exact .inr ⟨g1,m1,b1,n1,g2,m2,b2,n2,ae,e2,d1.keep aa (F g1 O.1 a1) (F m1 O.2 a2) (F b1 ac Z),G.keep aa (F g2 H.1 c1) (F m2 H.2 c2) (F b2 af U),⟨a1,a2,Z⟩,⟨c1,c2,U⟩⟩
def Zco(No:Nat->Prop)(B:Nat)(w:wd)(b:Nat)(R:vt)(u:US)(e:Ending)(w':wd):Prop:=
 ∃No' g1 m1 b1 n1 g2 m2 b2 n2,(∀g,No g->No' g)/\(∀g,w'.heap.size<=g->¬No' g)/\e=vm (vf #[DV g1 m1,DV g2 m2])/\IIs No' B w' b R (DV g1 m1) (DV g2 m2) u/\H3 w' g1 m1 b1 n1 b Pu/\H3 w' g2 m2 b2 n2 b Lj/\(No' g1/\No' m1/\No' b1)/\(No' g2/\No' m2/\No' b2)/\Bl No B w w'
theorem IIs.cells45{B:Nat}(h:IIs No B w b R E I u):w.cell? ⟨b,4,vn⟩=vp E/\w.cell? ⟨b,5,vn⟩=vp I/\∀j,w.frozen? ⟨b,j,vn⟩=false:=by exact vY
theorem G1{B:Nat}(h:IIs No B w b R (DV g1 ac) (DV g2 G) u)(H:H3 w g1 ac aa ak b Pu)(F:H3 w g2 G ai ar b Lj)(ag:No g1/\No ac/\No aa)(ah:No g2/\No G/\No ai)(O:∀g,w.heap.size<=g->¬No g):vu v8 251 #[vc (vp ⟨b,0,vn⟩)] w λe w'=>Zco No B w b R u e w':=by have au:=h.lt;have az:=h.base;obtain⟨ax,ay,_⟩:=h.cells45;have ap:vz (∀w',vx w.heap.size w w'->Zco No B w b R u (vm (vf #[DV g1 ac,DV g2 G])) w'):=Ab (λw' E=>by have ae:=E.size;have Z:=H.lt;have aj:=H.is.lt;have I:=F.lt;have ao:=F.is.lt;exact⟨No,g1,ac,aa,ak,g2,G,ai,ar,λ_ h=>h,λg aw=>O g om,rfl,h.past E,H.keep ae (E.block g1 Z.1) (E.block ac Z.2) (E.block aa aj),F.keep ae (E.block g2 I.1) (E.block G I.2) (E.block ai ao),ag,ah,Zcl E om⟩);clear h H F ag ah O;(have av:∀W:wd,(binOp .eql 259 (DV g1 ac) vg).run v8 W=.ok (ve vq) W:=λW=>by first|rfl|kernel_rfl);go_enter func251,ntmps251;have U:=cS;have af:=Ab U;have al:vz (vx w.heap.size w ((w.alloc (vl #[vg,vg] 282)).setRow w.heap.size #[DV g1 ac,DV g2 G])):=Ab (Az ((A2 w.heap.size w).alloc (VA _) _) (VA _) _);clear U;go_wp2_with (refine Ma rfl 282 (.tmp 2) (.tmp 28) rfl w.heap.size #[DV g1 ac,DV g2 G] rfl rfl 282 #[vg,vg] af Gf rfl qAD ?_);refine E1 (v:=vf #[DV g1 ac,DV g2 G]) ?_ rfl (ap _ al);exact MS rfl _ _ w.heap.size _ _ _ _ qAH (ND _ _ _ _ _ _ af) underlying282 rfl Gf
theorem AM{B:Nat}(h:IIs No B w b R vg vg u)(bq:∀g,w.heap.size<=g->¬No g):vu v8 251 #[vc (vp ⟨b,0,vn⟩)] w λe w'=>Zco No B w b R u e w':=by
 have cq:=h.lt;have dc:=h.base;obtain⟨dn,dt,dj⟩:=h.cells45;(have dh:∀W:wd,(binOp .eql 259 vg vg).run v8 W=.ok (ve vr) W:=λW=>by first|rfl|kernel_rfl);have cy:=Ab (Rk.refl h);have bu:=Ab bq;obtain⟨bv,aw⟩:=exq (Pu);obtain⟨ix,ax⟩:=exq (Lj);have g4:=Nz;have j6:=Fz;have ar:=Ob;have a7:=Ny;have bg:=Ab (λW=>AK W);simp only[aw,ax]at bg g4 j6 ar a7;obtain⟨ce,cd,c8,c5⟩:=Do ar a7 aw ax;have bd:=cS;have c6:=Ab bd;have ct:vz (vx w.heap.size w (w.alloc (vl #[vg,vg] 282))):=Ab ((A2 w.heap.size w).alloc (VA _) _);clear h bq aw ax ar a7 bd;have cg:=dL;have b7:=nK;go_enter func251,ntmps251;go_wp2_with fail;refine(bg _).mono ?_;rintro e au ⟨rfl,ac⟩;have da:=ac.size;simp only[CL]at da;have cw:vz (vx w.heap.size w au):=Ab (ct.trans (ac.mono oS));have cj:vz (au.heap[w.heap.size]? =vp (vl #[vg,vg] 282 (0,0))):=Ab ((ac.block _ oS).trans (Aa c6));clear ac;have a9:=cY;have bw:(((au.alloc (vl (iv (List.replicate 288 0)).toArray 247)).alloc (vl (iv (List.replicate 32 0)).toArray 248)).setRow au.heap.size (iv bv).toArray).heap[au.heap.size+1]? =vp (vl (iv (List.replicate 32 0)).toArray 248 (0,0)):=kF;obtain⟨ba,bh,b5⟩:=Bq a9 bw (λx y=>Kw au au x y 247 248 bv ix (A2 _ _) oS);clear a9 bw;go_upto_region 3 with (first|refine Ma rfl 247 (.tmp 3) (.tmp 13) rfl au.heap.size _ rfl rfl 247 (iv (List.replicate 288 0)).toArray ba cg (by simp[g4]) (Dj bv) ?_|refine Ma rfl 248 (.tmp 4) (.tmp 14) rfl (au.heap.size+1) _ rfl rfl 248 (iv (List.replicate 32 0)).toArray bh b7 (by simp[j6]) (Dj ix) ?_);simp only[Act.put];generalize hw:World.setRow (World.setRow (World.alloc (World.alloc _ _) _) _ _) _ _=W2;have F:=sG;have G:=rE;(have I:vx au.heap.size au W2:=by rw[<-hw];exact(b5 _ _).2.2);clear hw b5 ba bh;have dl:=I.size;have cv:vz (Rk No B w b R vg vg u W2):=Ab (cy.past (cw.trans (I.mono om)));have cm:vz (W2.heap[w.heap.size]? =vp (vl #[vg,vg] 282 (0,0))):=Ab ((I.block _ om).trans (Aa cj));have cp:=Ab (λk=>Pz b (vp ⟨au.heap.size,0,vn⟩) 288 288 (W2.drewN k) g4 (.inr ⟨_,0,rfl,F.lt,F.row⟩) ce);have b0:vz (∀W,vx W2.heap.size W2 W->vu v8 270 #[vc (vp ⟨b,0,vn⟩),va (vp ⟨au.heap.size+1,0,vn⟩) 32 32] W λe w'=>∃gr gm mb nn,e=vm (DV gr gm)/\W.heap.size<=gr/\W.heap.size<=gm/\W.heap.size<=mb/\mb<w'.heap.size/\H3 w' gr gm mb nn b ix/\vx W.heap.size W w'):=Ab (λW bi=>Pz b (vp ⟨au.heap.size+1,0,vn⟩) 32 32 W j6 (.inr ⟨_,0,rfl,(G.keep (bi.block _ G.lt)).lt,(G.keep (bi.block _ G.lt)).row⟩) cd);clear F G I;refine wp_region_any oR ?_;(try (change wpAny _ _ _ _ _ _ _ (World.drew _)));refine E3 0 ?_;refine E3 1 ?_;refine E3 2 ?_;refine E3 4 ?_;refine E3 5 ?_;refine Va 3 λK hK=> ?_;go_simp;refine(cp _).mono ?_;rintro e w6 ⟨g1,m1,b1,n1,rfl,d1,a8,bb,co,ao,bj⟩;have af:vz (vx W2.heap.size W2 w6):=Ab ((Ae (A2 _ _) _).trans bj);clear bj;dsimp only;refine hK _ _ ?_;clear hK K;refine Va 6 λK hK=> ?_;go_simp;refine(b0 _ af).mono ?_;rintro e E ⟨g2,m2,b2,n2,rfl,x1,x2,x3,x4,ai,a6⟩;have al:=Ab a6;have a5:vz (vx W2.heap.size W2 E):=Ab (af.trans (a6.mono af.size));clear a6;dsimp only;refine hK _ _ ?_;clear hK K;refine HA 7 ?_;refine HA 8 ?_;refine HA 9 ?_;have a3:=cv.past a5;have bo:=Ab a3;obtain⟨b4,ci,av⟩:=a3.is.cells45;have cz:=av 4;have cn:=av 5;clear a3;refine HA 10 ?_;refine wpAny_done oR ?_ _;obtain⟨U,Z⟩:=exq ((E.setCell ⟨b,4,vn⟩ (DV g1 m1)).setCell ⟨b,5,vn⟩ (DV g2 m2));have aa:=bo.is.set (g1:=DV g1 m1) (g2:=vg) 4 (DV g1 m1) u rfl rfl (λ_ _=>rfl);have aj:=aa.is.set (g1:=DV g1 m1) (g2:=DV g2 m2) 5 (DV g2 m2) u rfl rfl (λ_ _=>rfl);have dm:=a5.size;(have a4:Rk No B w b R (DV g1 m1) (DV g2 m2) u U:=by rw[<-Z];exact⟨aj.is,bo.bl.trans ((aa.bl.trans aj.bl).weaken (λ_ h=>.inl h))⟩);(have az:∀g,g≠b->U.heap[g]? =E.heap[g]? :=λg ay=>by rw[<-Z];by_cases bc:g<E.heap.size;have c9:=(Ad E b 4 (DV g1 m1)).block g bc (λe=>ay (VK e));have c7:=(Ad (E.setCell ⟨b,4,vn⟩ (DV g1 m1)) b 5 (DV g2 m2)).block g (VC bc aa.below.size) (λe=>ay (VK e));exact c7.trans c9;have di:((E.setCell ⟨b,4,vn⟩ (DV g1 m1)).setCell ⟨b,5,vn⟩ (DV g2 m2)).heap.size=E.heap.size:=oS;rw[XY om,XY om]);(have de:E.heap.size<=U.heap.size:=by rw[<-Z];exact WJ aa.below.size aj.below.size);obtain⟨du,ds,_⟩:=a4.is.cells45;have bn:vz (U.heap[w.heap.size]? =vp (vl #[vg,vg] 282 (0,0))):=Ab ((az _ om).trans ((a5.block _ om).trans (Aa cm)));obtain⟨H,ae⟩:=exq (U.setRow w.heap.size #[DV g1 m1,DV g2 m2]);(have ap:U.grownBy H (vp w.heap.size):=by rw[<-ae];exact Ql _ _ _);have b8:vz (H.heap[w.heap.size]? =vp (vl #[DV g1 m1,DV g2 m2] 282 (0,0))):=Ab (by rw[<-ae];exact ND _ _ _ _ _ _ bn);have ah:Rk No B w b R (DV g1 m1) (DV g2 m2) u H:=a4.aside ap (λg e=>by cases e;exact VA _) bu cq;have dq:=ap.size;have db:=af.size;have bk:W2.heap.size<=g1:=d1;have bm:W2.heap.size<=m1:=a8;have bf:W2.heap.size<=b1:=bb;have O:∀g,W2.heap.size<=g->g<E.heap.size->H.heap[g]? =E.heap[g]? :=λg dr df=>(ap.block g om (λe=>by have:=VK e;omega)).trans (az g om);(have ag:H3 H g1 m1 b1 n1 b bv:=by have F:=ao.lt;have G:=ao.is.lt;have b9:=al.size;exact(ao.keep b9 (al.block g1 F.1) (al.block m1 F.2) (al.block b1 G)).keep om (O g1 bk om) (O m1 bm om) (O b1 bf om));have ak:H3 H g2 m2 b2 n2 b ix:=by have F:=ai.lt;have G:=ai.is.lt;exact ai.keep om (O g2 om F.1) (O m2 om F.2) (O b2 om G)
 have ck:vz (Zco No B w b R u (vm (vf #[DV g1 m1,DV g2 m2])) H):=Ab (by
  have F:=ag.lt
  have G:=ag.is.lt
  have I:=ak.lt
  have cu:=ak.is.lt
  refine⟨NK No w.heap.size H.heap.size,g1,m1,b1,n1,g2,m2,b2,n2,λ_ h=>.inl h,λg ay e=> ?_,rfl,ah.inner,by rw[Aa c8];exact ag,by rw[Aa c5];exact ak,⟨.inr ⟨om,F.1⟩,.inr ⟨om,F.2⟩,.inr ⟨om,G⟩⟩,⟨.inr ⟨om,I.1⟩,.inr ⟨om,I.2⟩,.inr ⟨om,cu⟩⟩,ah.bl⟩
  rcases e with e|e
  . exact bu g (oI ah.bl.below.size) e
  . omega)
 clear ag ak O bk bm bf ah ap az a4 aa aj d1 a8 bb co ao x1 x2 x3 x4 ai b4 ci av cz cn;have bz:=Ab ae;clear ae;change Exit.then _ _ Exit.normal _ ((E.setCell ⟨b,4,vn⟩ (DV g1 m1)).setCell ⟨b,5,vn⟩ (DV g2 m2));rw[Z];clear Z;go_wp2_with (refine Ma rfl 282 (.tmp 2) (.tmp 28) rfl w.heap.size #[DV g1 m1,DV g2 m2] rfl rfl 282 #[vg,vg] bn Gf rfl qAD ?_);rw[Aa bz];refine E1 (v:=vf #[DV g1 m1,DV g2 m2]) ?_ rfl ck;exact MS rfl _ _ w.heap.size _ _ _ _ qAH b8 underlying282 rfl Gf
theorem Wy{B:Nat}(h:IIs No B w b R E I u)(H:Fx No w b E I)(F:∀g,w.heap.size<=g->¬No g):vu v8 251 #[vc (vp ⟨b,0,vn⟩)] w λe w'=>Zco No B w b R u e w':=by(rcases H with ⟨rfl,rfl⟩|⟨g1,m1,b1,n1,g2,m2,b2,n2,rfl,rfl,d1,G,a1,a2⟩);exact AM h F;exact G1 h d1 G a1 a2 F
def Bk(No:Nat->Prop)(B:Nat)(w0:wd)(b:Nat)(R:vt)(u:US)(w:wd):Prop:=
 ∃No' f1 f2,(∀g,No g->No' g)/\(∀g,w.heap.size<=g->¬No' g)/\IIs No' B w b R f1 f2 u/\Fx No' w b f1 f2/\Bl No B w0 w
def S4(No:Nat->Prop)(B:Nat)(w0:wd)(b:Nat)(R:vt)(V:US)(e:Ending)(w':wd):Prop:=
 (V.e=0/\e=vm (vd #[])/\Bk No B w0 b R V w')\/ (V.e≠0/\e=HR V.e/\Bl No B w0 w')
theorem Bl.outer{B:Nat}(h:Bl No B O w)(k:Bl No' B w w')(E:∀g,No g->No' g):Bl No B O w':=h.trans (k.weaken E)
theorem PY{B:Nat}(h:Bk No B O b (va a n ac) u w)(Z:Rd w No a n bs)(F:u.p<=8*n)(U:u.e=0)(H:u.out.length<=3000)(G:u.ks.length<=48000):vu v8 231 #[vc (vp ⟨b,0,vn⟩),so vh 0] w λe w'=>S4 No B O b (va a n ac) (Ed (rowB bs n) 0 u) e w':=by obtain⟨No',f1,f2,hn,d8,E,hF,I⟩:=h;have aa:Ed (rowB bs n) 0 u=(if (Cn (rowB bs n) u).e=0 then ukept 0 (Cn (rowB bs n) u)else Cn (rowB bs n) u):=rfl;rw[aa];refine(Vs E (Z.wide hn) F U H G d8 E.base _ (Ab rfl)).mono ?_;rintro e w' (⟨e0,rfl,ep⟩|⟨e0,rfl,ae⟩);exact kM;exact .inr ⟨e0,rfl,I.outer ae hn⟩
theorem PV{B:Nat}(k:Nat)(row:List Bool)(h:Bk No B O b R u w)(aa:3<=k)(ac:k<4):vu v8 231 #[vc (vp ⟨b,0,vn⟩),so vh k] w λe w'=>S4 No B O b R (Ed row k u) e w':=by obtain rfl:k=3:=om;obtain⟨No',f1,f2,hn,ae,H,U,F⟩:=h;have I:=Ab F;have E:vz (Ed row 3 u= {u with e:=4}):=Ab rfl;obtain⟨V,G⟩:=exq (Ed row 3 u);rw[G]at E ⊢;clear H U F G;go_enter func231,ntmps231;go_wp2_with fail;refine(Ci 4 w).mono ?_;rintro e Z ⟨rfl,rfl⟩;go_wp2;exact⟨rfl,.inr ⟨by rw[Aa E];exact(by decide:(4:Int)≠0),by rw[Aa E],I⟩⟩
theorem PX{B:Nat}(h:Bk No B O b (va a n ac) u w)(bm:Rd w No a n bs)(bi:u.p<=8*n)(bf:u.e=0)(al:u.out.length<=3000)(a5:u.ks.length<=48000):vu v8 231 #[vc (vp ⟨b,0,vn⟩),so vh 1] w λe w'=>S4 No B O b (va a n ac) (Ed (rowB bs n) 1 u) e w':=by have b8:=Af bs n;obtain⟨No',f1,f2,hn,bg,bj,a7,a9⟩:=h;obtain⟨b5,ck,bz,co,cg⟩:=EM Ce;obtain⟨V,ae⟩:=exq (Hz (rowB bs n) Pu Lj (8*n+1) u);obtain⟨X,ak⟩:=exq (Ed (rowB bs n) 1 u);have dl:vz ((if V.e=0 then ukept 1 V else V)=X):=Ab (by rw[<-ak,<-ae,<-b8];rfl);rw[ak];have cm:vz (V.e=0->V.ks.length<=48000):=Ab (λe=>by have:=(Kf (rowB bs n) Pu Lj (8*n+1) u om al (by rw[ae];exact e)).ks;rw[ae]at this;rw[this];exact a5);obtain⟨cv,b4,bh,aa,ay,cw⟩:=WW (Wy bj a7 bg) (bm.wide hn) a9 hn (And.intro bi (And.intro bf al)) ae;clear bj a7 a9 bm bi bf al a5 bg ae ak hn;go_enter func231,ntmps231;go_wp2_with fail;refine cv.mono ?_;rintro e ah ⟨Z,g1,m1,b1,n1,g2,m2,b2,n2,H,ai,rfl,a3,av,ao,au,ap,G⟩;obtain⟨I,ax⟩:=exq (DV g1 m1);obtain⟨U,az⟩:=exq (DV g2 m2);have bq:=Ab (Xu B ac I U u (by rw[<-ax,<-az];exact a3) ((b4.keep G.below.size G.kp).wide H) ay.1 ay.2.1 ay.2.2 av Z1j au ao Z1i ap ai cw);have ct:vz (∀Y w',DR Z B ah b (va a n ac) I U Y w'->Bk No B O b (va a n ac) Y w'):=Ab (λY w' F=>⟨Z,I,U,λg E=>H g (aa g E),λg E=>ai g (WJ F.below.size E),F.is,by have:Fx Z ah b I U:=.inr ⟨g1,m1,b1,n1,g2,m2,b2,n2,ax.symm,az.symm,av,ao,au,ap⟩;exact this.keep F.below.size F.kp,(bh.outer G aa).outer F.bl (λg E=>H g (aa g E))⟩);have jj:vz (∀w',Bl Z B ah w'->Bl No B O w'):=Ab (λw' hb=>(bh.outer G aa).outer hb (λg E=>H g (aa g E)));have ce:=Ab ai;clear H ai a3 av ao au ap G ax az;go_wp2_with fail;refine bq.mono ?_;rintro e cd E;(rcases E with ⟨e0,rfl,af⟩|⟨e0,rfl,il⟩);rotate_left;exact zA;have ie:vz (X= {V with ks:=V.ks++ [1]}):=Ab (by rw[<-Aa dl,A1 e0];rfl);have bv:=af.below.size;have aj:=af.is;have c5:=aj.lt;obtain⟨db,c8,bn,c7,bb,a8,ar,ba,bc,bd⟩:=aj.rows;obtain⟨L,aw⟩:=exq (V.ks.length);have ag:=ar;have bo:=Aa cm e0;rw[aw]at ag bo;obtain⟨de,cy,rfl⟩:=Am ag;obtain⟨cj,a4,b0,b9,cn,bu,b7,bw,ed,cu⟩:=ydJ ag aj bb a8 ar ba bc bd aw af;clear af aj bb a8 ar ba bc bd ag aw bn;go_wp2_with (at_builtin;refine HG _ rfl _ _ 76 rfl (b+1) 3 b5 (so vh 0) 1 8 underlying76 ck bz co cg rfl od _ L (i64s V.ks) rfl (cj.alloc _) ⟨cd.heap.size,0,vn⟩ 1 1 [so vh (1:Nat)] rfl rfl (RR _ _ _) (Df rfl) ou om oO ?_);intro v' dc e6 bk _ ia;obtain⟨c9,cz,cp,_,_⟩:=Ax e6 om;obtain⟨c6,da,a6⟩:=IIs.kept (c:=1) (v':=v') a4.base a4.no b0 b9 cn bu b7 bw (λg E=>Aa ce g (WJ bv E)) uO bk qAZ;have cq:=Ab (cu.trans a6);have ci:vz (∀w',DR Z B ah b (va a n ac) I U {V with ks:=V.ks++ [1]} w'->S4 No B O b (va a n ac) X (vm (vd #[])) w'):=Ab (λw' F=>.inl ⟨by rw[Aa ie];exact e0,rfl,by rw[Aa ie];exact Aa ct _ w' F⟩);subst cp;clear a6 e6 bk ia;go_wp2;go_end0;exact ci _ cq
theorem PW{B:Nat}(h:Bk No B O b (va a n ac) u w)(bb:Rd w No a n bs)(cg:u.p<=8*n)(b8:u.e=0)(bh:u.out.length<=3000)(bm:u.ks.length<=48000):vu v8 231 #[vc (vp ⟨b,0,vn⟩),so vh 2] w λe w'=>S4 No B O b (va a n ac) (Ed (rowB bs n) 2 u) e w':=by
 have bq:=Af bs n;obtain⟨No',ag,ah,hn,a8,ci,bo,bv⟩:=h;obtain⟨cy,dc,cu,dn,c9⟩:=EM Ce;obtain⟨A,C,x,ae⟩:∃A C x,Dm (rowB bs n) u=((A,C),x):=⟨_,_,_,rfl⟩;obtain⟨V,ai⟩:=exq (Hz (rowB bs n) A C (8*n+1) x);obtain⟨X,ax⟩:=exq (Ed (rowB bs n) 2 u);(have b5:X=if x.e≠0 then x else (if V.e=0 then ukept 2 V else V):=by rw[<-ax,<-ai,<-bq];show (if (Dm (rowB bs n) u).2.e≠0 then (Dm (rowB bs n) u).2 else Kg 2 (Hz (rowB bs n) (Dm (rowB bs n) u).1.1 (Dm (rowB bs n) u).1.2 ((rowB bs n).length+1) (Dm (rowB bs n) u).2))=_;rw[ae];rfl);rw[ax];have ce:=Ab b5;have bj:vz (x.e=0->RA (rowB bs n) u x):=Ab (λe=>by have:=Sk (rowB bs n) u om bh (by rw[ae];exact e);rw[ae]at this;exact this);have au:vz (V.e=0->x.e=0->V.ks.length<=48000):=Ab (λe e2=>by have q:=Aa bj e2;have:=(Kf (rowB bs n) A C (8*n+1) x q.le q.out (by rw[ai];exact e)).ks;rw[ai]at this;rw[this,q.ks];exact bm);obtain⟨cq,cw,ba,aa,mj,df,du⟩:=T7 (X0 ci (bb.wide hn) cg b8 a8 A C x (Ab ae)) (bb.wide hn) bv hn a8 bo ai;clear ci bo bv bb cg b8 bh bm a8 ai ax hn ae b5;go_enter func231,ntmps231;go_wp2_with fail;refine cq.mono ?_;rintro e U E;(rcases E with ⟨ex,rfl,cd⟩|⟨ex,G,bc,bk,g1,m1,b1,n1,g2,m2,b2,n2,rfl,ar,aj,ap,ak⟩);(. have ie:vz (X=x):=Ab (by rw[Aa ce,A1 ex]);have pz:=Ab (ba.outer cd aa);clear cd;go_wp2;exact⟨rfl,.inr ⟨by rw[Aa ie];exact ex,by rw[Aa ie],pz⟩⟩);have dl:vz ((if V.e=0 then ukept 2 V else V)=X):=Ab (by have:=Aa ce;rw[A0 (show ¬x.e≠0 from λc=>c ex)]at this;exact this.symm);have a9:=Aa bj ex;have a7:=a9.le;rw[bq]at a7;have bg:=Ab (λe=>Aa au e ex);clear au;have au:=bg;clear bg;obtain⟨H,af⟩:=exq (NK No' w.heap.size U.heap.size);(have F:∀g,No' g->H g:=λg E=>by rw[<-af];exact .inl E);(have av:∀g,U.heap.size<=g->¬H g:=λg E e=>by rw[<-af]at e;have:=G.bl.below.size;exact jL);(have Z:∀g,w.heap.size<=g->g<U.heap.size->H g:=λg dj c7=>by rw[<-af];exact .inr ⟨dj,c7⟩);(have bd:IIs H B U b (va a n ac) ag ah x:=by rw[<-af];exact G.inner);have a5:=ar.lt;have b9:=ar.is.lt;have a6:=aj.lt;have bz:=aj.is.lt;have cn:=Ab (Xu B ac ag ah x bd ((cw.keep G.bl.below.size G.bl.kp).wide F) a7 ex a9.out ar bc ⟨Z _ ap.1 a5.1,Z _ ap.2.1 a5.2,Z _ ap.2.2 b9⟩ aj bk ⟨Z _ ak.1 a6.1,Z _ ak.2.1 a6.2,Z _ ak.2.2 bz⟩ av du)
 have ds:vz (∀Y w',DR H B U b (va a n ac) ag ah Y w'->Bk No B O b (va a n ac) Y w'):=Ab (λY w' I=>⟨H,ag,ah,λg E=>F g (aa g E),λg E=>av g (WJ I.below.size E),I.is,by
  have f1:=df.keep G.bl.below.size G.bl.kp
  have f2:=f1.keep I.below.size (I.kp.weaken F)
  rcases f2 with f2|⟨g1,m1,b1,n1,g2,m2,b2,n2,di,de,bf,dr,a4,ay⟩
  . exact .inl f2
  . exact .inr ⟨g1,m1,b1,n1,g2,m2,b2,n2,di,de,bf,dr,⟨F _ a4.1,F _ a4.2.1,F _ a4.2.2⟩,⟨F _ ay.1,F _ ay.2.1,F _ ay.2.2⟩⟩,(ba.outer G.bl aa).outer I.bl (λg E=>F g (aa g E))⟩)
 have jj:vz (∀w',Bl H B U w'->Bl No B O w'):=Ab (λw' hb=>(ba.outer G.bl aa).outer hb (λg E=>F g (aa g E)));have c8:=Ab av;clear F av bd ar aj ap ak G af Z a5 b9 a6 bz a9 a7 bc bk;go_wp2_with fail;refine cn.mono ?_;rintro e c6 E;(rcases E with ⟨e0,rfl,al⟩|⟨e0,rfl,il⟩);rotate_left;exact zA;have ie:vz (X= {V with ks:=V.ks++ [2]}):=Ab (by rw[<-Aa dl,A1 e0];rfl);have cp:=al.below.size;have aw:=al.is;have dy:=aw.lt;obtain⟨d8,d5,ck,dz,b0,bu,az,bw,b4,b7⟩:=aw.rows;obtain⟨L,a3⟩:=exq (V.ks.length);have ao:=az;have cm:=Aa au e0;rw[a3]at ao cm;obtain⟨d9,dv,rfl⟩:=Am ao;obtain⟨db,bi,cv,c5,dh,co,cz,ct,ed,dt⟩:=ydJ ao aw b0 bu az bw b4 b7 a3 al;clear al aw b0 bu az bw b4 b7 ao a3 ck;go_wp2_with (at_builtin;refine HG _ rfl _ _ 76 rfl (b+1) 3 cy (so vh 0) 1 8 underlying76 dc cu dn c9 rfl od _ L (i64s V.ks) rfl (db.alloc _) ⟨c6.heap.size,0,vn⟩ 1 1 [so vh (2:Nat)] rfl rfl (RR _ _ _) (Df rfl) ou om oO ?_);intro v' eb e6 cj _ ia;obtain⟨d6,dw,dm,_,_⟩:=Ax e6 om;obtain⟨bf,d7,bn⟩:=IIs.kept (c:=2) (v':=v') bi.base bi.no cv c5 dh co cz ct (λg E=>Aa c8 g (WJ cp E)) uO cj qAZ;have dq:=Ab (dt.trans bn);have da:vz (∀w',DR H B U b (va a n ac) ag ah {V with ks:=V.ks++ [2]} w'->S4 No B O b (va a n ac) X (vm (vd #[])) w'):=Ab (λw' I=>.inl ⟨by rw[Aa ie];exact e0,rfl,by rw[Aa ie];exact Aa ds _ w' I⟩);subst dm;clear bn e6 cj ia;go_wp2;go_end0;exact da _ dq
theorem Z2p{B:Nat}(h:Bk No B O b (va a n ac) u w)(I:Rd w No a n bs)(E:u.p<=8*n)(H:u.e=0)(G:u.out.length<=3000)(F:u.ks.length<=48000)(U:k<4):vu v8 231 #[vc (vp ⟨b,0,vn⟩),so vh k] w λe w'=>S4 No B O b (va a n ac) (Ed (rowB bs n) k u) e w':=by rcases(by omega:k=0\/k=1\/k=2\/k=3)with rfl|rfl|rfl|rfl;exact PY h I E H G F;exact PX h I E H G F;exact PW h I E H G F;exact PV 3 (rowB bs n) h od od
theorem Bk.cellP{B:Nat}(h:Bk No B O b R u w):Z0j n b w=8*n+1-u.p:=by obtain⟨No',f1,f2,_,_,E,_⟩:=h;exact Nr E
theorem BT(B b E:Nat)(F:Nat)(u:US)(G:wd)(h:Bk No B G b (va a n F) u w)(aa:Rd w No a n bs)(H:u.p<=8*n)(U:u.e=0)(ae:E<=16)(r:Nat)(v:US)(ac:uget (rowB bs n) E u=(r,v)):vu v8 230 #[vc (vp ⟨b,0,vn⟩),so vh E] w λe w'=>(v.e=0/\e=vm (so vh r)/\Bk No B G b (va a n F) v w')\/ (v.e≠0/\e=HR v.e/\Bl No B G w'):=by obtain⟨No',f1,f2,hn,d8,O,hF,I⟩:=h;refine(Eg No' B b a n F E bs f1 f2 u w O (aa.wide hn) H U ae r v (Ab ac)).mono ?_;rintro e w' (⟨e0,rfl,ep⟩|⟨e0,rfl,Z⟩);exact kM;exact .inr ⟨e0,rfl,I.outer Z hn⟩
theorem Bk.bl{B:Nat}(h:Bk No B O b R u w):Bl No B O w:=by obtain⟨No',f1,f2,_,_,_,_,E⟩:=h;exact E
theorem PQ{B:Nat}(h:IIs No B w b (va a n ac) vg vg O9)(au:Rd w No a n bs)(ay:∀g,w.heap.size<=g->¬No g):vu v8 205 #[vc (vp ⟨b,0,vn⟩)] w λe w'=>S4 No B w b (va a n ac) (Du (rowB bs n)) e w':=by
 have U:=Af bs n;have cq:=au.few;obtain⟨row,ag⟩:=exq (rowB bs n);obtain⟨V,aw⟩:=exq (Du row);have cg:vz (Bk No B w b (va a n ac) O9 w):=Ab ⟨No,vg,vg,λ_ h=>h,ay,h,.inl ⟨rfl,rfl⟩,Bl.refl _ _ _⟩;have ax:vz (∀wr,Bl No B w wr->Rd wr No a n bs):=Ab (λwr hb=>au.keep hb.below.size hb.kp);have bg:vz (∀(wr:wd) (u:US) (size r:Nat) (v:US),Bk No B w b (va a n ac) u wr->u.p<=8*n->u.e=0->size<=16->uget row size u=(r,v)->vu v8 230 #[vc (vp ⟨b,0,vn⟩),so vh size] wr λe w'=>(v.e=0/\e=vm (so vh r)/\Bk No B w b (va a n ac) v w')\/ (v.e≠0/\e=HR v.e/\Bl No B w w')):=Ab (λwr u size r v hb H F O I=>BT B b size ac u w hb (ax wr hb.bl) H F O r v (by rw[ag];exact I));have bj:vz (∀(wr:wd) (u:US) (k:Nat),Bk No B w b (va a n ac) u wr->u.p<=8*n->u.e=0->u.out.length<=3000->u.ks.length<=48000->k<4->vu v8 231 #[vc (vp ⟨b,0,vn⟩),so vh k] wr λe w'=>S4 No B w b (va a n ac) (Ed row k u) e w'):=Ab (λwr u k hb H F O I bz=>by have:=Z2p hb (ax wr hb.bl) H F O I bz;rw[ag]at this;exact this);rw[ag]at U ⊢;rw[aw];obtain⟨aj,ak⟩:=exq (row.length+1);have ck:vz (Bz row aj O9=V):=Ab (by rw[<-ak];exact aw);have bu:vz (8*n+1<=O9.p+aj):=Ab (by rw[<-ak,U];show _<=0+_;omega);clear h au ay ag aw ak;go_enter func205,ntmps205;go_wp2;go_loopw [2] (λv2 wr=>∃(u:US) (l f:Nat),v2=so vh l/\vz (u.e=0/\u.p<=8*n/\u.out.length<=3000/\u.ks.length<=u.p)/\vz (Bk No B w b (va a n ac) u wr)/\((l=0/\vz (Bz row f u=V)/\vz (8*n+1<=u.p+f))\/ (l≠0/\vz (u=V)))) (λ_ wr=>Z0j n b wr);exact⟨O9,0,aj,rfl,Ab ⟨rfl,VF _,VF _,VF _⟩,cg,.inl ⟨rfl,ck,bu⟩⟩;obtain⟨u,l,f,rfl,bn,av,b8⟩:=hrel;obtain⟨ar,b5,bb,cp⟩:=Aa bn;rcases b8 with ⟨rfl,bf,ba⟩|⟨hl,ao⟩
 . have cj:=Aa ba
   cases f with
   |zero=>exact absurd cj om
   |succ f=>
    have al:=Aa bf;rw[Bz]at al;obtain⟨r1,E,H⟩:∃r1 E,uget row 1 u=(r1,E):=⟨_,_,rfl⟩;obtain⟨r2,v2,F⟩:∃r2 v2,uget row 2 E=(r2,v2):=⟨_,_,rfl⟩;(have az:Bh row u=if E.e≠0 then (1,E)else if v2.e≠0 then (1,v2)else (r1,Ed row r2 v2):=by unfold Bh;rw[H];simp only;rw[F]);(have bv:E.p<=8*n:=by have:=He row 1 u om;rw[H,U]at this;exact this);(have cn:v2.p<=8*n:=by have:=He row 2 E om;rw[F,U]at this;exact this);(have o1:E.out=u.out:=by have:=Cs row 1 u;rw[H]at this;exact this);(have o2:v2.out=u.out:=by have:=Cs row 2 E;rw[F]at this;exact this.trans o1);(have bc:E.ks=u.ks:=by have:=Ix row 1 u;rw[H]at this;exact this);(have a5:v2.ks=u.ks:=by have:=Ix row 2 E;rw[F]at this;exact this.trans bc);(have l2:r2<4:=by have:=T4 row 2 E;rw[F]at this;exact this);have b0:vz ((Bh row u).2.e=0->(Bh row u).2.ks.length=u.ks.length+1/\u.p+3<=(Bh row u).2.p/\(Bh row u).2.p<=row.length/\(Bh row u).2.out.length<=3000):=Ab (Ia n U u ar om bb);have b7:=Ab (bg wr u 1 r1 E av b5 ar od H);have bm:vz (∀W,E.e=0->Bk No B w b (va a n ac) E W->vu v8 230 #[vc (vp ⟨b,0,vn⟩),so vh 2] W λe w'=>(v2.e=0/\e=vm (so vh r2)/\Bk No B w b (va a n ac) v2 w')\/ (v2.e≠0/\e=HR v2.e/\Bl No B w w')):=Ab (λW O I=>Aa bg W E 2 r2 v2 I bv O od F);have b9:vz (∀W,v2.e=0->Bk No B w b (va a n ac) v2 W->vu v8 231 #[vc (vp ⟨b,0,vn⟩),so vh r2] W λe w'=>S4 No B w b (va a n ac) (Ed row r2 v2) e w'):=Ab (λW O I=>Aa bj W v2 r2 I cn O (by rw[o2];exact bb) (by rw[a5];omega) l2);obtain⟨ah,ap,bo⟩:=Bq az al (av.cellP (n:=n));clear al az H F o1 o2 bc a5 bf ba;go_wp2_with fail;refine b7.mono ?_;rintro e bk (⟨Z,rfl,bh⟩|⟨Z,rfl,a6⟩);rotate_left;(. have G:vz (V=E):=Ab (by have:=Aa ap;rw[Aa ah,A1 Z,A0 (λc=>absurd (show (1:Nat)=0 from c.1) od)]at this;exact this.symm);have aa:=Ab a6;clear a6;go_wp2;exact⟨rfl,.inr ⟨by rw[Aa G];exact Z,by rw[Aa G],aa⟩⟩);have bw:=Ab bh;clear bh;go_wp2_with fail;refine(bm bk Z bw).mono ?_;rintro e co (⟨e2,rfl,a8⟩|⟨e2,rfl,bi⟩);rotate_left;(. have G:vz (V=v2):=Ab (by have:=Aa ap;rw[Aa ah,A0 (show ¬E.e≠0 from λc=>c Z),A1 e2,A0 (λc=>absurd (show (1:Nat)=0 from c.1) od)]at this;exact this.symm);have aa:=Ab bi;clear bi;go_wp2;exact⟨rfl,.inr ⟨by rw[Aa G];exact e2,by rw[Aa G],aa⟩⟩);have b4:=Ab a8;have a4:vz (Bh row u=(r1,Ed row r2 v2)):=Ab (by rw[Aa ah,A0 (show ¬E.e≠0 from λc=>c Z),A0 (show ¬v2.e≠0 from λc=>c e2)]);clear a8;go_wp2_with fail;refine(b9 co e2 b4).mono ?_;obtain⟨Y,a9⟩:=exq (Ed row r2 v2);rw[a9]at a4 ⊢;have af:=Aa ap;have ae:=Aa b0;rw[Aa a4]at af ae;simp only at af ae;have bd:=Ab af;have bq:=Ab ae;clear af ae a9;rintro e w3 (⟨e3,rfl,ai⟩|⟨e3,rfl,a7⟩);rotate_left;(. have G:vz (V=Y):=Ab (by have:=Aa bd;rw[A0 (λc=>e3 c.2)]at this;exact this.symm);have aa:=Ab a7;clear a7;go_wp2;exact⟨rfl,.inr ⟨by rw[Aa G];exact e3,by rw[Aa G],aa⟩⟩);obtain⟨y1,y2,a3,cd⟩:=Aa bq e3;rw[U]at a3;have cm:=Ab ai;have ci:=Ab (ai.cellP (n:=n))
    have ce:vz ((r1=0/\vz (Bz row f Y=V)/\vz (8*n+1<=Y.p+f))\/ (r1≠0/\vz (Y=V))):=Ab (by
     have:=Aa bd
     by_cases c:r1=0
     . rw[A1 ⟨c,e3⟩]at this
       exact .inl ⟨c,this,Ab om⟩
     . rw[A0 (λd=>c d.1)]at this
       exact .inr ⟨c,this⟩)
    clear ai;go_wp2;go_roundw;exact⟨Y,r1,f,rfl,Ab ⟨e3,a3,cd,om⟩,cm,ce⟩;rw[Aa ci,Aa bo];omega
 . have hb:((l:Int)==0)=false:=sV;have G:vz (S4 No B w b (va a n ac) V (vm (vd #[])) wr):=Ab (.inl ⟨by rw[<-Aa ao];exact ar,rfl,by rw[<-Aa ao];exact Aa av⟩);clear ao;go_wp2;go_end0;exact G
theorem Cm(row:List Bool)(n:Nat)(u:US)(h:0<=u.e):0<=(uget row n u).2.e:=by unfold uget;split;(. split;exact(by decide:(0:Int)<=7);exact h);exact h
theorem IV(l:List Int)(row:List Bool)(p:Nat):∀f n,0<=(Er l row p f n).2.2
 |0,n=>(by decide:(0:Int)<=8)
 |f+1,n=>by unfold Er;split;exact(by decide:(0:Int)<=7);. split;exact(by decide:(0:Int)<=0);exact IV l row p f (n+1)
theorem Ek(l:List Int)(row:List Bool)(u:US)(h:0<=u.e):0<=(uplace l row u).2.e:=by unfold uplace;split;exact IV l row u.p 15 1;exact h
theorem Gh(x:Int)(u:US)(E:0<=x)(h:0<=u.e):0<=(An x u).e:=by unfold An;split;exact E;exact h
theorem QR(c:Nat)(u:US)(h:0<=u.e):0<=(Fo c u).e:=by unfold Fo;split;(. split;exact wU;exact h);exact h
theorem M2(row:List Bool):∀(k:Nat) (u:US),0<=u.e->0<=(ustore row k u).e
 |0,u,h=>h
 |k+1,u,h=>by unfold ustore;split;exact M2 row k _ (QR _ _ (Cm _ _ _ h));exact h
theorem GQ(d:Nat):∀(k:Nat) (u:US),0<=u.e->0<=(ucopy d k u).e
 |0,u,h=>h
 |k+1,u,h=>by unfold ucopy;split;exact GQ d k _ (QR _ _ h);exact h
theorem NP(row:List Bool)(u:US)(h:0<=u.e):0<=(Cn row u).e:=by(have E:0<=(Cr row u).2.e:=by unfold Cr;dsimp only;split;exact Gh _ _ od (Cm _ _ _ (Cm _ _ _ h));exact Cm _ _ _ (Cm _ _ _ h));unfold Cn;dsimp only;split;exact Gh _ _ od E;exact M2 _ _ _ E
theorem Z12(row:List Bool)(l:List Int)(u:US)(h:0<=u.e):0<=(Nt row l u).2.e:=by unfold Nt;split;exact yS;. split;exact(by decide:(0:Int)<=8);exact Cm _ _ _ (Ek _ _ _ h)
theorem Z5t(d k:Nat)(u:US)(h:0<=u.e):0<=(Kh d k u).e:=by unfold Kh;split;exact(by decide:(0:Int)<=9);. split;exact wU;exact GQ _ _ _ h
theorem JF(row:List Bool)(lb:List Int)(k:Nat)(u:US)(h:0<=u.e):0<=(Cu row lb k u).e:=by unfold Cu;split;(. split;exact wU;exact h);. split;exact(by decide:(0:Int)<=8);. split;exact Cm _ _ _ h;. split;exact Z12 _ _ _ (Cm _ _ _ h);exact Z5t _ _ _ (Z12 _ _ _ (Cm _ _ _ h))
theorem E9(row:List Bool)(E lb:List Int):∀(f:Nat) (u:US),0<=u.e->0<=(Hz row E lb f u).e
 |0,u,h=>by unfold Hz;split;exact yS;exact yS
 |f+1,u,h=>by rw[Hy];split;exact yS;. split;exact yS;. split;exact JF _ _ _ _ (Ek _ _ _ h);exact E9 row E lb f _ (JF _ _ _ _ (Ek _ _ _ h))
theorem M3(row:List Bool):∀(ks:List Nat) (s:List Int) (u:US),0<=u.e->0<=(usmall row ks s u).2.e
 | [],s,u,h=>h
 |k::r,s,u,h=>by rw[usmall];exact M3 row r _ _ (Cm _ _ _ h)
theorem Z3t(row:List Bool)(l:List Int)(k:Nat)(u:US)(h:0<=u.e):0<=(ukind row l k u).2.2.e:=by unfold ukind;split;(. split;exact Gh _ _ od h;exact Cm _ _ _ h);. split;exact Cm _ _ _ h;. split;exact Cm _ _ _ h;exact h
theorem Z3q(tot:Nat)(l:List Int)(r:Int×Nat×US)(h:0<=r.2.2.e):0<=(Wb tot l r).2.e:=by unfold Wb;dsimp only;split;exact Gh _ _ od h;exact h
theorem GO(row:List Bool)(S:List Int)(tot:Nat):∀(F:Nat) (l:List Int) (u:US),0<=u.e->0<=(ulens row S tot F l u).2.e
 |0,l,u,h=>h
 |F+1,l,u,h=>by rw[ulens];split;exact GO row S tot F _ _ (Z3q _ _ _ (Z3t _ _ _ _ (Ek _ _ _ h)));exact h
theorem GJ(row:List Bool)(u:US)(h:0<=u.e):0<=(Dm row u).2.e:=by unfold Dm;dsimp only;have F:=Cm row 4 _ (Cm row 5 _ (Cm row 5 u h));generalize (uget row 5 u).1=m0 at*;generalize (uget row 5 (uget row 5 u).2).1=n0 at*;generalize uget row 4 (uget row 5 (uget row 5 u).2).2=g at*;(have E:0<=(Gx row (m0+257) (n0+1) (g.1+4) g.2).2.e:=by unfold Gx;refine M3 _ _ _ _ ?_;split;exact Gh _ _ od F;exact F);generalize Gx row (m0+257) (n0+1) (g.1+4) g.2=s at*;(have hc:0<=(Sp s).e:=by unfold Sp;split;exact Gh _ _ od E;exact E);unfold Lk;split;exact hc;. have hl:=GO row s.1 (m0+257+(n0+1)) (m0+257+(n0+1)) [] (Sp s) hc;generalize ulens row s.1 (m0+257+(n0+1)) (m0+257+(n0+1)) [] (Sp s)=r at*;unfold Gy;split;exact hl;. split;exact Gh _ _ od hl;exact hl
theorem F6(k:Nat)(u:US)(h:0<=u.e):0<=(Kg k u).e:=by unfold Kg;split;exact h;exact h
theorem Z5q(row:List Bool)(k:Nat)(u:US)(h:0<=u.e):0<=(Ed row k u).e:=by unfold Ed;split;exact F6 _ _ (NP _ _ h);. split;exact F6 _ _ (E9 _ _ _ _ _ h);. split;(. split;exact GJ _ _ h;exact F6 _ _ (E9 _ _ _ _ _ (GJ _ _ h)));exact(by decide:(0:Int)<=4)
theorem Z7(row:List Bool)(u:US)(h:0<=u.e):0<=(Bh row u).2.e:=by unfold Bh;split;exact Cm _ _ _ h;. split;exact Cm _ _ _ (Cm _ _ _ h);exact Z5q _ _ _ (Cm _ _ _ (Cm _ _ _ h))
theorem Yr(row:List Bool):∀(F:Nat) (u:US),0<=u.e->0<=(Bz row F u).e
 |0,u,h=>h
 |F+1,u,h=>by rw[Bz];split;exact Yr row F _ (Z7 row u h);exact Z7 row u h
theorem Z5k(row:List Bool):0<=(Du row).e:=Yr row _ _ od
theorem Zx(a:Option vw)(n F:Nat)(bs:List Nat)(w:wd)(ai:bs.length=n)(U:n<=6000)(I:BytesIn w a bs)(ao:∀j,bs.getD j 0<256):vu v8 166 #[va a n F] w λe w'=>Zdp w bs n e w':=by
 refine(LK a F bs w U (Du (rowB bs n)) ?_ (Z5k _) (λe=> ?_)).mono (λe w' h=>h)
 . intro No B b W ah af aa aw av O
   have ak:Rd w No a n bs:=⟨ai,U,I,ao,λb o ea Z=>aa b (by
    rcases I with ae|⟨ar,ax,G,al,_⟩
    . exact absurd ae Z
    . rw[ea]at G;cases G;exact al)⟩
   have ac:Rd W No a n bs:=ak.keep O.size (λg E _=>O.block g E);refine(PQ ah ac (λg E=>af g om)).mono ?_;rintro e w' (⟨e0,rfl,hK⟩|⟨e0,rfl,hb⟩);obtain⟨No',f1,f2,ag,au,aj,ap,H⟩:=hK;exact .inl ⟨e0,rfl,f1,f2,aj.weak ag,H.below,H.kp⟩;exact .inr ⟨e0,rfl,hb.below,hb.kp⟩
 have:=(Ue (rowB bs n) n (Af bs n) e).2.1;rw[Af]at this;omega
theorem Wa(a:Option vw)(n E:Nat)(w:wd)(H:6000<n)(F:n<=9223372036854775807):vu v8 166 #[va a n E] w λe w'=>e=vm (vd #[va vn 0 0,so vh 0,va vn 0 0,so vh 2])/\w'=w:=by have G:(6000:Int)<n:=om;go_enter func166,ntmps166;go_wp2;refine E1 (v:=vd #[va vn 0 0,so vh 0,va vn 0 0,so vh 2]) ?_ rfl ⟨rfl,rfl⟩;first|rfl|kernel_rfl
theorem Ze7:aJ:=⟨Zx,Wa⟩
end Go.Proofs.YtleocpdblhbimaaGreatDoor
