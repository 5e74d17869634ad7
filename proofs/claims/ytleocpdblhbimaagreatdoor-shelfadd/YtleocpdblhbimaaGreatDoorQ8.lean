import Derived.Test.YtleocpdblhbimaaGreatDoorQ7
import Derived.Shelf.Abstract
set_option linter.unusedVariables false
set_option linter.unusedSimpArgs false
set_option maxRecDepth 100000
set_option maxHeartbeats 8000000
namespace Go.Proofs.YtleocpdblhbimaaGreatDoor
open Go.RowKit Go.Proofs.Tryz
open Go.Value renaming int->so,slice->va,pointer->vc,tuple->vd,bool->ve,agg->vf,nilFunc->vg
open Go.IntKind renaming i64->vh,u8->vi
open Go.Obj renaming cells->vl
open Go.Ending renaming returned->vm
open Option renaming none->vn,some->vp
open Bool renaming false->vq,true->vr
open Go renaming World->wd,Value->vt,Calls->vu,Addr->vw
open Go.RowKit renaming Below->vx,intOf->vy,Hid->vz
open Go.Proofs.Tryz renaming prog->v8
variable{ys:List Nat}
section
variable (l:List Int) (c:Nat->Nat) (m:Nat)
def Hn:List Nat->Nat
 | []=>0
 |x::xs=>x+Hn xs
theorem Z02{xs:List Nat}(h:xs.Perm ys):Hn xs=Hn ys:=by
 induction h with
 |nil=>rfl
 |cons x _ ih=>rw[Hn,Hn,ih]
 |swap x y l=>simp only[Hn];omega
 |trans _ _ h1 h2=>exact h1.trans h2
theorem Z53(P:List Nat)(f g:Nat->Nat):Hn (P.map f)+Hn (P.map g)=Hn (P.map λp=>f p+g p):=by
 induction P with
 |nil=>rfl
 |cons p P ih=>simp only[WN,Hn];omega
theorem MW(P:List Nat)(k:Nat):Hn (P.map λ_=>k)=P.length*k:=by
 induction P with
 |nil=>simp[Hn]
 |cons p P ih=>rw[WN,Hn,ih,VG,ZO];omega
theorem Z52(P:List Nat)(f:Nat->Nat)(k:Nat):Hn (P.map λp=>k*f p)=k*Hn (P.map f):=by
 induction P with
 |nil=>simp[Hn]
 |cons p P ih=>simp only[WN,Hn];rw[ih,Nat.mul_add]
def up(d k:Nat):Nat:=if m-d<=k then 2^(d+1)-2^(m-k)else 0
end
end Go.Proofs.YtleocpdblhbimaaGreatDoor
namespace Go.Proofs.YtleocpdblhbimaaGreatDoor
open Go.RowKit Go.Proofs.Tryz
open Go.Value renaming int->so,slice->va,pointer->vc,tuple->vd,bool->ve,agg->vf,nilFunc->vg
open Go.IntKind renaming i64->vh,u8->vi
open Go.Obj renaming cells->vl
open Go.Ending renaming returned->vm
open Option renaming none->vn,some->vp
open Bool renaming false->vq,true->vr
open Go renaming World->wd,Value->vt,Calls->vu,Addr->vw
open Go.RowKit renaming Below->vx,intOf->vy,Hid->vz
open Go.Proofs.Tryz renaming prog->v8
variable{Z aj l xs:List Int}{is:List It}{P bs:List Nat}{ts:List Tk}{G aa ac ai ak ar b d g i j k m n o p q s:Nat}{No av:Nat->Prop}{a:Option Addr}{v:Value}{O W W' w w':World}
theorem BW{W:List Int}(E:Up W)(I:∀x∈W,0<x)(q t:Nat)(aa:t<=(rowAt W (q+1)).length):Ca (rowAt W q) (2*(t-Ca (rowAt W (q+1)) t))<=Ca (rowAt W (q+1)) t:=by rcases YN (Ca (rowAt W (q+1)) t) (Ca (rowAt W q) (2*(t-Ca (rowAt W (q+1)) t)))with h|h;(. exfalso;have hb:=Nk _ _ aa;rw[Dt,Hl]at hb;have Z:=Hi (rowAt W q) (2*(t-Ca (rowAt W (q+1)) t));rw[Dt]at Z;have H:=Nn W (Dx W q) (2*(t-Ca (rowAt W (q+1)) t));rw[<-Ff]at H;have ah:=Ot (rowAt W q) (2*(t-Ca (rowAt W (q+1)) t));have af:=J9 W (Dx W (q+1)) t (Ca (rowAt W (q+1)) t) (t-Ca (rowAt W (q+1)) t-1) E (by rw[<-Ff];exact VA _) om qAS (by rw[Dx,Fc,WP];omega);generalize Ca (rowAt W (q+1)) t=a at*;generalize aj:t-a=b at*;have F:W.getD a 0∈((rowAt W q).take (2*b)).map Prod.fst:=H.mem_iff.2 (List.mem_append_left _ (Iu h om));(have ae:2*b-1<((rowAt W q).map Prod.fst).length:=by rw[WP];omega);(have O:W.getD a 0<=((rowAt W q).map Prod.fst).getD (2*b-1) 0:=by rw[List.map_take]at F;obtain⟨i,hi,e⟩:=XP F;(have ag:i<2*b:=by simp at hi;omega);(have U:i<((rowAt W q).map Prod.fst).length:=by simp at hi;simp;omega);have G:=Z6r (C4 E q) (i:=i) (j:=2*b-1) om ae;(have e2:((rowAt W q).map Prod.fst).getD i 0=(((rowAt W q).map Prod.fst).take (2*b))[i]:=by simp only[List.getD,VP U,ZG,YV]);rw[e2,e]at G;exact G);have ak:(Dx W (q+1)).getD (b-1) 0=((rowAt W q).map Prod.fst).getD (2*(b-1)) 0+((rowAt W q).map Prod.fst).getD (2*(b-1)+1) 0:=Rg _ _ (by rw[WP];omega);have ai:0<((rowAt W q).map Prod.fst).getD (2*(b-1)) 0:=Nb W I q _ (by have ac:2*(b-1)<((rowAt W q).map Prod.fst).length:=om;simp only[List.getD,VP ac,ZG];exact WO _);rw[show 2*b-1=2*(b-1)+1 by omega]at O;omega);exact h
theorem Xe{W:List Int}(H:Up W)(F:∀x∈W,0<x)(O:1<=W.length)(G:1<=m)(I:W.length<=2^m)(i:Nat)(aa:i+1<m):Bg W m (i+1)<=Bg W m i:=by obtain⟨q,E⟩:∃q,m-1-i=q+1:=⟨m-1-i-1,om⟩;have Z:m-1-(i+1)=q:=om;have U:=Mu m O G I i om;have h:=BW H F q (Dc W m i) (by rw[<-E];exact U);unfold Bg;rw[Sx,Z,E];unfold Bg;rw[E];exact h
theorem Qp{W:List Int}(G:Up W)(E:∀x∈W,0<x)(I:1<=W.length)(F:1<=m)(H:W.length<=2^m):∀(k i:Nat),i+k<m->Bg W m (i+k)<=Bg W m i
 |0,i,_=>VA _
 |k+1,i,h=>WJ (Xe G E I F H (i+k) om) (Qp G E I F H k i om)
theorem D5(h:p∈P.take i)(E:i<=j):p∈P.take j:=by(have:P.take i=(P.take j).take i:=by rw[List.take_take,YX E]);rw[this]at h;exact VU h
theorem JJ{W:List Int}(G:Up W)(E:∀x∈W,0<x)(O:1<=W.length)(F:1<=m)(I:W.length<=2^m)(P:List Nat)(U:i<m)(h:p∈P.take (Bg W m i)):∀j,j<=i->Z9 P W m p j=j
 |0,_=>rfl
 |j+1,hj=>by have H:=Qp G E O F I (i-j) j om;rw[show j+(i-j)=i by omega]at H;rw[Z9,JJ G E O F I P U h j om,A1 (D5 h H)]
def vk(P:List Nat)(W:List Int)(m i:Nat):Nat:=Hn (P.map λp=>2^(m-Z9 P W m p i))
theorem Z01(Z:P.Nodup)(a k:Nat)(H:a<=P.length):Hn (P.map λp=>if p∈P.take a then k else 0)=a*k:=by
 have e:P=P.take a++P.drop a:=(YE a P).symm;have G:∀p∈P.drop a,p ∉ P.take a:=by intro p E h;have F:=Z;rw[e]at F;exact(List.nodup_append.1 F).2.2 p h p E rfl
 have O:∀Q:List Nat,(∀p∈Q,p∈P.take a)->Hn (Q.map λp=>if p∈P.take a then k else 0)=Q.length*k:=by
  intro Q
  induction Q with
  |nil=>intro _;simp[Hn]
  |cons q Q ih=>intro h;rw[WN,Hn,A1 (h q XX),ih (λp E=>h p (WL _ E)),VG,ZO];omega
 have F:∀Q:List Nat,(∀p∈Q,p ∉ P.take a)->Hn (Q.map λp=>if p∈P.take a then k else 0)=0:=by
  intro Q
  induction Q with
  |nil=>intro _;rfl
  |cons q Q ih=>intro h;rw[WN,Hn,A0 (h q XX),ih (λp E=>h p (WL _ E))]
 have U:∀A B:List Nat,Hn (A++B)=Hn A+Hn B:=jE;(have I:Hn (P.map λp=>if p∈P.take a then k else 0)=Hn ((P.take a).map λp=>if p∈P.take a then k else 0)+Hn ((P.drop a).map λp=>if p∈P.take a then k else 0):=by rw[<-U,<-XC,YE]);rw[I,O _ (λp E=>E),F _ G,VL,YX H,XS]
theorem Z7x{W:List Int}(G:Up W)(E:∀x∈W,0<x)(O:1<=W.length)(F:1<=m)(I:W.length<=2^m)(Z:P.Nodup)(H:W.length=P.length)(i:Nat)(U:i<m):vk P W m (i+1)+Bg W m i*2^(m-1-i)=vk P W m i:=by unfold vk;rw[<-Z01 Z (Bg W m i) (2^(m-1-i)) (by rw[<-H];exact Zl W m i),Z53];congr 1;apply YZ;intro p _;rw[Z9];by_cases h:p∈P.take (Bg W m i);rw[A1 h,A1 h,JJ G E O F I P U h i (VA _),show m-i=(m-1-i)+1 by omega,show m-(i+1)=m-1-i by omega,XI];omega;rw[A0 h,A0 h];rfl
def zk(W:List Int)(m:Nat):Nat->Nat
 |0=>0
 |i+1=>zk W m i+Bg W m i*2^(m-1-i)
theorem Zax{W:List Int}(G:Up W)(E:∀x∈W,0<x)(O:1<=W.length)(F:1<=m)(I:W.length<=2^m)(U:P.Nodup)(H:W.length=P.length):∀i,i<=m->vk P W m i+zk W m i=P.length*2^m
 |0,_=>by rw[zk,vk];simp only[Z9,Nat.sub_zero];rw[MW,XS]
 |i+1,hi=>by have ih:=Zax G E O F I U H i om;have Z:=Z7x G E O F I U H i om;rw[zk];omega
theorem QF(W:List Int)(F:1<=m):∀i,i<=m->2*zk W m i+Dc W m i*2^(m-i)=Dc W m 0*2^m
 |0,_=>by simp[zk]
 |i+1,hi=>by have ih:=QF W F i om;have G:=Qo W m i;(have e:2^(m-i)=2*2^(m-1-i):=by rw[show m-i=(m-1-i)+1 by omega,XI,YM]);rw[zk,Sx,show m-(i+1)=m-1-i by omega,<-ih,e];obtain⟨d,E⟩:∃d,Dc W m i=Bg W m i+d:=⟨Dc W m i-Bg W m i,om⟩;rw[E,Nat.add_sub_cancel_left];generalize Bg W m i=a;generalize 2^(m-1-i)=z;generalize zk W m i=y;rw[UF,Nat.mul_add,YG 2 d z,Nat.mul_left_comm a 2 z,Nat.mul_left_comm d 2 z];omega
theorem RP{W:List Int}(F:1<=W.length)(G:1<=m)(H:W.length<=2^m):Dc W m m=0:=by obtain⟨q,rfl⟩:∃q,m=q+1:=⟨m-1,om⟩;have h:=Mu (q+1) F G H q om;rw[show q+1-1-q=0 by omega]at h;have E:=Nk _ _ h;rw[Dt]at E;(have e:(rowAt W 0).length=W.length:=by rw[rowAt,Bn];simp);rw[e]at E;rw[Dc,show q+1-1-q=0 by omega];omega
theorem Zd2{W:List Int}(I:Up W)(H:∀x∈W,0<x)(aa:2<=W.length)(E:1<=m)(G:W.length<=2^m)(Z:P.Nodup)(F:W.length=P.length):vk P W m m=2^m:=by have ae:=Zax I H om E G Z F m (VA _);have U:=QF W E m (VA _);rw[RP om E G,YU,XS,Dc,YG]at U;(have ac:P.length*2^m=(W.length-1)*2^m+2^m:=by rw[<-F];obtain⟨q,O⟩:∃q,W.length=q+1:=⟨W.length-1,om⟩;rw[O,YH,ZO]);omega
theorem NA(G:H0 l m)(E:BN l P)(H:2<=P.length):Hn (P.map λp=>2^(m-((Dd l P m).getD p 0).toNat))=2^m:=by have F:(P.map λp=>l.getD p 0).length=P.length:=oS;have h:=Zd2 E.up E.pos om G.lo (by rw[F,E.length];exact G.room) E.nodup F;rw[<-h];unfold vk;congr 1;apply YZ;intro p _;unfold Dd;rw[A0 om,Mb _ _ _ _ E.nodup E.lt,WQ]
theorem TG{G:Type}{R:G->G->Prop}(H:∀a b,R a b->R b a->False):∀(P Q:List G),P.Perm Q->P.Pairwise R->Q.Pairwise R->P=Q
 | [],Q,h,_,_=>by rw[List.nil_perm]at h;exact h.symm
 |p::P,[],h,_,_=>by have:=h.length_eq;simp at this
 |p::P,q::Q,h,hp,hq=>by rw[XO]at hp hq;(have e:p=q:=by have F:p∈q::Q:=h.mem_iff.1 XX;have E:q∈p::P:=h.mem_iff.2 XX;rcases VV.1 F with F|F;exact F;rcases VV.1 E with E|E;exact E.symm;exact absurd (hq.1 p F) (λh=>H _ _ h (hp.1 q E)));subst e;rw[TG H P Q ((List.perm_cons p).1 h) hp.2 hq.2]
theorem BN.one{Q:List Nat}(h:BN l P)(k:BN l Q):P=Q:=
 TG (R:=λa b=>l.getD a 0<l.getD b 0\/ (l.getD a 0=l.getD b 0/\a<b)) (λa b E F=>om) P Q (h.perm.trans k.perm.symm) h.srt k.srt
theorem SP(F:H0 l m)(E:BN l P)(ac:2<=P.length):takenN (cnt (Dd l P m)) 15=32768:=by
 have af:=F.hi;(have U:∀j,0<=(Dd l P m).getD j 0/\(Dd l P m).getD j 0<=15:=λj=>by have:=D9 F E j;omega);have H:=Ij (Dd l P m) (λj _=>U j) (Dd l P m).length (VA _);rw[ZV,Iv]at H;rw[<-H];have G:=NA F E ac;have aa:∀A B:List Nat,Hn (A++B)=Hn A+Hn B:=jE
 have O:∀k,k<=l.length->Lt (Dd l P m) k=Hn ((wpl l k).map λp=>2^(15-((Dd l P m).getD p 0).toNat)):=by
  intro k
  induction k with
  |zero=>intro _;rfl
  |succ k ih=>intro G;rw[wpl,XC,aa,Lt,ih om];have I:=D9 F E k;by_cases h:0<l.getD k 0;rw[A1 h,A1 (I.2.2.2 ((E.mem k).2 ⟨om,h⟩))];simp[Hn];rw[A0 h,A0 (λZ=>h ((E.mem k).1 (I.2.2.1 Z)).2)];simp[Hn]
 rw[O l.length (VA _),<-Z02 (E.perm.map _)];(have e:(P.map λp=>2^(15-((Dd l P m).getD p 0).toNat))=P.map λp=>2^(15-m)*2^(m-((Dd l P m).getD p 0).toNat):=by apply YZ;intro p ae;have:=D9 F E p;rw[<-Nat.pow_add];congr 1;omega);rw[e,Z52,G,<-Nat.pow_add,show 15-m+m=15 by omega]
theorem Sc(E:Good l)(q:Nat):(codeT l q).length=(l.getD q 0).toNat:=by unfold codeT;rw[Bc]
def Zbr(n:Nat):Bool:=decide (257<=(Dq n).1/\(Dq n).1<=285/\(samesL.getD ((Dq n).1-257) (0,0)).2=(Dq n).2.2/\(samesL.getD ((Dq n).1-257) (0,0)).1+(Dq n).2.1=n/\(Dq n).2.1<2^(Dq n).2.2/\(Dq n).2.2<=5/\(n<=10->(Dq n).2.2=0))
def Zdh(d:Nat):Bool:=decide ((Of d).1<=29/\(farsL.getD (Of d).1 (0,0)).2=(Of d).2.2/\(farsL.getD (Of d).1 (0,0)).1+(Of d).2.1=d/\(Of d).2.1<2^(Of d).2.2/\(Of d).2.2<=10)
theorem Z5c:(List.range 256).all (λn=>Zbr (n+3))=true:=by decide+kernel
theorem Z9y:(List.range 3000).all (λd=>Zdh (d+1))=true:=by decide+kernel
theorem Z9g(E:3<=n)(h:n<=258):257<=(Dq n).1/\(Dq n).1<=285/\(samesL.getD ((Dq n).1-257) (0,0)).2=(Dq n).2.2/\(samesL.getD ((Dq n).1-257) (0,0)).1+(Dq n).2.1=n/\(Dq n).2.1<2^(Dq n).2.2/\(Dq n).2.2<=5/\(n<=10->(Dq n).2.2=0):=by have:=XA.1 Z5c (n-3) oO;rw[show n-3+3=n by omega]at this;exact LN this
theorem Zcf(E:1<=d)(h:d<=3000):(Of d).1<=29/\(farsL.getD (Of d).1 (0,0)).2=(Of d).2.2/\(farsL.getD (Of d).1 (0,0)).1+(Of d).2.1=d/\(Of d).2.1<2^(Of d).2.2/\(Of d).2.2<=10:=by have:=XA.1 Z9y (d-1) oO;rw[show d-1+1=d by omega]at this;exact LN this
def Has(a b:List Int)(is:List It):Prop:=(∀k,It.sym k∈is->k<a.length/\0<a.getD k 0)/\(∀k,It.far k∈is->k<b.length/\0<b.getD k 0)
theorem Has.app{a b:List Int}{x y:List It}(h:Has a b (x++y)):Has a b x/\Has a b y:=
 ⟨⟨λk E=>h.1 k (by simp[E]),λk E=>h.2 k (by simp[E])⟩,⟨λk E=>h.1 k (by simp[E]),λk E=>h.2 k (by simp[E])⟩⟩
theorem SW(a b:List Int)(x y:List It):putIs a b (x++y)=putIs a b x++putIs a b y:=by simp[putIs]
def HasR(own:List Int)(is:List (Nat×Nat×Nat)):Prop:=∀i∈is,i.1<own.length/\0<own.getD i.1 0
theorem Ng(E:Good Z)(i:Nat×Nat×Nat):(PK Z i).length=(codeT Z i.1).length+i.2.2:=by unfold PK;rw[VB,Ai]
theorem Hv(E:List Int)(i:Nat×Nat×Nat)(is:List (Nat×Nat×Nat)):putRs E (i::is)=PK E i++putRs E is:=by simp[putRs]
theorem Tq(E:List Int)(x y:List (Nat×Nat×Nat)):putRs E (x++y)=putRs E x++putRs E y:=by simp[putRs]
theorem F8(x:Int):∀r:List Int,Cv x r<=r.length
 | []=>VA _
 |y::r=>by rw[Cv];have:=F8 x r;split<;>simp<;>omega
theorem Zae(xs:List Int)(p j:Nat):(Vy xs p).getD j 0=xs.getD j 0+(if j=p/\p<xs.length then 1 else 0):=by unfold Vy;by_cases e:j=p;subst e;by_cases h:j<xs.length;simp[List.getD,h];simp[List.getD,h];simp only[List.getD];rw[List.getElem?_set_ne (Ne.symm e),A0 (λh=>e h.1)];omega
theorem Hh:∀(ps:List Nat) (xs:List Int) (j:Nat),j<xs.length->(Da xs ps).getD j 0=xs.getD j 0+(ps.count j:Nat)
 | [],xs,j,h=>by simp[Da]
 |p::ps,xs,j,h=>by show (Da (Vy xs p) ps).getD j 0=_;rw[Hh ps _ j (by rw[Mi];exact h),Zae,List.count_cons];by_cases e:j=p;subst e;simp[h];omega;have e2:¬p=j:=λh=>e h.symm;simp[e,e2]
theorem Js(n j:Nat):(List.replicate n (0:Int)).getD j 0=0:=by by_cases h:j<n<;>simp[List.getD,h]
theorem Qd(n m:Nat)(E:List Nat)(U:n<=288)(H:E.length<=1000000)(F:1<=m)(G:m<=15)(O:n<=2^m):H0 (Da (List.replicate n 0) E) m:=by(have hl:(Da (List.replicate n (0:Int)) E).length=n:=by rw[Cc];simp);refine⟨om,?_,F,G,?_⟩;intro j I;rw[Hh E _ j oO,Js];have:=YQ (a:=j) (l:=E);omega;have:=Sg (Da (List.replicate n 0) E) (Da (List.replicate n (0:Int)) E).length;omega
theorem Z5g{s:List Int}(h:IsLens l m s):lensD l m=s:=by have G:IsLens l m (lensD l m):=Classical.epsilon_spec (p:=λs=>IsLens l m s) ⟨s,h⟩;obtain⟨P,F,e⟩:=h;obtain⟨Q,E,e2⟩:=G;rw[e2,e,F.one E]
theorem Kd{s:List Int}(H:H0 l m)(aa:IsLens l m s):Good s/\s.length=l.length/\(∀p,0<=s.getD p 0/\s.getD p 0<=m)/\∀p,p<l.length->0<l.getD p 0->0<s.getD p 0:=by
 obtain⟨P,F,rfl⟩:=aa;have ac:=Iv l P m;have hl:=H.len;have ag:=H.hi;have E:=D9 H F;refine⟨⟨om,λj af=>by have:=E j;omega,?_⟩,ac,λp=>⟨(E p).1,(E p).2.1⟩,λp I G=>(E p).2.2.2 ((F.mem p).2 ⟨I,G⟩)⟩;by_cases hn:2<=P.length;rw[SP H F hn];exact VA _
 . have G:=Ij (Dd l P m) (λj _=>by have:=E j;omega) (Dd l P m).length (VA _);rw[ZV,Iv]at G;rw[<-G]
   have Z:∀k,k<=l.length->Lt (Dd l P m) k<=(wpl l k).length*16384:=by
    intro k
    induction k with
    |zero=>intro _;exact VA _
    |succ k ih=>intro ae;have:=ih om;rw[wpl,VB,Lt];have U:=E k;by_cases h:0<l.getD k 0;have I:=U.2.2.2 ((F.mem k).2 ⟨om,h⟩);rw[A1 h,A1 I];have:2^(15-((Dd l P m).getD k 0).toNat)<=2^14:=VN od om;exact bI;rw[A0 h,A0 (λO=>h ((F.mem k).1 (U.2.2.1 O)).2)];simp only[WE];omega
   have O:=Z l.length (VA _);rw[<-F.length]at O;omega
theorem Kx(l:List Int)(E:Nat):∀n,Hj l E n<=n
 |0=>VA _
 |n+1=>by rw[Hj];have:=Kx l E n;split<;>omega
theorem A6(l:List Int)(E:Nat):∀n,E<=n->E<=Hj l E n
 |0,h=>h
 |n+1,h=>by rw[Hj];by_cases e:E<n+1/\l.getD n 0=0;rw[A1 e];exact A6 l E n om;rw[A0 e];exact h
theorem Xs(l:List Int)(E:Nat):∀n j,Hj l E n<=j->j<n->l.getD j 0=0
 |0,j,h1,h2=>om
 |n+1,j,h1,h2=>by rw[Hj]at h1;by_cases e:E<n+1/\l.getD n 0=0;rw[A1 e]at h1;by_cases e2:j=n;subst e2;exact e.2;exact Xs l E n j h1 om;rw[A0 e]at h1;omega
theorem Cj(l:List Int)(E:Nat):(trimL l E).length=Hj l E l.length:=by have:=Kx l E l.length;simp[trimL];omega
theorem Qz(l:List Int)(E k:Nat):(trimL l E).getD k 0=l.getD k 0:=by have hl:=Cj l E;by_cases h:k<Hj l E l.length;simp only[trimL,List.getD];rw[XR h];(have G:(trimL l E).getD k 0=0:=by simp only[List.getD];rw[VZ om];rfl);rw[G];by_cases F:k<l.length;exact(Xs l E l.length k om F).symm;simp only[List.getD];rw[VZ om];rfl
theorem Sw{c d:Nat->Nat}(h:∀n,c n<=d n):∀k,takenN c k<=takenN d k
 |0=>VA _
 |k+1=>by rw[takenN,takenN];have E:=Sw h k;have F:=YS (2^(14-k)) (h (k+1));omega
theorem O0(F:Good l)(E:Nat):Good (trimL l E):=by have hl:=Cj l E;have H:=Kx l E l.length;refine⟨by have:=F.len;omega,λj G=>by rw[Qz];exact F.ok j om,?_⟩;refine WJ (Sw (λn=> ?_) 15) F.room;unfold cnt trimL;exact(List.take_sublist _ _).count_le _
def VT(t:Tk):Prop:=t.1<256/\(t.2.1=0\/ (3<=t.2.1/\t.2.1<=258/\1<=t.2.2/\t.2.2<=3000))
theorem Zfi:∀(ts:List Tk) (n:Nat),H4 ts n=0->∀t∈ts,∃k,k<=3000/\Wj t k=0
 | [],n,h,t,E=>by cases E
 |t0::ts,n,h,t,E=>by(have F:Wj t0 n=0:=by rw[H4]at h;by_cases e:Wj t0 n=0;exact e;rw[A0 e]at h;exact absurd h e);rw[H4,A1 F]at h;have G:=Zg6 h;rcases VV.1 E with rfl|E;exact⟨n,om,F⟩;exact Zfi ts _ h t E
theorem Zfq(bs:List Nat):∀m k,∀t∈Is bs m k,∃j,t=HN bs j
 |0,k,t,E=>by cases E
 |m+1,k,t,E=>by rw[Is]at E;by_cases h:k<bs.length;rw[A1 h]at E;rcases VV.1 E with rfl|E;exact⟨k,rfl⟩;exact Zfq bs m _ t E;. rw[A0 h]at E;cases E
theorem Zgb(bs:List Nat)(h:bs.length<=3000):H4 (Ie bs) 0=0:=Zf4 h bs.length 0 (VF _)
theorem Zgs(I:∀j,bs.getD j 0<256)(h:bs.length<=3000):∀t∈Ie bs,VT t:=by intro t E;obtain⟨j,rfl⟩:=Zfq bs _ _ t E;obtain⟨k,U,G⟩:=Zfi _ _ (Zgb bs h) _ E;refine⟨Zgu I j,?_⟩;(rcases B8 G with ⟨F,_⟩|⟨_,e2,e3,H,O⟩);exact .inl F;exact .inr ⟨e2,e3,H,om⟩
def VI:It->Prop
 | .sym k=>k<286
 | .far k=>k<30
 | .rest n s=>n<2^s/\s<=10
theorem Z9m{t:Tk}(h:VT t):∀i∈NM t,VI i:=by obtain⟨ae,G⟩:=h;intro i hi;unfold NM at hi;rcases G with e|⟨O,e2,e3,aa⟩;rw[A1 e]at hi;simp only[VV,WS,or_false]at hi;subst hi;show t.1<286;omega;rw[A0 om]at hi;obtain⟨m1,m2,Z,ac,H,I,_⟩:=Z9g (n:=t.2.1.toNat) om om;obtain⟨f1,f2,U,E,F⟩:=Zcf (d:=t.2.2.toNat) om om;simp only[VV,WS,or_false]at hi;rcases hi with rfl|rfl|rfl|rfl;show _<286;omega;exact⟨H,om⟩;show _<30;omega;exact⟨E,F⟩
theorem Ld(h:∀t∈ts,VT t):∀i∈itsOf ts,VI i:=by intro i hi;unfold itsOf Wv at hi;rcases WG.1 hi with hi|hi;obtain⟨t,E,hi⟩:=List.mem_flatMap.1 hi;exact Z9m (h t E) i hi;simp only[VV,WS,or_false]at hi;subst hi;show 256<286;decide
theorem Z5l(t:Tk):(NM t).length<=4:=by unfold NM;split<;>simp
theorem Gn:∀ts:List Tk,(itsOf ts).length<=4*ts.length+1
 | []=>by simp[itsOf,Wv]
 |t::ts=>by(have e:itsOf (t::ts)=NM t++itsOf ts:=by simp[itsOf,Wv]);have:=Gn ts;have:=Z5l t;rw[e,VB,VG];omega
theorem Z59:k∈W9 is↔It.sym k∈is:=by
 unfold W9;rw[List.mem_filterMap];constructor
 . rintro ⟨i,F,E⟩
   cases i with
   |sym q=>simp at E;subst E;exact F
   |far q=>simp at E
   |rest a b=>simp at E
 intro h;exact⟨_,h,rfl⟩
theorem Z5a:k∈W8 is↔It.far k∈is:=by
 unfold W8;rw[List.mem_filterMap];constructor
 . rintro ⟨i,F,E⟩
   cases i with
   |far q=>simp at E;subst E;exact F
   |sym q=>simp at E
   |rest a b=>simp at E
 intro h;exact⟨_,h,rfl⟩
structure Dyn(ts:List Tk)(a b:List Int):Prop where
 ga:Good a
 gb:Good b
 la:257<=a.length
 la2:a.length<=286
 lb:1<=b.length
 lb2:b.length<=30
 has:Has a b (itsOf ts)
 end':0<a.getD 256 0
theorem Un(h:0<l.getD k 0):k<l.length:=by rcases YN k l.length with e|e;exact e;simp only[List.getD]at h;rw[VZ e]at h;simp at h
theorem P9(E:ts.length<=3000):H0 (symC (itsOf ts)) 15:=by refine Qd 286 15 _ od ?_ od od od;have F:=Gn ts;unfold W9;exact WJ (ZN _ _) om
theorem AR(E:ts.length<=3000):H0 (farC (itsOf ts)) 15:=by refine Qd 30 15 _ od ?_ od od od;have F:=Gn ts;unfold W8;exact WJ (ZN _ _) om
theorem Mw(is:List It):(symC is).length=286:=by unfold symC;rw[Cc];simp
theorem Og(is:List It):(farC is).length=30:=by unfold farC;rw[Cc];simp
theorem Z43(ba:k<286)(h:It.sym k∈is):0<(symC is).getD k 0:=by unfold symC;rw[Hh _ _ k qAK,Js];have:=List.count_pos_iff.2 (Z59.2 h);omega
theorem Z62(ba:k<30)(h:It.far k∈is):0<(farC is).getD k 0:=by unfold farC;rw[Hh _ _ k qAK,Js];have:=List.count_pos_iff.2 (Z5a.2 h);omega
theorem Zcg{s f:List Int}(ae:∀t∈ts,VT t)(H:ts.length<=3000)(ag:IsLens (symC (itsOf ts)) 15 s)(aa:IsLens (farC (itsOf ts)) 15 f):Dyn ts (trimL s 257) (trimL f 1):=by obtain⟨g1,l1,ai,p1⟩:=Kd (P9 H) ag;obtain⟨g2,l2,v2,I⟩:=Kd (AR H) aa;rw[Mw]at l1 p1;rw[Og]at l2 I;have hi:=Ld ae;(have U:∀k,It.sym k∈itsOf ts->k<(trimL s 257).length/\0<(trimL s 257).getD k 0:=by intro k E;have G:k<286:=hi _ E;(have F:0<(trimL s 257).getD k 0:=by rw[Qz];exact p1 k G (Z43 G E));exact⟨Un F,F⟩);(have af:∀k,It.far k∈itsOf ts->k<(trimL f 1).length/\0<(trimL f 1).getD k 0:=by intro k E;have O:k<30:=hi _ E;(have F:0<(trimL f 1).getD k 0:=by rw[Qz];exact I k O (Z62 O E));exact⟨Un F,F⟩);have ac:=A6 s 257 s.length om;have ah:=Kx s 257 s.length;have Z:=A6 f 1 f.length om;have aj:=Kx f 1 f.length;refine⟨O0 g1 257,O0 g2 1,?_,?_,?_,?_,⟨U,af⟩,(U 256 (by simp[itsOf])).2⟩;rw[Cj];exact ac;rw[Cj];omega;rw[Cj];exact Z;rw[Cj];omega
theorem C2{x:Nat}(E:x<=15):∀f m,∀i∈Hu x f m,i.1<19
 |0,m,i,h=>by cases h
 |f+1,m,i,h=>by rw[Hu]at h;have ih:=C2 E f;split at h;(. cases h);. split at h;rcases VV.1 h with rfl|h;simp only;omega;exact ih _ i h;. split at h;rcases VV.1 h with rfl|h;show 16<19;decide;exact ih _ i h;. split at h;rcases VV.1 h with rfl|h;show 17<19;decide;exact ih _ i h;rcases VV.1 h with rfl|h;show 18<19;decide;exact ih _ i h
theorem Z4f(x m:Nat)(E:x<=15):∀i∈Th x m,i.1<19:=by intro i h;unfold Th at h;split at h;rcases VV.1 h with rfl|h;simp only;omega;exact C2 E _ _ i h;exact C2 E _ _ i h
theorem E5:∀(f:Nat) (l:List Int),(∀x∈l,0<=x/\x<=15)->∀i∈E6 f l,i.1<19
 |0,l,h,i,hi=>by cases hi
 |f+1,[],h,i,hi=>by cases hi
 |f+1,x::r,h,i,hi=>by have e:=dO;rw[e]at hi;rcases WG.1 hi with hi|hi;exact Z4f _ _ (oI (h x oS)) i hi;exact E5 f _ (λy E=>h y (by simp[WM E])) i hi
theorem Tg{own:List Int}(fh:Good own)(l4:∀k,own.getD k 0<=7)(x:Nat):∀f m,(putRs own (Hu x f m)).length<=7*m/\(Hu x f m).length<=m
 |0,m=>by rw[Hu];exact⟨VF _,VF _⟩
 |f+1,m=>by have hc:=pC;have ih:=Tg fh l4 x f;rw[Hu];split;exact⟨VF _,VF _⟩;. split;have:=ih (m-1);have:=hc x;rw[Hv,VB,Ng fh,VG];simp only;omega;. split;have:=ih (m-min m 6);have:=hc 16;rw[Hv,VB,Ng fh,VG];simp only;omega;. split;have:=ih 0;have:=hc 17;rw[Hv,VB,Ng fh,VG];simp only;omega;have:=ih (m-min m 138);have:=hc 18;rw[Hv,VB,Ng fh,VG];simp only;omega
theorem SJ{own:List Int}(fh:Good own)(l4:∀k,own.getD k 0<=7)(x m:Nat)(E:1<=m):(putRs own (Th x m)).length<=7*m/\(Th x m).length<=m:=by have hc:=pC;unfold Th;split;have:=Tg fh l4 x m (m-1);have:=hc x;rw[Hv,VB,Ng fh,VG];simp only;omega;exact Tg fh l4 x m m
theorem Nq(F:Good Z)(E:∀k,Z.getD k 0<=7):∀(f:Nat) (l:List Int),(putRs Z (E6 f l)).length<=7*l.length/\(E6 f l).length<=l.length
 |0,l=>by rw[E6];exact⟨VF _,VF _⟩
 |f+1,[]=>⟨VF _,VF _⟩
 |f+1,x::r=>by have e:=dO;have H:=SJ F E x.toNat (Cv x r+1) om;have G:=Nq F E f (r.drop (Cv x r));have I:=F8 x r;rw[VR]at G;rw[e,Tq,VB,VB,VG];omega
theorem Z1b:Good (List.replicate 19 0):=by refine Cl ?_;decide+kernel
theorem Y7(E:List Int):(lenIs E).length<=E.length:=(Nq Z1b (λk=>by rw[Js];decide) _ E).2
structure Own(all own:List Int):Prop where
 go:Good own
 lo:own.length=19
 vo:∀k,0<=own.getD k 0/\own.getD k 0<=7
 has:HasR own (lenIs all)
theorem S7(E:Z.length<=1000):H0 (S8 (lenIs Z)) 7:=by refine Qd 19 7 _ od ?_ od od od;have:=Y7 Z;simp;omega
theorem Re(is:List (Nat×Nat×Nat)):(S8 is).length=19:=by unfold S8;rw[Cc];simp
theorem Zbk(F:Z.length<=1000)(I:∀x∈Z,0<=x/\x<=15)(H:IsLens (S8 (lenIs Z)) 7 aj):Own Z aj:=by obtain⟨g1,l1,G,p1⟩:=Kd (S7 F) H;rw[Re]at l1 p1;refine⟨g1,l1,λk=> ?_,?_⟩;have:=G k;simpa using this;intro i hi;have E:=E5 _ Z I i hi;refine⟨om,p1 i.1 E ?_⟩;unfold S8;rw[Hh _ _ i.1 (by simpa using E),Js];have:=List.count_pos_iff.2 (WU.2 ⟨i,hi,rfl⟩:i.1∈(lenIs Z).map Prod.fst);omega
theorem JO(E:Good l):∀x∈l,0<=x/\x<=15:=by intro x hm;obtain⟨j,hj,rfl⟩:=XP hm;have:=E.ok j hj;exact bJ
def tcs(t:Tk):List Value:= [so vi (t.1:Int),so vh t.2.1,so vh t.2.2]
def HZ(l:List Tk):List Value:=l.flatMap tcs
def M6(w:wd)(b o:Nat)(l:List Tk):Prop:=∀j,j<l.length->w.cell? ⟨b,o+j*3,vn⟩=vp (so vi ((l.getD j (0,0,0)).1:Int))/\w.cell? ⟨b,o+j*3+1,vn⟩=vp (so vh (l.getD j (0,0,0)).2.1)/\w.cell? ⟨b,o+j*3+2,vn⟩=vp (so vh (l.getD j (0,0,0)).2.2)
def TokIn(w:wd)(a:Option vw)(l:List Tk):Prop:=l= []\/∃b o,a=vp ⟨b,o,vn⟩/\b<w.heap.size/\M6 w b o l
theorem Xq(l:List Tk):(HZ l).length=l.length*3:=by
 induction l with
 |nil=>rfl
 |cons t r ih=>have:HZ (t::r)=tcs t++HZ r:=rfl;rw[this,VB,ih,VG];show 3+r.length*3=_;omega
theorem LM(l r:List Tk):HZ (l++r)=HZ l++HZ r:=by simp[HZ]
theorem Zb1(l:List Tk)(j:Nat)(hj:j<l.length):(HZ l)[j*3]? =vp (so vi ((l.getD j (0,0,0)).1:Int))/\(HZ l)[j*3+1]? =vp (so vh (l.getD j (0,0,0)).2.1)/\(HZ l)[j*3+2]? =vp (so vh (l.getD j (0,0,0)).2.2):=by
 induction l generalizing j with
 |nil=>simp at hj
 |cons t r ih=>
  have e:HZ (t::r)=tcs t++HZ r:=rfl
  match j with
  |0=>rw[e];exact⟨rfl,rfl,rfl⟩
  |j+1=>have E:j<r.length:=tH;obtain⟨G,F,H⟩:=ih j E;have hl:(tcs t).length=3:=rfl;refine⟨?_,?_,?_⟩;rw[e,VX uL,hl,show (j+1)*3-3=j*3 by omega,G];rfl;rw[e,VX uL,hl,show (j+1)*3+1-3=j*3+1 by omega,F];rfl;rw[e,VX uL,hl,show (j+1)*3+2-3=j*3+2 by omega,H];rfl
theorem TokIn.own{B:Nat}{l:List Tk}(h:w.ownsRow B 244 3 (va (vp ⟨g,0,vn⟩) n ac) n (HZ l)):TokIn w (vp ⟨g,0,vn⟩) l:=by refine .inr ⟨g,0,rfl,(h.lt g rfl).2,?_⟩;intro j E;have hn:=sH;obtain⟨G,F,H⟩:=Zb1 l j E;refine⟨?_,?_,?_⟩;rw[VY,h.cellAt _ om];simp[List.getD,G];rw[VY,h.cellAt _ om];simp[List.getD,F];rw[VY,h.cellAt _ om];simp[List.getD,H]
theorem M6.below{B:Nat}{l:List Tk}(h:M6 w b o l)(E:vx B w w')(F:b<B):M6 w' b o l:=by intro j G;obtain⟨I,H,O⟩:=h j G;exact⟨(E.cell (p:=⟨b,_,vn⟩) F).trans I,(E.cell (p:=⟨b,_,vn⟩) F).trans H,(E.cell (p:=⟨b,_,vn⟩) F).trans O⟩
theorem TokIn.below{B:Nat}{l:List Tk}(h:TokIn w a l)(I:vx B w w')(E:w.heap.size<=B):TokIn w' a l:=by exact xT
theorem TokIn.alloc{l:List Tk}(h:TokIn w a l)(x:Obj):TokIn (w.alloc x) a l:=
 h.below ((A2 w.heap.size w).alloc (VA _) x) (VA _)
theorem Z5n:(Tryz.prog.info? 244).map (λi=>(i.zero,i.size,i.bytes))=vp (vp (vf #[so vi 0,so vh 0,so vh 0]),3,24):=oR
theorem Zfb(b:Nat)(s f:Int)(w:wd)(m:Nat)(F:max s 1=(m:Int)):vu v8 179 #[vf #[so vi b,so vh s,so vh f]] w λe w'=>e=vm (so vh m)/\w.grownBy w' none:=by(have G:(if 1<s then s else 1)=(m:Int):=by split<;>omega);(have E:(if s<1 then 1 else s)=(m:Int):=by split<;>omega);go_enter func179,ntmps179;go_wp2;go_ret;exact⟨rfl,K1 w _ vn⟩
theorem EB(a:Option vw)(n E:Nat)(w:wd):vu v8 177 #[va a n E] w λe w'=>e=vm (vc (vp ⟨w.heap.size+1,0,vn⟩))/\w'=(w.alloc (.map #[] 0)).alloc (vl #[va a n E,.map (vp w.heap.size),so vh 0] 292):=by have F:=gI;go_enter func177,ntmps177;go_wp2;go_ret;exact⟨rfl,rfl⟩
theorem TokIn.ofOwn{B:Nat}{l:List Tk}(h:w.ownsRow B 244 3 v n (HZ l)):l.length=n/\∃a c,v=va a n c/\TokIn w a l:=by have hn:=sH;refine⟨hn,?_⟩;(rcases h.2 with ⟨E,F⟩|⟨g,cap,cur,E,_⟩);subst F;exact⟨vn,0,E,.inl (WK hn)⟩;subst E;exact⟨_,_,rfl,TokIn.own h⟩
theorem RJ(W:wd)(x y z:vt)(t:TypeId):∀j u,[x,y,z][j]? =vp u->(W.alloc (vl #[x,y,z] t)).cell? ((⟨W.heap.size,0,vn⟩:vw).add j)=vp u:=by
 intro j u E;have e:=mJ;rw[e,N0 _ _ _ _ rfl]
 match j,E with
 |0,E=>simpa using E
 |1,E=>simpa using E
 |2,E=>simpa using E
theorem Gk(x f:Nat):Hu x f 0= []:=by cases f<;>simp[Hu]
theorem S6(x:Nat):∀m f,m<=f->Hu x f m=Hu x m m:=by
 intro m
 induction m using Nat.strongRecOn with
 |ind m ih=>intro f H;by_cases G:m=0;subst G;rw[Gk,Gk];obtain⟨F,rfl⟩:∃F,f=F+1:=⟨f-1,om⟩;obtain⟨E,rfl⟩:∃E,m=E+1:=⟨m-1,om⟩;(have t:∀c,0<c->Hu x F (E+1-c)=Hu x E (E+1-c):=λc hc=>by rw[ih (E+1-c) om F om,ih (E+1-c) om E om]);rw[Hu,Hu,A0 G,A0 G,t 1 om,t (min (E+1) 6) om,t (min (E+1) 138) om,Gk,Gk]
theorem SI(x:Nat)(E:0<q):Hu x q q=if q<3 then (x,0,0)::Hu x (q-1) (q-1)else if 0<x then (16,min q 6-3,2)::Hu x (q-min q 6) (q-min q 6)else if q<11 then (17,q-3,3)::Hu x (q-q) (q-q)else (18,min q 138-11,7)::Hu x (q-min q 138) (q-min q 138):=by obtain⟨q',rfl⟩:∃q',q=q'+1:=⟨q-1,om⟩;have t:∀c,0<c->Hu x q' (q'+1-c)=Hu x (q'+1-c) (q'+1-c):=λc hc=>S6 x _ _ om;rw[Hu,A0 om,t 1 om,t (min (q'+1) 6) om,t (min (q'+1) 138) om,XT,Gk,Gk]
structure UL(J:List (Nat×Nat×Nat)->wd->Prop)(Ki:wd->wd->Prop)(kf:Nat)(cf:Array vt)(all:List (Nat×Nat×Nat)):Prop where
 ef:∀(args:Array vt) (w:wd),(callFunc kf args).run v8 w=.ok (.enter kf args) w
 step:∀ {is R:List (Nat×Nat×Nat)} {i:Nat×Nat×Nat} {W:wd},is++i::R=all->J is W->vu v8 kf (#[so vh (i.1:Int),so vh (i.2.1:Int),so vh (i.2.2:Int)]++cf) W λe W'=>e=vm (vd #[])/\J (is++ [i]) W'/\Ki W W'
 refl:∀W,Ki W W
 jd:∀ {is:List (Nat×Nat×Nat)} {W:wd} (q:Nat),J is W->J is (W.drewN q)
 kd:∀(W:wd) (q:Nat),Ki W (W.drewN q)
 trans:∀ {a b c},Ki a b->Ki b c->Ki a c
theorem Tt{J:List (Nat×Nat×Nat)->wd->Prop}(H:wd->wd->Prop){af:Array vt}{aw:List (Nat×Nat×Nat)}(hK:UL J H ac af aw){x:Nat}(E R:List (Nat×Nat×Nat))(w:wd)(bh:x<=15)(bi:1<=m)(ba:m<=1000)(ah:E++Th x m++R=aw)(ap:J E w):vu v8 263 #[so vh x,so vh m,.func (.func ac) #[] af] w λe w'=>e=vm (vd #[])/\J (E++Th x m) w'/\H w w':=by have ef:=hK.ef;have bc:=Ab hK;have ak:=Ab ap;clear hK ap;obtain⟨T,Z⟩:=exq (E++Th x m);rw[Z]at ah;have ax:=Ab ah;have aj:=Ab Z;clear ah;rw[Z];clear Z;go_enter func263,ntmps263;go_upto_if 8 with (fail);go_cut [1] (λv wc=>∃(q:Nat) (F:List (Nat×Nat×Nat)),v=so vh q/\q<=1000/\vz (J F wc/\H w wc/\F++Hu x q q=T));(. by_cases U:0<x;(. have ao:(0:Int)<x:=om;(have hr:Th x m=(x,0,0)::Hu x (m-1) (m-1):=by unfold Th;rw[A1 U,S6 x _ _ om]);have bd:=Ab (bc.step (is:=E) (i:=(x,0,0)) (R:=Hu x (m-1) (m-1)++R) (W:=w) (by rw[<-Aa ax,<-Aa aj,hr];simp) (Aa ak));have ai:vz (E++ [(x,0,0)]++Hu x (m-1) (m-1)=T):=Ab (by rw[<-Aa aj,hr];simp);go_wp2_with fail;refine bd.mono ?_;rintro e au ⟨rfl,g9,hf⟩;have b4:=Ab (And.intro g9 hf);clear g9 hf;go_wp2;(all_goals go_meet);all_goals exact⟨m-1,E++ [(x,0,0)],by go_num,om,Ab ⟨b4.1,b4.2,ai⟩⟩);. have ao:¬(0:Int)<x:=om;(have hr:Th x m=Hu x m m:=by unfold Th;rw[A0 U]);have ai:vz (E++Hu x m m=T):=Ab (by rw[<-Aa aj,hr]);go_wp2;(all_goals go_meet);all_goals exact⟨m,E,rfl,ba,Ab ⟨ak,bc.refl _,ai⟩⟩);obtain⟨az,ay,rfl,a9,bb⟩:=hcut;go_wp2_with fail;go_loopw [1] (λv wr=>∃(q:Nat) (F:List (Nat×Nat×Nat)),v=so vh q/\q<=1000/\vz (J F wr/\H w wr/\F++Hu x q q=T)) (λv _=>(vy v).toNat);exact⟨az,ay,rfl,a9,bb⟩;obtain⟨q,F,rfl,bg,ae⟩:=hrel;obtain⟨O,aa,I⟩:=Aa ae;by_cases U:0<q;(. have ao:(0:Int)<q:=om;have a8:=SI x U;(have f8:∀(i:Nat×Nat×Nat) (c:Nat),Hu x q q=i::Hu x (q-c) (q-c)->vz (vu v8 ac (#[so vh (i.1:Int),so vh (i.2.1:Int),so vh (i.2.2:Int)]++af) wr λe W'=>e=vm (vd #[])/\J (F++ [i]) W'/\H wr W')/\vz (F++ [i]++Hu x (q-c) (q-c)=T):=by intro i c hc;refine⟨Ab (bc.step (is:=F) (i:=i) (R:=Hu x (q-c) (q-c)++R) (by rw[<-Aa ax,<-I,hc];simp) O),Ab (by rw[<-I,hc];simp)⟩);have mz:=Ab aa;clear ae O aa I;by_cases ar:q<3;(. rw[A1 ar]at a8;obtain⟨a3,a4⟩:=f8 _ _ a8;have a5:(q:Int)<3:=om;clear f8 a8;go_wp2_with fail;refine a3.mono ?_;rintro e au ⟨rfl,g9,hf⟩;have b4:=dY;clear g9 hf;go_wp2;go_roundw;exact⟨q-1,_,by go_num,om,Ab ⟨b4.1,b4.2,a4⟩⟩;simp[vy];omega);. rw[A0 ar]at a8;have a5:¬(q:Int)<3:=om;by_cases av:0<x;(. rw[A1 av]at a8;have a7:(0:Int)<x:=om;rcases UD q 6 with G|G|G;(. rw[show min q 6=q by omega]at a8;have ag:(q:Int)<6:=om;obtain⟨a3,a4⟩:=f8 _ _ a8;rw[show ((q-3:Nat):Int)=(q:Int)-3 by omega]at a3;clear f8 a8;go_wp2_with fail;(try rw[show min (q:Int) 6=(q:Int) by omega]);exact qS);subst G;exact xJ;. rw[show min q 6=6 by omega]at a8;have ag:(6:Int)<q:=om;obtain⟨a3,a4⟩:=f8 _ _ a8;clear f8 a8;go_wp2_with fail;(try rw[show min (q:Int) 6=6 by omega]);refine a3.mono ?_;rintro e au ⟨rfl,g9,hf⟩;have b4:=dY;clear g9 hf;go_wp2;go_roundw;exact⟨q-6,_,by go_num,om,Ab ⟨b4.1,b4.2,a4⟩⟩;simp[vy];omega);. rw[A0 av]at a8;have a7:¬(0:Int)<x:=om;by_cases al:q<11;(. rw[A1 al]at a8;have bf:(q:Int)<11:=om;obtain⟨a3,a4⟩:=f8 _ _ a8;rw[show ((q-3:Nat):Int)=(q:Int)-3 by omega]at a3;clear f8 a8;go_wp2_with fail;exact qS);. rw[A0 al]at a8;have bf:¬(q:Int)<11:=om;rcases UD q 138 with G|G|G;(. rw[show min q 138=q by omega]at a8;have ag:(q:Int)<138:=om;obtain⟨a3,a4⟩:=f8 _ _ a8;rw[show ((q-11:Nat):Int)=(q:Int)-11 by omega]at a3;clear f8 a8;go_wp2_with fail;(try rw[show min (q:Int) 138=(q:Int) by omega]);exact qS);subst G;exact xJ;. rw[show min q 138=138 by omega]at a8;have ag:(138:Int)<q:=om;obtain⟨a3,a4⟩:=f8 _ _ a8;clear f8 a8;go_wp2_with fail;(try rw[show min (q:Int) 138=138 by omega]);refine a3.mono ?_;rintro e au ⟨rfl,g9,hf⟩;have b4:=dY;clear g9 hf;go_wp2;go_roundw;exact⟨q-138,_,by go_num,om,Ab ⟨b4.1,b4.2,a4⟩⟩;simp[vy];omega);. obtain rfl:q=0:=om;rw[Gk,XB]at I;have a6:vz (J T wr/\H w wr):=Ab ⟨by rw[<-I];exact O,aa⟩;clear ae O aa I;go_wp2;go_end0;exact⟨rfl,a6⟩
theorem Oh:Me.length=257:=od
theorem Ut:Uu.length=1:=rfl
theorem OL:Good Me:=Cl (by decide+kernel)
theorem OK:Good Uu:=Cl (by decide+kernel)
theorem G2:(List.range 257).all (λk=>decide (0<Me.getD k 0))=true:=by decide+kernel
theorem AV(h:k<257):0<Me.getD k 0:=by have:=XA.1 G2 k uJ;exact LN this
theorem Qm(bs:List Nat):(Gs bs).length=bs.length:=by simp[Gs]
theorem JU(G:∀j,bs.getD j 0<256):∀t∈Gs bs,VT t:=by intro t E;unfold Gs at E;obtain⟨b,F,rfl⟩:=WU.1 E;obtain⟨j,hj,rfl⟩:=XP F;refine⟨?_,.inl rfl⟩;have:=G j;exact bJ
theorem AU(bs:List Nat):itsOf (Gs bs)=bs.map (λb=>It.sym b)++ [.sym 256]:=by
 unfold itsOf Wv Gs;congr 1
 induction bs with
 |nil=>rfl
 |cons b bs ih=>rw[WN,WN,List.flatMap_cons,ih];rfl
theorem JT(I:∀j,bs.getD j 0<256):Dyn (Gs bs) Me Uu:=by refine⟨OL,OK,by rw[Oh];decide,by rw[Oh];decide,by rw[Ut];decide,by rw[Ut];decide,⟨λk E=> ?_,λk E=> ?_⟩,AV od⟩;rw[AU]at E;(have h:k<257:=by rcases WG.1 E with h|h;(. obtain⟨b,G,F⟩:=WU.1 h;cases F;obtain⟨j,H,rfl⟩:=XP G;have:=I j;simp[List.getD,H]at this;omega);simp at h;omega);exact⟨by rw[Oh];exact h,AV h⟩;. rw[AU]at E;rcases WG.1 E with h|h;(. obtain⟨b,G,F⟩:=WU.1 h;cases F);simp at h
theorem DW(E:List Int):∀n,DX E n<=n
 |0=>VA _
 |n+1=>by rw[DX];have:=DW E n;split<;>omega
theorem TR(E:List Int):∀n,4<=n->4<=DX E n
 |0,h=>h
 |n+1,h=>by rw[DX];by_cases e:4<n+1/\E.getD (ord19.getD n 0) 0=0;rw[A1 e];exact TR E n om;rw[A0 e];exact h
theorem Rj(E:List Int):∀ks:List Nat,(ks.flatMap (λk=>Al (E.getD k 0).toNat 3)).length=3*ks.length
 | []=>rfl
 |k::ks=>by rw[List.flatMap_cons,VB,Ai,Rj E ks,VG];omega
theorem AC{a b:List Int}(h:Own (a++b) Z):(Ww a b Z).length<=71+7*(a.length+b.length):=by have E:=Nq h.go (λk=>(h.vo k).2) (a++b).length (a++b);have G:=DW Z 19;unfold Ww;rw[VB,VB,VB,VB,Ai,Ai,Ai,Rj];have F:(putRs Z (lenIs (a++b))).length<=7*(a++b).length:=E.1;rw[VB]at F;have H:(ord19.take (DX Z 19)).length<=19:=tY;omega
theorem Z0i:∀(f:Nat) (l:List Int),l.length<=f->E6 f l=lenIs l:=by
 intro f
 induction f using Nat.strongRecOn with
 |ind f ih=>
  intro l hl
  cases l with
  |nil=>cases f<;>rfl
  |cons x r=>obtain⟨E,rfl⟩:∃E,f=E+1:=⟨f-1,by simp at hl;omega⟩;have H:=F8 x r;(have I:r.length<=E:=by simp at hl;omega);have F:(r.drop (Cv x r)).length<=E:=tP;have G:E6 (E+1) (x::r)=Th x.toNat (Cv x r+1)++E6 E (r.drop (Cv x r)):=rfl;have e2:=nQ;rw[G,e2,ih E om _ F];by_cases e:r.length=E;rw[e,ih E om _ F];rw[ih r.length om _ uQ]
theorem Yl(x:Int)(r:List Int):lenIs (x::r)=Th x.toNat (Cv x r+1)++lenIs (r.drop (Cv x r)):=by have e2:=nQ;rw[e2,Z0i _ _ uQ]
theorem G9{r:List Int}(E:k<r.length):r.drop k=r.getD k 0::r.drop (k+1):=by rw[WX E];simp[List.getD,E]
theorem NY{x:Int}:∀(r:List Int) (k:Nat),k<r.length->r.getD k 0=x->Cv x r=k+Cv x (r.drop k)->Cv x r=(k+1)+Cv x (r.drop (k+1)):=by intro r k E F h;rw[h,G9 E,Cv,A1 F];omega
theorem NW{x:Int}(r:List Int)(k:Nat)(E:k<r.length)(F:r.getD k 0≠x)(h:Cv x r=k+Cv x (r.drop k)):Cv x r=k:=by rw[h,G9 E,Cv,A0 F];omega
theorem Z17{x:Int}(r:List Int)(k:Nat)(E:r.length<=k)(h:Cv x r=k+Cv x (r.drop k)):Cv x r=k:=by rw[h,XZ E,Cv];omega
def Zd0:vt->Nat
 | .slice _ n _=>n
 |_=>0
theorem Z1w(w:wd)(a b:Nat):(w.drewN a).drewN b=w.drewN (a+b):=oS
theorem Ka(J:List (Nat×Nat×Nat)->wd->Prop)(H:wd->wd->Prop)(au:Nat)(ax:Array vt)(b o:Nat)(l:List Int)(w:wd)(hK:UL J H au ax (lenIs l))(aw:l.length=ac)(bq:ac<=1000)(bj:ac<=G)(a5:∀x∈l,0<=x/\x<=15)(a6:∀W,H w W->Row vh W b o l)(F:J [] w):vu v8 243 #[va (vp ⟨b,o,vn⟩) ac G,.func (.func au) #[] ax] w λe w'=>e=vm (vd #[])/\J (lenIs l) w'/\H w w':=by obtain⟨bc,bh,a8,ay,bb⟩:=HF hK a6 a5 aw F;clear hK a6 a5 aw F;go_enter func243,ntmps243;go_wp2_with fail;go_loopw [0] (λv wr=>∃i n c:Nat,i+n=ac/\n<=c/\(∃a,v=va a n c/\(0<n->a=vp ⟨b,o+i,vn⟩))/\vz (∃E,J E wr/\H w wr/\E++lenIs (l.drop i)=lenIs l)) (λv _=>Zd0 v);exact⟨0,ac,G,om,bj,⟨vp ⟨b,o,vn⟩,rfl,λ_=>rfl⟩,Ab ⟨[],bb,bc.refl _,rfl⟩⟩;obtain⟨i,n,c,hi,bv,⟨a,rfl,al⟩,aj⟩:=hrel;by_cases ba:0<n;(. obtain rfl:=al ba;obtain⟨E,F,O,I⟩:=Aa aj;have ao:=Aa bh wr O;(have af:i<l.length:=by rw[Aa ay];omega);have ah:=G9 af;obtain⟨x,ak⟩:=WH (show 0<=l.getD i 0 from (a8 _ (by simp[List.getD,af])).1);(have ar:x<=15:=by have:=(a8 (l.getD i 0) (by simp[List.getD,af])).2;omega);rw[ak]at ah;obtain⟨r,hr⟩:=exq (l.drop (i+1));rw[hr]at ah;(have a3:r.length=n-1:=by rw[<-hr,VR,Aa ay];omega);(have bd:wr.cell? ⟨b,o+i,vn⟩=vp (so vh x):=by have:=ao i af;rw[ak]at this;exact this);(have a4:∀k:Nat,1<=k->k<n->wr.cell? ⟨b,o+i+k,vn⟩=vp (so vh (r.getD (k-1) 0)):=by intro k ai ap;have bi:=ao (i+k) uF;(have bf:r.getD (k-1) 0=l.getD (i+k) 0:=by rw[<-hr];simp only[List.getD,XL];congr 2;omega);rw[bf,WV];exact bi);obtain⟨bk,a7,a9,ka,av⟩:=HF a4 ah (And.intro F (And.intro O I)) a3 hr;have bo:(0:Int)<n:=om;clear aj F O I ao ah a4 a3 hr ak al af;generalize wr=q1 at*;go_wp2;go_loopw [4] (λv W=>∃k q:Nat,vz (W=q1.drewN q)/\1<=k/\k<=n/\v=so vh k/\vz (Cv x r=(k-1)+Cv x (r.drop (k-1)))) (λv _=>n-(vy v).toNat);exact⟨1,0,rfl,VA _,om,rfl,Ab oS⟩;obtain⟨k,q,em,ai,bn,rfl,U⟩:=hrel;(have bu:wr.cell? ⟨b,o+i,vn⟩=vp (so vh x):=by rw[Aa em];exact bd);by_cases ap:k<n;(. (have c1:wr.cell? ⟨b,o+i+k,vn⟩=vp (so vh (r.getD (k-1) 0)):=by rw[Aa em];exact Aa bk k ai ap);have az:(k:Int)<n:=om;by_cases Z:r.getD (k-1) 0=x;(. rw[Z]at c1;have ae:vz (Cv x r=(k+1-1)+Cv x (r.drop (k+1-1))):=Ab (by have:=NY r (k-1) qAE Z U;rw[show k-1+1=k+1-1 by omega]at this;exact this);clear Z U;go_wp2;go_quiet (fail);go_wp2;go_roundw;exact⟨k+1,_,Ab (by rw[Aa em];exact Z1w _ _ _),om,om,by go_num,ae⟩;simp[vy];omega);. (have hb:(r.getD (k-1) 0==(x:Int))=false:=by rw[HH];exact Z);have ae:vz (Cv x r=k-1):=Ab (NW r (k-1) qAE Z U);generalize r.getD (k-1) 0=y at c1 hb;clear Z U;go_wp2;go_quiet (fail);have aa:vz (E++Th x k++lenIs (l.drop (i+k))=lenIs l):=Ab (by rw[<-(Aa a9).2.2,Aa a7,Yl,WQ,Aa ae,show k-1+1=k by omega,<-Aa av,YF,show i+1+(k-1)=i+k by omega,VO]);go_wp2_with fail;refine(Tt H bc E (lenIs (l.drop (i+k))) _ ar ai om aa (bc.jd _ (by rw[Aa em];exact bc.jd _ a9.1))).mono ?_;rintro e bm ⟨rfl,oz,ot⟩;have ag:=gN;clear oz ot;go_wp2;go_roundw;exact⟨i+k,n-k,c-k,om,om,⟨_,rfl,λ_=>by rw[WV]⟩,Ab ⟨_,ag.1,ag.2,aa⟩⟩;simp[Zd0];omega);. obtain rfl:k=n:=om;have az:¬(k:Int)<k:=om;have ae:vz (Cv x r=k-1):=Ab (Z17 r (k-1) qAE U);clear U az;go_wp2;go_quiet (fail);have aa:vz (E++Th x k++lenIs (l.drop (i+k))=lenIs l):=Ab (by rw[<-(Aa a9).2.2,Aa a7,Yl,WQ,Aa ae,show k-1+1=k by omega,<-Aa av,YF,show i+1+(k-1)=i+k by omega,VO]);go_wp2_with fail;refine(Tt H bc E (lenIs (l.drop (i+k))) _ ar ai om aa (bc.jd _ (by rw[Aa em];exact bc.jd _ a9.1))).mono ?_;rintro e bm ⟨rfl,oz,ot⟩;have ag:=gN;clear oz ot;go_wp2;go_roundw;exact⟨i+k,0,c-k,om,om,⟨_,rfl,λh=>absurd h om⟩,Ab ⟨_,ag.1,ag.2,aa⟩⟩;simp[Zd0];omega);. obtain rfl:n=0:=om;obtain⟨E,F,O,I⟩:=Aa aj;rw[XZ uF]at I;have bg:vz (J (lenIs l) wr/\H w wr):=Ab ⟨by rw[<-I];simpa[lenIs,E6]using F,O⟩;clear aj F O I al;go_wp2;go_end0;exact⟨rfl,bg⟩
theorem Z8b(g n s:Nat)(F:1<=g)(G:n<8192)(E:s=12):n/2^s<2*g:=by subst E;have:n/2^12<2:=Nat.div_lt_of_lt_mul om;omega
theorem LX(g n f s:Nat)(h:n/2^s<2*g):Ta g n f s=s:=by
 cases f with
 |zero=>rfl
 |succ f=>rw[Ta,A1 h]
theorem LW(g n:Nat)(E:s<12)(h:¬n/2^s<2*g):Ta g n (12-s) s=Ta g n (12-(s+1)) (s+1):=by rw[show 12-s=(12-(s+1))+1 by omega,Ta,A0 h]
theorem Z5b(I:n<8192)(E:s<=12):bits .and vh (n:Int) (2^s-1)=((n%2^s:Nat):Int):=by have F:2^s<=2^12:=VN od E;have H:0<2^s:=YY s;(have e:((2:Int)^s-1)=((2^s-1:Nat):Int):=by have G:((2^s:Nat):Int)=(2:Int)^s:=sW;omega);rw[e,Um n (2^s-1) om om,Nat.and_two_pow_sub_one_eq_mod]
theorem Z3k(X:Nat)(F:ac<=48)(E:X<8192):wrap64 (wrap64 (ac:Int)+X)=((ac+X:Nat):Int):=by unfold wrap64;omega
theorem QK{Q:Nat}(E:0<Q)(h:Q<=4096):wrap64 (wrap64 (Q:Int)-1)=(Q:Int)-1:=by unfold wrap64;omega
theorem Xy(n g:Nat)(w:wd)(af:1<=g)(ag:g<=4)(Z:n<8192):vu v8 234 #[so vh n,so vh g] w λe w'=>e=vm (vd #[so vh (B5 g n:Nat),so vh (Wi g n:Nat),so vh (Mx g n:Nat)])/\∃q,w'=w.drewN q:=by go_enter func234,ntmps234;go_wp2;go_loop [6] (λv=>∃s:Nat,s<=12/\v=so vh s/\vz (Ta g n (12-s) s=Mx g n)) (λv=>12-(vy v).toNat);exact⟨0,od,rfl,rfl⟩;obtain⟨s,U,rfl,O⟩:=hrel;by_cases F:n/2^s<2*g;(. have E:vz (Mx g n=s):=Ab (by rw[<-Aa O];exact LX g n _ s F);(have aa:¬(2:Int)*g<=(n:Int)/2^s:=by rw[Fj];omega);have ah:vz (B5 g n=g*s+n/2^s):=Ab (by unfold B5;rw[Aa E]);have hr:vz (Wi g n=n%2^s):=Ab (by unfold Wi;rw[Aa E]);have hm:=Z5b Z U;have G:2^s<=4096:=VN (j:=12) od U;have I:g*s<=48:=Nat.mul_le_mul ag U;have H:n/2^s<=n:=YW _ _;obtain⟨ar,ap,ae⟩:=Bq G H I;clear O F G H I;go_wp2;go_quiet (fail);go_wp2;go_ret3;refine⟨?_,_,rfl⟩;have G:=Aa ar;have H:=Aa ap;have I:=Aa ae;have ak:(g:Int)*s=((g*s:Nat):Int):=sW;have e2:((2:Int)^s)=((2^s:Nat):Int):=sW;have ai:0<2^s:=YY s;(have ac:wrap64 (wrap64 ((g:Int)*s)+(n:Int)/2^s)=((g*s+n/2^s:Nat):Int):=by rw[ak,Fj];exact Z3k _ I (UJ H Z));(have ao:wrap64 (wrap64 ((2:Int)^s)-1)=2^s-1:=by rw[e2];exact QK ai G);show vm (vd #[so vh (wrap64 (wrap64 ((g:Int)*s)+(n:Int)/2^s)),so vh (bits .and vh (n:Int) (wrap64 (wrap64 ((2:Int)^s)-1))),so vh s])=_;rw[ac,ao,hm,Aa ah,Aa hr,Aa E]);. (have aj:s<12:=by rcases YN s 12 with h|h;exact h;exact absurd (Z8b g n s af Z om) F);(have aa:(2:Int)*g<=(n:Int)/2^s:=by rw[Fj];omega);have al:=Ab (LW g n aj F);go_wp2;go_round;exact⟨s+1,om,by go_num,Ab (by rw[<-Aa al];exact Aa O)⟩;simp[vy];omega
theorem Z47(g n:Nat)(H:1<=g)(I:n<8192):Mx g n<=12/\B5 g n<=g*12+n/\Wi g n<=n:=by
 have:∀f s,f+s=12->Ta g n f s<=12:=by
  intro f
  induction f with
  |zero=>intro s h;rw[Ta];omega
  |succ f ih=>intro s h;rw[Ta];split;omega;exact ih _ om
 have E:=this 12 0 rfl;have F:n/2^Mx g n<=n:=YW _ _;have G:g*Mx g n<=g*12:=Nat.mul_le_mul_left _ E;exact⟨E,Nat.add_le_add G F,by unfold Wi;exact Nat.mod_le _ _⟩
theorem EQ(n:Nat)(w:wd)(I:3<=n)(U:n<=258):vu v8 208 #[so vh n] w λe w'=>e=vm (vd #[so vh ((Dq n).1:Nat),so vh ((Dq n).2.1:Nat),so vh ((Dq n).2.2:Nat)])/\∃q,w'=w.drewN q:=by by_cases h:n=258;(. subst h;have e:Dq 258=(285,0,0):=rfl;rw[e];go_enter func208,ntmps208;go_wp2;go_ret3;exact⟨rfl,0,rfl⟩);. have e:vz (Dq n=(257+B5 4 (n-3),Wi 4 (n-3),Mx 4 (n-3))):=Ab (by unfold Dq;rw[A0 h]);have hb:((n:Int)==258)=false:=sV;have H:=Z47 4 (n-3) om om;have F:=Ab (Xy (n-3) 4 w om om om);have E:((n:Int)-3)=((n-3:Nat):Int):=om;rw[Aa e];generalize B5 4 (n-3)=K at*;generalize Wi 4 (n-3)=R at*;generalize Mx 4 (n-3)=O at*;rw[<-E]at F;clear E e;go_enter func208,ntmps208;go_wp2_with fail;refine F.mono ?_;rintro e G ⟨rfl,q,rfl⟩;go_wp2;go_ret3;refine⟨?_,q,rfl⟩;simp only[Int.natCast_add];rfl
theorem NV(d:Nat)(w:wd)(I:1<=d)(G:d<=3000):vu v8 209 #[so vh d] w λe w'=>e=vm (vd #[so vh ((Of d).1:Nat),so vh ((Of d).2.1:Nat),so vh ((Of d).2.2:Nat)])/\∃q,w'=w.drewN q:=by have F:=Ab (Xy (d-1) 2 w om om om);have E:((d:Int)-1)=((d-1:Nat):Int):=om;unfold Of;simp only;generalize B5 2 (d-1)=K at*;generalize Wi 2 (d-1)=R at*;generalize Mx 2 (d-1)=O at*;rw[<-E]at F;clear E;go_enter func209,ntmps209;go_wp2_with fail;refine F.mono ?_;rintro e H ⟨rfl,q,rfl⟩;go_wp2;go_ret3;exact⟨rfl,q,rfl⟩
structure Snk(J:(Nat->Prop)->List It->wd->Prop)(B ks kf kr:Nat)(cs cf br:Array vt)(all:List It):Prop where
 es:∀(args:Array vt) (w:wd),(callFunc ks args).run v8 w=.ok (.enter ks args) w
 ef:∀(args:Array vt) (w:wd),(callFunc kf args).run v8 w=.ok (.enter kf args) w
 er:∀(args:Array vt) (w:wd),(callFunc kr args).run v8 w=.ok (.enter kr args) w
 grow:∀ {No No':Nat->Prop} {is:List It} {W W1:wd},J No is W->vx W.heap.size W W1->(∀g,No' g->No g\/W.heap.size<=g)->J No' is W1
 sym:∀ {No:Nat->Prop} {is R:List It} {k:Nat} {W:wd},is++It.sym k::R=all->J No is W->(∀g,W.heap.size<=g->¬No g)->vu v8 ks (#[so vh k]++cs) W λe W'=>e=vm (vd #[])/\J No (is++ [It.sym k]) W'/\vx B W W'/\Kp No W W'
 far:∀ {No:Nat->Prop} {is R:List It} {k:Nat} {W:wd},is++It.far k::R=all->J No is W->(∀g,W.heap.size<=g->¬No g)->vu v8 kf (#[so vh k]++cf) W λe W'=>e=vm (vd #[])/\J No (is++ [It.far k]) W'/\vx B W W'/\Kp No W W'
 rest:∀ {No:Nat->Prop} {is R:List It} {n s:Nat} {W:wd},is++It.rest n s::R=all->J No is W->(∀g,W.heap.size<=g->¬No g)->vu v8 kr (br++ #[so vh n,so vh s]) W λe W'=>e=vm (vd #[])/\J No (is++ [It.rest n s]) W'/\vx B W W'/\Kp No W W'
theorem Kp.cell(h:Kp No w w')(F:g<w.heap.size)(G:No g)(E:w.cell? ⟨g,j,vn⟩=vp v):w'.cell? ⟨g,j,vn⟩=vp v:=by rw[FA (w:=w) (a:=⟨g,j,vn⟩) (h g F G)];exact E
theorem Z82{l:List Tk}(h:TokIn w a l)(Z:∀b o,a=vp ⟨b,o,vn⟩->b<w.heap.size->w'.heap[b]? =w.heap[b]?)(E:k<l.length){ts I:Int}(U:l.getD k (0,0,0)=(ac,ts,I)):∃b o,a=vp ⟨b,o,vn⟩/\b<w.heap.size/\w'.cell? ⟨b,o+k*3,vn⟩=vp (so vi ac)/\w'.cell? ⟨b,o+k*3+1,vn⟩=vp (so vh ts)/\w'.cell? ⟨b,o+k*3+2,vn⟩=vp (so vh I):=by rcases h with rfl|⟨b,o,rfl,hb,O⟩;simp at E;obtain⟨G,F,H⟩:=O k E;rw[U]at G F H;have e:=Z b o rfl hb;exact⟨b,o,rfl,hb,(FA (w:=w) (a:=⟨b,_,vn⟩) e).trans G,(FA (w:=w) (a:=⟨b,_,vn⟩) e).trans F,(FA (w:=w) (a:=⟨b,_,vn⟩) e).trans H⟩
theorem Z0q(E:k<ts.length):Wv (ts.take (k+1))=Wv (ts.take k)++NM (ts.getD k (0,0,0)):=by(have:ts.take (k+1)=ts.take k++ [ts.getD k (0,0,0)]:=by rw[XD];simp[List.getD,E]);rw[this];simp[Wv]
theorem EI(G:k<ts.length):itsOf ts=Wv (ts.take k)++(NM (ts.getD k (0,0,0))++(Wv (ts.drop (k+1))++ [.sym 256])):=by(have e:ts=ts.take k++(ts.getD k (0,0,0)::ts.drop (k+1)):=by rw[<-Za1 G,YE]);(have E:Wv ts=Wv (ts.take k)++(NM (ts.getD k (0,0,0))++Wv (ts.drop (k+1))):=by have F:=congrArg Wv e;rw[F];simp[Wv]);unfold itsOf;rw[E];simp
theorem IM(J:(Nat->Prop)->List It->wd->Prop)(No:Nat->Prop)(B ks ac U:Nat)(ak ae O:Array vt)(a:Option vw)(aj ek:Nat)(ts:List Tk)(w:wd)(hK:Snk J B ks ac U ak ae O (itsOf ts))(cp:ts.length=aj)(ep:aj<=3000)(cw:∀t∈ts,VT t)(b8:TokIn w a ts)(c8:∀b o,a=vp ⟨b,o,vn⟩->ts≠ []->No b)(dy:B<=w.heap.size)(bz:J No [] w)(c6:∀g,w.heap.size<=g->¬No g):vu v8 181 #[va a aj ek,vf #[.func (.func ks) #[] ak,.func (.func ac) #[] ae,.func (.func U) O #[]]] w λe w'=>e=vm (vd #[])/\J No (itsOf ts) w'/\vx B w w'/\Kp No w w':=by
 have es:=hK.es;have ef:=hK.ef;have er:=hK.er;obtain⟨ed,eb,dr,G,ay,mj,eo⟩:=T7 bz b8 c8 hK cp c6 cw;clear bz b8 hK c8 cp c6 cw;obtain⟨da,c5⟩:=rL;have ax:=Ab c5;clear c5;go_enter func181,ntmps181;go_wp2;go_loopw [11] (λi wr=>∃k:Nat,k<=aj/\i=so vh k/\vz (J da (Wv (ts.take k)) wr/\vx B w wr/\Kp da (w.alloc (vl #[.func (.func ks) #[] ak,.func (.func ac) #[] ae,.func (.func U) O #[]] 253)) wr/\w.heap.size<wr.heap.size)) (λi _=>aj-(vy i).toNat)
 . refine⟨0,VF _,rfl,Ab ⟨?_,(A2 B w).alloc dy _,Kp.refl _ _,oS⟩⟩
   have:=G.grow (No':=da) ed ((A2 w.heap.size w).alloc (VA _) (vl #[.func (.func ks) #[] ak,.func (.func ac) #[] ae,.func (.func U) O #[]] 253)) (λg e=>by
    rw[Aa ax]at e
    rcases e with e|e
    . exact .inl e
    . exact .inr om)
   simpa[Wv]using this
 obtain⟨k,ew,rfl,bd⟩:=hrel;obtain⟨au,a4,af,dj⟩:=Aa bd;(have bb:∀g,wr.heap.size<=g->¬da g:=by intro g aa e;rw[Aa ax]at e;exact jL);(have al:da w.heap.size:=by rw[Aa ax];exact .inr rfl);have x0:wr.cell? ⟨w.heap.size,0,vn⟩=vp (.func (.func ks) #[] ak):=af.cell oS al oS;have x1:wr.cell? ⟨w.heap.size,1,vn⟩=vp (.func (.func ac) #[] ae):=af.cell oS al oS;have x2:wr.cell? ⟨w.heap.size,2,vn⟩=vp (.func (.func U) O #[]):=af.cell oS al oS;have e1:=Ab al;by_cases aw:k<aj
 . obtain⟨av,az,ap,a8⟩:∃av az ap,ts.getD k (0,0,0)=(av,az,ap):=⟨_,_,_,rfl⟩;have ag:k<ts.length:=tC;obtain⟨b,o,ea,dm,c1,c2,dv⟩:=Z82 (w':=wr) eb (λb o e hb=>by have ej:=af b oO (by rw[Aa ax];exact .inl (dr b o e (λh=>by rw[h]at ag;simp at ag)));rw[ej];exact EN w _ b hb) ag a8;have cz:=Aa eo (ts.getD k (0,0,0)) (by (have:ts.getD k (0,0,0)=ts[k]:=by simp[List.getD,ag]);rw[this];exact WO ag);rw[a8]at cz;have a7:=EI ag;have ba:=Z0q ag;rw[a8]at a7 ba;obtain⟨R,de⟩:=exq (Wv (ts.drop (k+1))++ [It.sym 256]);rw[de]at a7;obtain⟨ar,cd⟩:=exq (Wv (ts.take k));rw[cd]at a7 ba au;obtain⟨E,ao⟩:∃E:Nat->Prop,E=λg=>da g\/g=wr.heap.size:=⟨_,rfl⟩
   have b7:∀X:Obj,J E ar (wr.alloc X):=λX=>G.grow au ((A2 wr.heap.size wr).alloc (VA _) X) (λg e=>by
    rw[ao]at e
    rcases e with e|e
    . exact .inl e
    . exact .inr om)
   (have b0:∀W:wd,wr.heap.size<W.heap.size->∀g,W.heap.size<=g->¬E g:=by intro W c9 g aa e;rw[ao]at e;rcases e with e|e;exact bb g om e;omega);have ct:∀(is:List It) (W:wd),J E is W->J da is W:=λ_ _ c9=>G.grow c9 (A2 _ _) (λg e=>.inl (by rw[ao];exact .inl e));(have dc:∀(X:Obj) (W:wd),vx B (wr.alloc X) W->Kp E (wr.alloc X) W->vx B w W/\Kp da (w.alloc (vl #[.func (.func ks) #[] ak,.func (.func ac) #[] ae,.func (.func U) O #[]] 253)) W/\w.heap.size<W.heap.size:=by intro X W ci ds;have dl:=ci.size;simp only[CL]at dl;refine⟨(a4.alloc (oI a4.size) X).trans ci,?_,om⟩;refine(Kp.trans af ?_ oO);intro g aa hn;rw[ds g oO (by rw[ao];exact .inl hn)];exact EN wr X g aa);(have ce:E wr.heap.size:=by rw[ao];exact .inr rfl);(have co:E w.heap.size:=by rw[ao];exact .inl al);obtain⟨ai,a9,b9,a5,cq,b4,bw,a6⟩:=T6 a7 ba b7 b0 ct dc ce co;subst ea;have e5:b<wr.heap.size:=om;clear bd au a4 af bb al a8 a7 ba de cd ao b7 b0 ct dc ce co ag dm;obtain⟨di,v2⟩:=cz;simp only at di v2;by_cases bm:az=0;(. subst bm;(have hit:NM (av,0,ap)= [.sym av]:=by unfold NM;rw[A1 rfl]);rw[hit]at ai a9;have eu:= @World.size_alloc;go_wp2_with fail;refine(G.sym (No:=E) (is:=ar) (R:=R) (k:=av) ai.symm (b9 _) (a5 _ oS)).mono ?_;rintro e I ⟨rfl,ah,Z,H⟩;have bn:=Ab (cq _ _ ah);have d5:=Ab (b4 _ _ Z H);clear ah Z H;go_wp2;go_roundw;exact⟨k+1,om,by go_num,Ab ⟨by rw[Aa a9];exact Aa bn,d5⟩⟩;simp[vy];omega);. (have et:3<=az/\az<=258/\1<=ap/\ap<=3000:=by rcases v2 with h|h;exact absurd h bm;exact h);obtain⟨n,rfl⟩:=WH (show 0<=az by omega);obtain⟨d,rfl⟩:=WH (show 0<=ap by omega);have ey:((n:Int)==0)=false:=sV;(have hit:NM (av,(n:Int),(d:Int))= [.sym (Dq n).1,.rest (Dq n).2.1 (Dq n).2.2,.far (Of d).1,.rest (Of d).2.1 (Of d).2.2]:=by unfold NM;rw[A0 bm];rfl);rw[hit]at ai a9;have ee:=Ab (λW=>EQ n W om om);have em:=Ab (λW=>NV d W om om);generalize (Dq n).1=M at*;generalize (Dq n).2.1=bj at*;generalize (Dq n).2.2=bo at*;generalize (Of d).1=F at*;generalize (Of d).2.1=bh at*;generalize (Of d).2.2=bk at*;go_wp2_with fail;refine(ee _).mono ?_;rintro e I ⟨rfl,q,rfl⟩;go_wp2_with fail;refine(G.sym (No:=E) (is:=ar) (k:=M) (R:=_) (by rw[Aa ai];rfl) (G.grow (b9 _) (Ae (A2 _ _) q) (λg e=>.inl e)) (a5 _ oS)).mono ?_;rintro e I ⟨rfl,ah,Z,H⟩;(have d6:wr.heap.size<I.heap.size:=by have:=Z.size;simp at this;omega);have cu:I.cell? ⟨w.heap.size,1,vn⟩=vp (.func (.func ac) #[] ae):=H.cell oO a6 (by simpa using by go_simp);have y1:I.cell? ⟨w.heap.size,2,vn⟩=vp (.func (.func U) O #[]):=H.cell oO a6 (by simpa using by go_simp);have y2:I.cell? ⟨wr.heap.size,2,vn⟩=vp (so vh d):=H.cell oS bw oS;obtain⟨ck,d9,bn⟩:=Bq Z H ah;clear Z H ah x0 x1 x2 c1 c2 dv;go_wp2_with fail;refine(G.rest (No:=E) (is:=ar++ [.sym M]) (n:=bj) (s:=bo) (R:=.far F::.rest bh bk::R) (by rw[Aa ai];simp) (Aa bn) (a5 _ d6)).mono ?_;rintro e w3 ⟨rfl,cm,bg,a3⟩;(have bc:wr.heap.size<w3.heap.size:=by have:=bg.size;omega);have dn:w3.cell? ⟨w.heap.size,1,vn⟩=vp (.func (.func ac) #[] ae):=a3.cell om a6 cu;have cn:w3.cell? ⟨w.heap.size,2,vn⟩=vp (.func (.func U) O #[]):=a3.cell om a6 y1;have eg:w3.cell? ⟨wr.heap.size,2,vn⟩=vp (so vh d):=a3.cell om bw y2;obtain⟨cv,eh,dq⟩:=Bq bg a3 cm;clear bg a3 cm cu y1 y2;go_wp2_with fail;refine(em _).mono ?_;rintro e e0 ⟨rfl,cy,rfl⟩;go_wp2_with fail;refine(G.far (No:=E) (is:=ar++ [.sym M]++ [.rest bj bo]) (k:=F) (R:=.rest bh bk::R) (by rw[Aa ai];simp) (G.grow (Aa dq) (Ae (A2 _ _) cy) (λg e=>.inl e)) (a5 _ bc)).mono ?_;rintro e bq ⟨rfl,c7,bi,bf⟩;(have du:wr.heap.size<bq.heap.size:=by have:=bi.size;exact VC bc this);have dw:bq.cell? ⟨w.heap.size,2,vn⟩=vp (.func (.func U) O #[]):=bf.cell (Nat.lt_trans dj bc) a6 cn;obtain⟨db,d7,en⟩:=Bq bi bf c7;clear bi bf c7 dn cn eg;go_wp2_with fail;refine(G.rest (No:=E) (is:=ar++ [.sym M]++ [.rest bj bo]++ [.far F]) (n:=bh) (s:=bk) (R:=R) (by rw[Aa ai];simp) (Aa en) (a5 _ du)).mono ?_;rintro e w6 ⟨rfl,bv,cj,b5⟩;have dz:=Ab (cq _ _ bv);have df:=Ab (b4 _ _ ((Ae (A2 B _) q).trans (ck.trans (cv.trans ((Ae (A2 B _) cy).trans (db.trans cj))))) (Kp.trans (b:=I) (λg aa hn=>Aa d9 g aa hn) (Kp.trans (b:=w3) eh (Kp.trans (b:=bq) (λg aa hn=>Aa d7 g aa hn) b5 db.size) cv.size) (by have:=ck.size;exact this)));clear bv cj b5 dw;go_wp2;go_roundw;exact⟨k+1,om,by go_num,Ab ⟨by rw[Aa a9];simpa using Aa dz,df⟩⟩;simp[vy];omega
 . obtain rfl:k=aj:=om;have cg:=Ab (show J da (Wv ts) wr/\vx B w wr/\Kp da (w.alloc (vl #[.func (.func ks) #[] ak,.func (.func ac) #[] ae,.func (.func U) O #[]] 253)) wr from ⟨by rw[VQ uG]at au;exact au,a4,af⟩);have dh:=Ab bb;clear bd au a4 af bb al;go_wp2_with fail;refine(G.sym (No:=da) (is:=Wv ts) (k:=256) (R:= []) rfl cg.1 dh).mono ?_;rintro e I ⟨rfl,ah,Z,H⟩;(have dt:vz (J No (itsOf ts) I/\vx B w I/\Kp No w I):=by obtain⟨e4,ei,d8⟩:=Aa cg;refine⟨G.grow ah (A2 _ _) (λg e=>.inl (by rw[Aa ax];exact .inl e)),ei.trans Z,?_⟩;intro g aa hn;(have bu:da g:=by rw[Aa ax];exact .inl hn);exact(H g om bu).trans ((d8 g oO bu).trans (EN w _ g aa)));clear ah Z H x0 x1 x2;go_wp2;go_end0;exact⟨rfl,dt⟩
def Q9(s:Int):Bool:=decide (0<=s/\s<=16)
def OG(n s:Int):Bool:=decide (0<=s/\s<=16/\0<=n/\n<2^s.toNat)
theorem Zfm{s:Int}(h:Q9 s=vr):0<=s/\s<=16:=LN h
theorem DE{s:Int}(h:Q9 s=vq):¬(0<=s/\s<=16):=kbj h
theorem Pq(s:Int)(w:wd):vu v8 274 #[so vh s] w λe w'=>e=vm (ve (Q9 s))/\w'=w:=by by_cases G:0<=s;by_cases F:s<=16;have E:Q9 s=true:=H6 ⟨G,F⟩;rw[E];clear E;exact yM;have E:Q9 s=false:=H2 om;rw[E];clear E;exact yM;. have E:Q9 s=false:=H2 om;rw[E];clear E;go_enter func274,ntmps274;go_wp2;go_ret;exact⟨rfl,rfl⟩
theorem Z3l{s:Int}(h:s<=16):wrap64 (2^s.toNat)=2^s.toNat:=by have E:s.toNat<=16:=om;(have F:(2:Int)^s.toNat<=2^16:=by have:=VN (n:=2) od E;exact_mod_cast this);(have G:(0:Int)<=2^s.toNat:=by have:=VF (2^s.toNat);exact_mod_cast this);unfold wrap64;omega
theorem Z5z(n s:Int)(w:wd):vu v8 256 #[so vh n,so vh s] w λe w'=>e=vm (ve (OG n s))/\w'=w:=by by_cases F:Q9 s=vr;(. obtain⟨I,G⟩:=Zfm F;by_cases O:0<=n;(. go_enter func256,ntmps256;go_wp2_with (go_at_call 274;refine(Pq _ _).mono ?_;rintro e w' ⟨rfl,rfl⟩);go_ret;refine⟨Hc ?_,rfl⟩;rw[Z3l G];simp[OG,I,G,O]);have E:OG n s=false:=H2 om;rw[E];clear E;exact zV);(have H:Q9 s=false:=by simpa using F);have E:OG n s=false:=H2 (oI (DE H));rw[E];clear E F;exact zV
theorem Xr(n:Nat)(h:k<16):Jq n k<32768:=VC (Z3v n k) (VN (j:=15) od om)
theorem Z3u(n s:Nat)(w:wd)(h:OG n s=vr)(O:s<=16)(U:n<65536):vu v8 237 #[so vh n,so vh s] w λe w'=>e=vm (vd #[so vh (Jq n s:Nat),so vh 0])/\w'=w:=by go_enter func237,ntmps237;go_wp2_with (go_at_call 256;refine(Z5z _ _ _).mono ?_;rintro e w' ⟨rfl,rfl⟩);go_loop [6,13] (λt i=>∃k:Nat,k<=s/\i=so vh k/\t=so vh (Jq n k:Nat)) (λ_ i=>s-(vy i).toNat);exact zG;obtain⟨k,G,rfl,rfl⟩:=hrel;by_cases I:k<s;(. have hb:=Xr n (k:=k) om;have E:=RH (Jq n k) n k om om;have H:vz (Jq n (k+1)=Jq n k*2|||n/2^k%2):=rfl;have F:=Ab E;clear E;generalize Jq n k=m at*;go_wp2;go_round;exact⟨k+1,om,by go_num,by rw[H.out,Aa F]⟩;simp[vy];omega);. have e:k=s:=om;subst e;go_wp2;go_ret2;exact⟨rfl,rfl⟩
theorem X9:∀n c,Al (Jq c n) n=hb c n:=by intro n c;apply XM;rw[Ai,Bc];intro i E F;rw[Ai]at E;(have G:(Al (Jq c n) n).getD i vq=(Al (Jq c n) n)[i]'(by rw[Ai];exact E):=by simp[List.getD,Ai,E]);rw[<-G,Hd,H6 E,ZP,Sr,H6 E,ZP];exact(hb_at n c i E F).symm
where
 hb_at:∀n c i (h:i<n) (F:i<(hb c n).length),(hb c n)[i]=c.testBit (n-1-i)
 |0,c,i,h,_=>om
 |n+1,c,i,h,F=>by
  by_cases e:i=n
  . subst e
    have:(hb c (i+1))[i]'F=decide (c%2=1):=by
     have hl:=Bc i (c/2)
     simp only[hb]
     rw[List.getElem_append_right om]
     simp[hl]
    rw[this]
    rw[show i+1-1-i=0 by omega,Nat.testBit_zero]
  . have hl:=Bc n (c/2)
    have:(hb c (n+1))[i]'F=(hb (c/2) n)[i]' om:=by
     simp only[hb]
     rw[List.getElem_append_left om]
    rw[this,hb_at n (c/2) i om om,show n+1-1-i=(n-1-i)+1 by omega,Nat.testBit_succ]
structure CIs(Bx:Nat->Prop)(W:wd)(gc gl gr rb:Nat)(a:Option vw)(len cap:Nat)(l:List Int):Prop where
 ex:∃gk b o,a=vp ⟨b,o,vn⟩/\(b<W.heap.size/\Bx b)/\(gk<W.heap.size/\Bx gk)/\W.cell? ⟨gc,0,vn⟩=vp (va (vp ⟨gk,0,vn⟩) len len)/\Row vh W b o l/\∀j,j<len->W.cell? ⟨gk,j,vn⟩=vp (so vh (codeN l j:Nat))
 bl:W.cell? ⟨gl,0,vn⟩=vp (va a len cap)
 br:W.cell? ⟨gr,0,vn⟩=vp (vc (vp ⟨rb,0,vn⟩))
 bx:(gc<W.heap.size/\Bx gc)/\(gl<W.heap.size/\Bx gl)/\(gr<W.heap.size/\Bx gr)
theorem CIs.keep(h:CIs av W ac G aa ai a ak ar l)(ag:W.heap.size<=W'.heap.size)(O:∀g,g<W.heap.size->av g->W'.heap[g]? =W.heap[g]?):CIs av W' ac G aa ai a ak ar l:=by(have hc:∀ {g j:Nat} {v:vt},g<W.heap.size/\av g->W.cell? ⟨g,j,vn⟩=vp v->W'.cell? ⟨g,j,vn⟩=vp v:=λ{g j v} E hv=>by rw[FA (w:=W) (a:=⟨g,j,vn⟩) (O g E.1 E.2)];exact hv);have up:∀ {g:Nat},g<W.heap.size/\av g->g<W'.heap.size/\av g:=λE=>⟨VC E.1 ag,E.2⟩;obtain⟨gk,b,o,ae,H,I,Z,af,U⟩:=h.ex;exact⟨⟨gk,b,o,ae,up H,up I,hc h.bx.1 Z,λj F=>hc H (af j F),λj F=>hc I (U j F)⟩,hc h.bx.2.1 h.bl,hc h.bx.2.2 h.br,up h.bx.1,up h.bx.2.1,up h.bx.2.2⟩
theorem CIs.more{I:Nat->Prop}(h:CIs av W ac G aa ai a ak ar l)(E:∀g,av g->I g):CIs I W ac G aa ai a ak ar l:=by obtain⟨gk,b,o,Z,F,H,U,ae,O⟩:=h.ex;exact⟨⟨gk,b,o,Z,⟨F.1,E _ F.2⟩,⟨H.1,E _ H.2⟩,U,ae,O⟩,h.bl,h.br,⟨h.bx.1.1,E _ h.bx.1.2⟩,⟨h.bx.2.1.1,E _ h.bx.2.1.2⟩,⟨h.bx.2.2.1,E _ h.bx.2.2.2⟩⟩
abbrev CV(gc gl gr:Nat):Value:=.func (.func 236) #[] #[vc (vp ⟨gc,0,vn⟩),vc (vp ⟨gl,0,vn⟩),vc (vp ⟨gr,0,vn⟩)]
theorem I3{B:Nat}(H:Nat)(q:Nat){S:List Bool}(F:CIs av W G aa ai ac a H ak l)(a8:l.length=H)(E:Good l)(aj:q<H)(al:0<l.getD q 0)(h:RIs No B W ac S)(az:S.length<=300000)(U:∀g,W.heap.size<=g->¬No g):vu v8 236 #[so vh q,vc (vp ⟨G,0,vn⟩),vc (vp ⟨aa,0,vn⟩),vc (vp ⟨ai,0,vn⟩)] W λe w'=>e=vm (vd #[])/\Rp No B W ac (S++codeT l q) w':=by obtain⟨gk,b,o,rfl,hb,a5,c1,ae,I⟩:=F.ex;have c2:=F.bl;have a9:=F.br;have a6:=E.len;obtain⟨m,hm⟩:=WH (E.ok q om).1;have ar:=(E.ok q om).2;have a3:=ae q om;have ba:=I q aj;rw[hm]at a3 ar al;have O:=(Jc E om hm om).2.2;have af:vz (S++codeT l q=S++Al (Jq (codeN l q) m) m):=Ab (by unfold codeT;rw[hm,WQ,X9]);have ah:2^m<=2^15:=VN od om;have ag:(2:Nat)^15=32768:=od;have bc:codeN l q<32768:=om;have Z:OG (codeN l q:Nat) (m:Nat)=true:=H6 ⟨om,om,om,by rw[WQ];exact_mod_cast O⟩;have ax:=Ab (λW=>Z3u (codeN l q) m W Z om om);have a4:=Xr (codeN l q) (k:=m) om;have aw:=Ab (λ(k x:Nat) (au:x<65536)=>Eb x m S (W.drewN k) (h.drewN k) au om az U);have ao:=Ab (λk=>h.drew k);rw[Aa af];have bb:(q:Int)<H:=om;clear F ae I O Z af h U E hm ah ag;generalize codeN l q=ap at*;generalize Jq ap m=a7 at*;go_enter func236,ntmps236;go_wp2;go_quiet ((go_at_call 237;refine Calls.quiet_of_same (ax _)));go_wp2;go_region_with (go_at_call 147;refine(aw _ _ om).mono ?_;rintro e bd ⟨rfl,ay⟩);(all_goals try go_wp2);(all_goals go_end0);(all_goals trace_state);all_goals exact⟨rfl,(ao _).trans ay⟩
theorem Vk(b o I E F:Nat)(w:wd)(af:l.length=E)(ar:1<=E)(aa:b<w.heap.size)(ah:Row vh w b o l)(ag:Good l):vu v8 210 #[vc (vp ⟨I,0,vn⟩),va (vp ⟨b,o,vn⟩) E F] w λe w'=>∃gc gl gr,e=vm (CV gc gl gr)/\CIs (λg=>w.heap.size<=g\/g=b) w' gc gl gr I (vp ⟨b,o,vn⟩) E F l/\vx w.heap.size w w':=by obtain⟨ae,aj,Z⟩:=Bq ah ag af;clear ah ag af;go_enter func210,ntmps210;go_wp2_with fail;refine(KB (vp ⟨b,o,vn⟩) E F l _ Z (AL.alloc (AL.alloc (.inr ⟨b,o,rfl,aa,ae⟩) _) _) aj).mono ?_;rintro e O ⟨g,rfl,U,H,ac⟩;have al:=H.size;simp only[CL]at al ac;(have ai:vz (CIs (λg=>w.heap.size<=g\/g=b) (O.alloc (vl #[va (vp ⟨g,0,vn⟩) E E] 76)) O.heap.size (w.heap.size+1) w.heap.size I (vp ⟨b,o,vn⟩) E F l/\vx w.heap.size w (O.alloc (vl #[va (vp ⟨g,0,vn⟩) E E] 76))):=by have ak:=(A2 w.heap.size w).alloc (VA _) (vl #[vc (vp ⟨I,0,vn⟩)] 177);have b1:=ak.alloc oS (vl #[va (vp ⟨b,o,vn⟩) E F] 76);have b2:=b1.trans (H.mono oO);have b3:=b2.alloc om (vl #[va (vp ⟨g,0,vn⟩) E E] 76);have ap:=(U.lt g rfl).2;refine⟨⟨⟨g,b,o,rfl,⟨oO,.inr rfl⟩,⟨oO,.inl om⟩,oS,λj G=>(b3.cell (p:=⟨b,_,vn⟩) aa).trans (ae j G),?_⟩,?_,?_,⟨oS,.inl om⟩,⟨oO,.inl om⟩,⟨oO,.inl om⟩⟩,b3⟩;intro j G;rw[I5 _ _ _ (by simpa using ap)];rw[U.cellAt j om];have hc:=Ee l E;(have ao:j<(Vp l E).length:=by rw[hc,Aa Z];exact G);have:=I7 l (j:=j) (by rw[Aa Z];exact G) E;rw[A1 G]at this;rw[<-this];simp[i64s,List.getD,ao];rw[I5 _ _ _ (by show w.heap.size+1<_;omega),H.cell (p:=⟨w.heap.size+1,0,vn⟩) uD];simp;rw[I5 _ _ _ qAX,H.cell (p:=⟨w.heap.size,0,vn⟩) uD];simp);clear U H ac;go_wp2;go_ret;exact⟨_,_,_,rfl,ai⟩
theorem Yh(F ag aa ak G af ac al H:Nat)(w:wd)(bo:Z.length=aa)(a9:aj.length=ac)(a7:1<=aa)(bm:1<=ac)(az:F<w.heap.size)(aw:G<w.heap.size)(a6:Row vh w F ag Z)(a3:Row vh w G af aj)(a4:Good Z)(ay:Good aj):vu v8 182 #[vc (vp ⟨H,0,vn⟩),va (vp ⟨F,ag,vn⟩) aa ak,va (vp ⟨G,af,vn⟩) ac al] w λe w'=>∃gc gl gr hc hl hr,e=vm (vf #[CV gc gl gr,CV hc hl hr,.func (.func 147) #[vc (vp ⟨H,0,vn⟩)] #[]])/\CIs (λg=>w.heap.size<=g\/g=F\/g=G) w' gc gl gr H (vp ⟨F,ag,vn⟩) aa ak Z/\CIs (λg=>w.heap.size<=g\/g=F\/g=G) w' hc hl hr H (vp ⟨G,af,vn⟩) ac al aj/\vx w.heap.size w w':=by obtain⟨av,bw⟩:∃av,av=w.heap.size:=⟨_,rfl⟩;have bh:=Ab (λ(W:wd) (ai:vx w.heap.size w W)=>Vk F ag H aa ak W bo a7 (VC az ai.size) (λj ap=>(ai.cell (p:=⟨F,_,vn⟩) az).trans (a6 j ap)) a4);have bn:=Ab (λ(W:wd) (ai:vx w.heap.size w W)=>Vk G af H ac al W a9 bm (VC aw ai.size) (λj ap=>(ai.cell (p:=⟨G,_,vn⟩) aw).trans (a3 j ap)) ay);clear a6 a3 a4 ay;go_enter func182,ntmps182;go_wp2_with fail;refine(bh _ ((A2 w.heap.size w).alloc (VA _) _)).mono ?_;rintro e au ⟨gc,gl,gr,rfl,a5,cp⟩;have bd:=cp.size;simp only[CL]at bd;have ax:=qBQ;obtain⟨a8,bj,ar⟩:=Bq a5 cp ax;clear a5 cp ax;go_wp2_with fail;refine(bn _ ar).mono ?_;rintro e E ⟨hc,hl,hr,rfl,ao,U⟩;have bg:=U.size;(have O:E.heap[w.heap.size]? =vp (vl #[vg,vg,vg] 253 (0,0)):=by rw[U.block _ om,(Aa bj).block _ oS];exact B2 _ _);have f0:=B1 E w.heap.size 0 _ _ O;have f1:=B1 E w.heap.size 1 _ _ O;have f2:=B1 E w.heap.size 2 _ _ O;have c0:E.cell? ⟨w.heap.size,0,vn⟩=vp vg:=Ac O;have bu:E.cell? ⟨w.heap.size,1,vn⟩=vp vg:=Ac O;have bv:E.cell? ⟨w.heap.size,2,vn⟩=vp vg:=Ac O;obtain⟨bq,bz,b0⟩:=Bq O ao U;(have bi:vz (∀I,(((E.setCell ⟨w.heap.size,0,vn⟩ (CV gc gl gr)).setCell ⟨w.heap.size,1,vn⟩ (CV hc hl hr)).setCell ⟨w.heap.size,2,vn⟩ I).heap[w.heap.size]? =vp (vl #[CV gc gl gr,CV hc hl hr,I] 253 (0,0))/\CIs (λg=>w.heap.size<=g\/g=F\/g=G) (((E.setCell ⟨w.heap.size,0,vn⟩ (CV gc gl gr)).setCell ⟨w.heap.size,1,vn⟩ (CV hc hl hr)).setCell ⟨w.heap.size,2,vn⟩ I) gc gl gr H (vp ⟨F,ag,vn⟩) aa ak Z/\CIs (λg=>w.heap.size<=g\/g=F\/g=G) (((E.setCell ⟨w.heap.size,0,vn⟩ (CV gc gl gr)).setCell ⟨w.heap.size,1,vn⟩ (CV hc hl hr)).setCell ⟨w.heap.size,2,vn⟩ I) hc hl hr H (vp ⟨G,af,vn⟩) ac al aj/\vx w.heap.size w (((E.setCell ⟨w.heap.size,0,vn⟩ (CV gc gl gr)).setCell ⟨w.heap.size,1,vn⟩ (CV hc hl hr)).setCell ⟨w.heap.size,2,vn⟩ I)):=by intro I;have g1:=Ad E w.heap.size 0 (CV gc gl gr);have g2:=Ad (E.setCell ⟨w.heap.size,0,vn⟩ (CV gc gl gr)) w.heap.size 1 (CV hc hl hr);have g3:=Ad ((E.setCell ⟨w.heap.size,0,vn⟩ (CV gc gl gr)).setCell ⟨w.heap.size,1,vn⟩ (CV hc hl hr)) w.heap.size 2 I;have ah:=Aj (Aj g1 g2) g3;have bf:vx w.heap.size w E:=ar.trans (U.mono om);refine⟨?_,?_,?_,bf.grown ah om (λj e=>by rw[<-VK e];exact VA _)⟩;rw[CR _ _ 2 _ _ _ (CR _ _ 1 _ _ _ (CR _ _ 0 _ _ _ O))];rfl;have k1:=a8.keep (W':=E) bg (λg ae _=>U.block g ae);have k2:=k1.keep (W':=((E.setCell ⟨w.heap.size,0,vn⟩ (CV gc gl gr)).setCell ⟨w.heap.size,1,vn⟩ (CV hc hl hr)).setCell ⟨w.heap.size,2,vn⟩ I) ah.size (λg ae hb=>ah.block g ae (λe=>by have e:=VK e;simp only[CL]at hb;omega));exact k2.more (λg hb=>by simp only[CL]at hb;omega);have k2:=ao.keep (W':=((E.setCell ⟨w.heap.size,0,vn⟩ (CV gc gl gr)).setCell ⟨w.heap.size,1,vn⟩ (CV hc hl hr)).setCell ⟨w.heap.size,2,vn⟩ I) ah.size (λg ae hb=>ah.block g ae (λe=>by have e:=VK e;omega));exact k2.more (λg hb=>om));clear ao U O;go_wp2;obtain⟨bc,ba,bk,bb⟩:=Aa bi (.func (.func 147) #[vc (vp ⟨H,0,vn⟩)] #[]);refine E1 (v:=vf #[CV gc gl gr,CV hc hl hr,.func (.func 147) #[vc (vp ⟨H,0,vn⟩)] #[]]) ?_ rfl ⟨gc,gl,gr,hc,hl,hr,rfl,ba,bk,bb⟩;exact MS rfl _ _ _ _ _ _ _ rfl bc underlying253 rfl oR
structure PJ(Bx:Nat->Prop)(B rb:Nat)(S:List Bool)(l1 l2:List Int)(gc gl gr hc hl hr b1 o1 n1 c1 b2 o2 n2 c2:Nat)(No:Nat->Prop)(is:List It)(W:wd):Prop where
 row:RIs (λg=>No g\/Bx g) B W rb (S++putIs l1 l2 is)
 ca:CIs Bx W gc gl gr rb (vp ⟨b1,o1,vn⟩) n1 c1 l1
 cb:CIs Bx W hc hl hr rb (vp ⟨b2,o2,vn⟩) n2 c2 l2
 bl:∀g,Bx g->g<W.heap.size
theorem CIs.bound(h:CIs av W ac G aa ai a ak ar l):CIs (λg=>av g/\g<W.heap.size) W ac G aa ai a ak ar l:=by obtain⟨gk,b,o,O,E,F,I,U,H⟩:=h.ex;exact⟨⟨gk,b,o,O,⟨E.1,E.2,E.1⟩,⟨F.1,F.2,F.1⟩,I,U,H⟩,h.bl,h.br,⟨h.bx.1.1,h.bx.1.2,h.bx.1.1⟩,⟨h.bx.2.1.1,h.bx.2.1.2,h.bx.2.1.1⟩,⟨h.bx.2.2.1,h.bx.2.2.2,h.bx.2.2.1⟩⟩
theorem Py{f:Nat}{E:Func}{c:Code}(F:Tryz.prog.funcs[f]? =vp E)(G:(E.name== "runtime.NumGoroutine")=vq)(H:E.body=vp c):∀(args:Array vt) (w:wd),(callFunc f args).run v8 w=.ok (.enter f args) w:=enters_of F G H
theorem BK(E:Good l)(q:Nat)(F:q<l.length):(codeT l q).length<=15:=by rw[Sc E];have:=E.ok q F;omega
theorem Nh(F:Good Z)(E:Good aj):∀is:List It,Has Z aj is->(∀i∈is,VI i)->(putIs Z aj is).length<=15*is.length
 | [],_,_=>by simp[putIs]
 |i::is,h,hv=>by
  have ih:=Nh F E is (Has.app (x:= [i]) (y:=is) h).2 (λj G=>hv j (by simp[G]));(have e:putIs Z aj (i::is)=Zbd Z aj i++putIs Z aj is:=by simp[putIs]);rw[e,VB,VG]
  have:(Zbd Z aj i).length<=15:=by
   cases i with
   |sym k=>exact BK F k (h.1 k oS).1
   |far k=>exact BK E k (h.2 k oS).1
   |rest n s=>have:=(hv _ (by simp:It.rest n s∈_)).2;show (Al n s).length<=15;rw[Ai];omega
  omega
theorem Z8r(U:Nat->Prop)(B H:Nat)(S:List Bool)(ag I ah O aa ae ak au:Nat)(ar aw ap:Nat)(av:Nat){E:List It}(bc:Z.length=ac)(a6:aj.length=G)(a4:Good Z)(ay:Good aj)(ai:Has Z aj E)(ax:∀i∈E,VI i)(bf:S.length+15*E.length<=300000):Snk (PJ U B H S Z aj ag I ah O aa ae ak au ac ar aw ap G av) B 236 236 147 #[vc (vp ⟨ag,0,vn⟩),vc (vp ⟨I,0,vn⟩),vc (vp ⟨ah,0,vn⟩)] #[vc (vp ⟨O,0,vn⟩),vc (vp ⟨aa,0,vn⟩),vc (vp ⟨ae,0,vn⟩)] #[vc (vp ⟨H,0,vn⟩)] E:=by(have step:∀ {No:Nat->Prop} {is R:List It} {i:It} {W W':wd},is++i::R=E->PJ U B H S Z aj ag I ah O aa ae ak au ac ar aw ap G av No is W->Rp (λg=>No g\/U g) B W H (S++putIs Z aj is++Zbd Z aj i) W'->PJ U B H S Z aj ag I ah O aa ae ak au ac ar aw ap G av No (is++ [i]) W'/\vx B W W'/\Kp No W W':=by intro No is R i W W' b9 eh az;refine⟨⟨?_,?_,?_,λg h=>VC (eh.bl g h) az.below.size⟩,az.below,az.kp.weaken (λg h=>.inl h)⟩;(have e:putIs Z aj (is++ [i])=putIs Z aj is++Zbd Z aj i:=by rw[SW];simp[putIs]);rw[e,<-VO];exact az.is;exact eh.ca.keep az.below.size (λg af hb=>az.kp g af (.inr hb));exact eh.cb.keep az.below.size (λg af hb=>az.kp g af (.inr hb)));(have ao:∀ {is R:List It} {i:It},is++i::R=E->(S++putIs Z aj is).length<=300000:=by intro is R i b9;(have a8:Has Z aj is:=by rw[<-b9]at ai;exact ai.app.1);have a5:∀j∈is,VI j:=λj bb=>ax j (by rw[<-b9];simp[bb]);have bd:=Nh a4 ay is a8 a5;have a7:=congrArg List.length b9;rw[VB,VG]at a7;rw[VB];omega);refine⟨Py func236 oR rfl,Py func236 oR rfl,Py func147 oR rfl,?_,?_,?_,?_⟩;intro No No' is W W1 eh F hn;refine⟨eh.row.grow F (λg e=> ?_),eh.ca.keep F.size (λg af _=>F.block g af),eh.cb.keep F.size (λg af _=>F.block g af),λg h=>VC (eh.bl g h) F.size⟩;rcases e with e|e;rcases hn g e with h|h;exact .inl (.inl h);exact .inr h;exact .inl (.inr e);intro No is R k W b9 eh d8;have al:=ai.1 k uU;have:=I3 ac k eh.ca bc a4 om al.2 eh.row (ao b9) (λg af e=> ?_);refine this.mono ?_;exact vR;exact kX;intro No is R k W b9 eh d8;have al:=ai.2 k uU;have:=I3 G k eh.cb a6 ay om al.2 eh.row (ao b9) (λg af e=> ?_);refine this.mono ?_;exact vR;exact kX;intro No is R n s W b9 eh d8;have a3:=ax (.rest n s) uU;have ba:s<=10:=a3.2;have a9:2^s<=2^10:=VN od ba;have hn:n<65536:=VC (VC a3.1 a9) od;refine(Eb n s (S++putIs Z aj is) W eh.row hn om (ao b9) (λg af e=> ?_)).mono ?_;exact kX;exact vR
structure KJ(B gs gf:Nat)(No:Nat->Prop)(is:List It)(W:wd):Prop where
 base:B<=gs/\B<=gf
 ne:gs≠gf
 no:¬No gs/\¬No gf
 s:ARow 297 W gs (symC is)
 f:ARow 298 W gf (farC is)
theorem P8(is:List It)(k:Nat):symC (is++ [.sym k])=Vy (symC is) k/\farC (is++ [.sym k])=farC is:=by exact wL
theorem AQ(is:List It)(k:Nat):farC (is++ [.far k])=Vy (farC is) k/\symC (is++ [.far k])=symC is:=by exact wL
theorem Ye(is:List It)(n s:Nat):farC (is++ [.rest n s])=farC is/\symC (is++ [.rest n s])=symC is:=by unfold symC farC W9 W8 Da;simp[List.filterMap_append]
theorem Z88(is:List It)(k:Nat):(symC is).getD k 0<=is.length/\0<=(symC is).getD k 0:=by by_cases ba:k<286;unfold symC;rw[Hh _ _ k qAK,Js];have E:=YQ (a:=k) (l:=W9 is);have F:(W9 is).length<=is.length:=ZN _ _;omega;(have:(symC is).getD k 0=0:=by simp only[List.getD];rw[VZ (by rw[Mw];omega)];rfl);omega
theorem Z9z(is:List It)(k:Nat):(farC is).getD k 0<=is.length/\0<=(farC is).getD k 0:=by by_cases ba:k<30;unfold farC;rw[Hh _ _ k qAK,Js];have E:=YQ (a:=k) (l:=W8 is);have F:(W8 is).length<=is.length:=ZN _ _;omega;(have:(farC is).getD k 0=0:=by simp only[List.getD];rw[VZ (by rw[Og];omega)];rfl);omega
theorem PA(T:TypeId)(g k:Nat)(xs:List Int)(W:wd)(E:T=297)(h:ARow T W g xs)(G:xs.length=286)(F:k<286)(I:0<=xs.getD k 0/\xs.getD k 0<=1000000):vu v8 238 #[so vh k,vc (vp ⟨g,0,vn⟩)] W λe w'=>e=vm (vd #[])/\w'=W.setCell ⟨g,k,vn⟩ (so vh (xs.getD k 0+1)):=by have c:=h.cell k om;have f:=h.frozen k;have H:(k:Int)<286:=om;clear h E;generalize xs.getD k 0=x at*;go_enter func238,ntmps238;go_wp2;go_end0;exact⟨rfl,rfl⟩
theorem OY{T:TypeId}(E:T=298)(h:ARow T W g xs)(G:xs.length=30)(F:k<30)(I:0<=xs.getD k 0/\xs.getD k 0<=1000000):vu v8 239 #[so vh k,vc (vp ⟨g,0,vn⟩)] W λe w'=>e=vm (vd #[])/\w'=W.setCell ⟨g,k,vn⟩ (so vh (xs.getD k 0+1)):=by have c:=h.cell k om;have f:=h.frozen k;have H:(k:Int)<30:=om;clear h E;generalize xs.getD k 0=x at*;go_enter func239,ntmps239;go_wp2;go_end0;exact⟨rfl,rfl⟩
theorem OX(n s:Int)(W:wd):vu v8 240 #[so vh n,so vh s] W λe w'=>e=vm (vd #[])/\w'=W:=by go_enter func240,ntmps240;go_wp2;go_end0;exact⟨rfl,rfl⟩
theorem Gt{f:Nat}{E:Func}{c:Code}(F:Tryz.prog.funcs[f]? =vp E)(G:(E.name== "runtime.NumGoroutine")=vq)(H:E.body=vp c):∀(args:Array vt) (w:wd),(callFunc f args).run v8 w=.ok (.enter f args) w:=enters_of F G H
theorem KJ.step{B:Nat}{E:List It}(h:KJ B ac G No is W)(H:g=ac\/g=G)(O:ARow 297 (W.setCell ⟨g,k,vn⟩ v) ac (symC E))(I:ARow 298 (W.setCell ⟨g,k,vn⟩ v) G (farC E)):KJ B ac G No E (W.setCell ⟨g,k,vn⟩ v)/\vx B W (W.setCell ⟨g,k,vn⟩ v)/\Kp No W (W.setCell ⟨g,k,vn⟩ v):=by have F:=Ad W g k v;have hb:=h.base;have hn:=h.no;have U:=h.s.lt;refine⟨⟨h.base,h.ne,h.no,O,I⟩,(A2 B W).grown F om (λj e=>by rw[<-VK e];rcases H with e|e<;>rw[e]<;>omega),(Kp.refl No W).grown F (VA _) (λj e=>by rw[<-VK e];rcases H with e|e<;>rw[e];exact hn.1;exact hn.2)⟩
theorem Z23(B F G:Nat)(H:List It)(ac:∀i∈H,VI i)(ae:H.length<=100000):Snk (KJ B F G) B 238 239 240 #[vc (vp ⟨F,0,vn⟩)] #[vc (vp ⟨G,0,vn⟩)] #[] H:=by(have hl:∀ {is R:List It} {i:It},is++i::R=H->is.length<=100000/\VI i:=by intro is R i b9;have aa:=congrArg List.length b9;rw[VB,VG]at aa;exact⟨om,ac i uU⟩);refine⟨Gt func238 oR rfl,Gt func239 oR rfl,Gt func240 oR rfl,?_,?_,?_,?_⟩;intro No No' is W W1 E U hn;have l1:=E.s.lt;have l2:=E.f.lt;refine⟨E.base,E.ne,⟨λe=> ?_,λe=> ?_⟩,E.s.keep (U.block _ l1),E.f.keep (U.block _ l2)⟩;rcases hn F e with h|h;exact E.no.1 h;omega;rcases hn G e with h|h;exact E.no.2 h;omega;intro No is R k W b9 E Z;have I:k<286:=(hl b9).2;have O:=Z88 is k;have:=(hl b9).1;refine(PA _ F k (symC is) W rfl E.s (Mw is) I ⟨O.2,om⟩).mono ?_;rintro e W' ⟨rfl,rfl⟩;refine⟨rfl,E.step (.inl rfl) ?_ ?_⟩;rw[(P8 is k).1];exact E.s.set k _;rw[(P8 is k).2];exact E.f.keep ((Ad W F k _).block G E.f.lt (λe=>E.ne (VK e).symm));intro No is R k W b9 E Z;have I:k<30:=(hl b9).2;have O:=Z9z is k;have:=(hl b9).1;refine(OY rfl E.f (Og is) I ⟨O.2,om⟩).mono ?_;rintro e W' ⟨rfl,rfl⟩;refine⟨rfl,E.step (.inr rfl) ?_ ?_⟩;rw[(AQ is k).2];exact E.s.keep ((Ad W G k _).block F E.s.lt (λe=>E.ne (VK e)));rw[(AQ is k).1];exact E.f.set k _;intro No is R n s W b9 E Z;refine(OX n s W).mono ?_;rintro e W' ⟨rfl,rfl⟩;refine⟨rfl,⟨E.base,E.ne,E.no,?_,?_⟩,A2 _ _,Kp.refl _ _⟩;rw[(Ye is n s).2];exact E.s;rw[(Ye is n s).1];exact E.f
theorem NS:(Tryz.prog.info? 340).map (λi=>(i.zero,i.size,i.bytes))=vp (vp (vf #[va vn 0 0,va vn 0 0]),2,48):=oR
theorem HJ.made(H:List Int)(A B:Nat->Nat)(F:W.ownsRow w.heap.size 340 2 (va (vp ⟨w.heap.size,0,vn⟩) m m) m (madeCells #[va vn 0 0,va vn 0 0] (m*2)).toList)(I:w.grownBy W vn):HJ w W w.heap.size m H 0 A B:=by(have hc:∀j,j<m*2->W.cell? ⟨w.heap.size,j,vn⟩=vp (va vn 0 0):=by intro j G;rw[F.cellAt j G];have E:j%2=0\/j%2=1:=om;rcases E with E|E<;>simp[madeCells,G,E]);refine⟨VA _,(F.lt _ rfl).2,λj=>F.frozenAt j,λi hi=>om,λi _ hi=>⟨hc _ om,hc _ om⟩,λi hi=>om,λi hi=>om,(A2 w.heap.size w).grown I (VA _) (λj h=>by cases h)⟩
theorem DA(c:Nat)(a5:Z.length=n)(co:n<=288)(bm:n<=c)(bg:c<=maxLen)(cp:m<=15)(ax:∀x∈Z,0<=x/\x<=1000000)(ae:WRow w ac Z):vu v8 260 #[va (vp ⟨ac,0,vn⟩) n c,so vh m] w λe w'=>∃g A B,e=vm (va (vp ⟨g,0,vn⟩) m m)/\HJ w w' g m Z m A B:=by obtain⟨bn,hi,bh,bk,i1⟩:=EM NS;have a9:=Ab ae;have bq:=Ab ax;have b7:=ae.lt;clear ae ax;go_enter func260,ntmps260;go_wp2_with (at_make;refine V5 _ rfl _ _ 335 rfl w.heap.size 340 bn (vf #[va vn 0 0,va vn 0 0]) 2 underlying335 hi bh bk _ _ _ _ m rfl rfl rfl rfl uR ou oS ?_);intro b0 ao bc;have ar:=Ab (HJ.made Z (λ_=>0) (λ_=>0) ao bc);clear ao bc;generalize a8:w.heap.size=g at*;have cj:=Ab a8;clear a8;go_wp2;go_loopw [6,7,11] (λa6 _ i wr=>∃(k:Nat) (A B:Nat->Nat),k<=m/\i=so vh k/\HJ w wr g m Z k A B/\((k=0/\a6=va vn 0 0)\/ (0<k/\a6=va (vp ⟨A (k-1),0,vn⟩) (rowAt Z (k-1)).length (rowAt Z (k-1)).length))) (λ_ _ i _=>m-(vy i).toNat);exact⟨0,_,_,VF _,rfl,ar,.inl ⟨rfl,rfl⟩⟩;obtain⟨k,A,B,b8,rfl,G,ah⟩:=hrel;have ai:=Ab G;by_cases U:k<m;(. (obtain⟨aj,E,ys,bu,ag,cm,ba,a4,bb⟩:∃(aj:Option vw) (E:Nat) (ys:List Int),u6=va aj E E/\ys.length=E/\E<=576/\AL vh wr aj ys/\(∀j,0<=ys.getD j 0/\ys.getD j 0<=1000000000000)/\rowAt Z k=F1 Z (Io ys):=by(rcases ah with ⟨a3,aa⟩|⟨a3,aa⟩);exact⟨vn,0,[],aa,rfl,om,.inl rfl,λj=>oS,by rw[a3,rowAt];rfl⟩;refine⟨vp ⟨A (k-1),0,vn⟩,(rowAt Z (k-1)).length,(rowAt Z (k-1)).map Prod.fst,aa,oS,?_,(G.ws (k-1) om).2.2.row,DJ Z bq (k-1) om,?_⟩;have:=Jz Z (k-1);omega;obtain⟨q,rfl⟩:=nM;rw[YH,rowAt]);subst bu;obtain⟨bj,bv,ay,cn⟩:=Do ba a4 bb ag;have ci:w.heap.size<=wr.heap.size:=G.bel.size;have a7:vz (WRow wr ac Z):=a9.below G.bel a9.lt;clear ah ba a4 bb G ar;go_wp2_with fail;refine(TM E ag om bj bv).mono ?_;rintro e bz ⟨gp,rfl,au,O,b9⟩;obtain⟨I,av,aw⟩:=Bq (ai.below O) (a7.below O a7.lt) au;have cd:=O.size;(have bw:(Io ys).length=E/2:=by rw[Fc,ag]);have az:=Ab bw;have ck:E/2<=288:=om;clear au O;go_wp2_with fail;refine(Z08 0 0 (E/2) (E/2) bz a5 az om om bm (VA _) bg ou av.lt aw.lt (λj ak=>by rw[VY];exact(av.at_ j ak).1) (λj ak=>by rw[VY];exact(aw.at_ j ak).1)).mono ?_;rintro e w3 ⟨g1,g2,rfl,al,af,bf,ce,cg⟩;have F:=I.below bf;rw[<-Aa ay]at al af;(have H:n+E/2=(rowAt Z k).length:=by rw[Aa ay,Bn,a5,Aa az]);have cq:=I.ghi;have b5:=I.glo;have bd:=Ab (F.next U g1 g2 ⟨om,om⟩ ⟨om,om⟩ al af (n+E/2) H);have c0:=(F.todo k (VA _) U).1;have c1:=(F.todo k (VA _) U).2;have f0:=F.fz (k*2);have f1:=F.fz (k*2+1);have ap:=(bd.done k om).1;simp only[RZ]at ap;rw[<-H]at ap;have bi:=Ab H;have b4:(k:Int)<m:=om;clear al af bf F H ai I;generalize bo:n+E/2=L at*;clear bo;go_wp2;go_roundw;refine⟨k+1,_,_,om,by go_num,bd,.inr ⟨om,?_⟩⟩;simp only[YH,RZ];rw[Aa bi];simp[vy];omega);. obtain rfl:k=m:=om;clear G ah;go_wp2;go_ret;exact⟨g,A,B,rfl,ai⟩
theorem Wx(h:vx w.heap.size w w')(r:Option Nat):w.grownBy w' r:=⟨h.os,h.tape,h.output,h.size,λi hi _=>h.block i hi⟩
theorem HJ.grown{A B:Nat->Nat}{r:Nat}(h:HJ w W g m Z k A B)(E:W.grownBy W' (vp r))(I:r<w.heap.size):(∀i,i<k->W'.cell? ⟨g,i*2,vn⟩=vp (va (vp ⟨A i,0,vn⟩) (rowAt Z i).length (rowAt Z i).length)/\W'.cell? ⟨g,i*2+1,vn⟩=vp (va (vp ⟨B i,0,vn⟩) (rowAt Z i).length (rowAt Z i).length))/\(∀i,i<k->BRow W' (B i) ((rowAt Z i).map Prod.snd)):=by have G:=h.glo;refine⟨λi hi=>⟨E.cell (h.done i hi).1 oO,E.cell (h.done i hi).2 oO⟩,λi hi=> ?_⟩;obtain⟨H,O,F⟩:=h.fs i hi;exact F.grown E oO
theorem NB(E a5:Nat)(l:List Int)(m:Nat)(G:l.length=E)(bh:AL vh w a l)(Z:H0 l m):vu v8 241 #[va a E a5,so vh m] w λe w'=>∃g s,e=vm (vd #[va (vp ⟨g,0,vn⟩) E E,so vh 0])/\IsLens l m s/\s.length=E/\WRow w' g s/\vx w.heap.size w w'/\w.heap.size<=g:=by obtain⟨db,hi,c8,dw,i1⟩:=EM Ce;have ed:=Z.len;have dy:=Z.lo;have de:=Z.hi;obtain⟨b7,ci,et⟩:=Bq Z bh G;have a9:=KX a5 m G om bh;rw[Z1c Z]at a9;have cg:=Ab a9;clear bh Z a9;go_enter func241,ntmps241;go_wp2_with fail;refine cg.mono ?_;rintro e au ⟨rfl,rfl⟩;clear cg;go_wp2_with (at_make;refine V5 _ rfl _ _ 76 rfl au.heap.size 3 db (so vh 0) 1 underlying76 hi c8 dw _ _ _ _ E rfl rfl rfl rfl uR ou oS ?_);intro e5 bc b0;have e0:(madeCells #[so vh 0] E).toList=iv (List.replicate E 0):=Ua E;rw[e0]at bc;have ai:=Ab (WRow.own bc);have a4:=Ab ((A2 au.heap.size au).grown b0 (VA _) (λj h=>by cases h));clear bc b0 e0;obtain⟨aa,al⟩:=exq (au.heap.size);rw[al]at ai;rw[al];have ma:=Ab al;have ey:=ai.lt;clear al;go_wp2_with fail;refine(MI a5 G om (ci.below a4 (VA _))).mono ?_;rintro e w3 ⟨eu,P,rfl,ar,ap,dq⟩;have bb:=Ab ar;have b9:=ar.lt;have bj:=ar.length;have en:=Sg l l.length;have hz:=Ab (a4.trans (ap.mono a4.size));have ak:=Ab (ai.below ap ai.lt);have ei:=ap.size;have ao:=Ab b9;have c7:=Ab bj;have dl:P.length<=288:=om;clear ar b9 ap ai a4;(rcases dq with ⟨rfl,rfl⟩|⟨aw,ay,rfl,c9,di,e4,bg⟩);(. go_wp2_with fail;refine(Ke E E vn 0 0 [] oS rfl om om ak (.inl rfl) (λb o h=>by cases h) (λp h=>by cases h) (λj=>by by_cases h:j<E<;>simp[List.getD,h])).mono ?_;rintro e gw ⟨rfl,ah,nx⟩;have U:=Ab ah;have H:=nE;clear ah nx;go_wp2;go_ret2;exact⟨aa,_,rfl,⟨[],bb,by unfold Dd;rw[A1 oS,G]⟩,by rw[Cc];simp,U,H,UB ma⟩);. have aj:=Ab bg;have eg:=bg.lt;clear bg;obtain⟨N,a6⟩:=exq (P.length);rw[a6]at c9 dl;rw[a6];have F:=Ab a6;clear a6 bj;by_cases b4:N<2;(. have da:(N:Int)<2:=om;have av:=Ab (Ke E E (vp ⟨aw,0,vn⟩) N ay P oS F om om ak aj.row (λb o h=>by cases h;omega) (λp I=>by have:=Aa ao p I;omega) (λj=>by by_cases h:j<E<;>simp[List.getD,h]));go_wp2_with fail;refine av.mono ?_;rintro e gw ⟨rfl,ah,nx⟩;have U:=Ab ah;have H:=nE;clear ah nx;go_wp2;go_ret2;exact⟨aa,_,rfl,⟨P,bb,by unfold Dd;rw[A1 (by rw[Aa F];exact b4),G]⟩,by rw[Cc];simp,U,H,UB ma⟩);. have da:¬(N:Int)<2:=om;have bu:=Ab (Zq a5 ay G F om om (ci.below hz (VA _)) aj.row (λp I=>by have:=Aa ao p I;omega));go_wp2_with fail;refine bu.mono ?_;rintro e gw ⟨eh,rfl,ck,ag,eb⟩;have bm:=Ab ck;have e1:=ag.size;obtain⟨H,U,bv⟩:=Bq (hz.trans (ag.mono hz.size)) (ak.below ag ak.lt) (aj.below ag aj.lt);(have b8:∀x∈(P.map λp=>l.getD p 0),0<=x/\x<=1000000:=by intro x cw;obtain⟨p,I,rfl⟩:=WU.1 cw;exact b7.ok p (ao p I));have ct:=Ab b8;(have df:vz (Dd l P m=Fh E P (P.map λp=>l.getD p 0) m m):=by unfold vz Dd;rw[A0 (by rw[Aa F];exact b4),G]);(have O:vz ((P.map λp=>l.getD p 0).length=N):=by rw[WP];exact F);(have dm:vz (N<=2^m):=by have h:=b7.room;rw[<-Aa c7,Aa F]at h;exact h);clear ck ag b8 ak aj hz bu;generalize (P.map λp=>l.getD p 0)=Ws at*;have bn:=Ab (DA N O om (VA _) ou de ct bm);go_wp2_with fail;refine bn.mono ?_;rintro e d8 ⟨gs,A,B,rfl,af⟩;obtain⟨G6,ds,cy,cd⟩:=Do af (U.below af.bel om) (bv.below af.bel om) (H.trans (af.bel.mono H.size));have em:=af.bel.size;(have dn:vz (2*((N:Int)-1)=((Dc Ws m 0:Nat):Int)):=by unfold vz;rw[Dc,Aa O];omega);clear af U bv H bm bn;unfold maxLen at di;go_wp2;go_loopw [10,11,12,41] (λdh _ _ bi wr=>∃i:Nat,i<=m/\bi=so vh i/\dh=so vh (Dc Ws m i:Nat)/\d8.grownBy wr (vp aa)/\WRow wr aa (Fh E P Ws m i)) (λ_ _ _ bi _=>m-(vy bi).toNat);exact⟨0,VF _,rfl,congrArg (Value.int vh) (Aa dn),Av _ _,ds⟩;obtain⟨i,eo,rfl,rfl,ac,a7⟩:=hrel;have c5:=Ab ac;have bd:=Ab a7;by_cases c6:i<m;(. obtain⟨q,a3⟩:∃q,q=m-1-i:=⟨_,rfl⟩;obtain⟨a8,bq⟩:=G6.grown ac om;have c0:=(a8 q om).1;have c1:=(a8 q om).2;have d5:=Ab (bq q om);have ce:=Ab (cy.grown ac oO);(have dj:1<=Ws.length:=by rw[Aa O];omega);have az:=Mu m dj dy (by rw[Aa O];exact Aa dm) i c6;have ew:=Qo Ws m i;have bk:=Zl Ws m i;rw[Aa O]at bk;(have cj:Jo ((rowAt Ws q).map Prod.snd) (Dc Ws m i)=Bg Ws m i:=by unfold Bg;rw[<-a3];rw[<-a3]at az;exact(Qn _ _ az).symm);have cu:=Ab cj;rw[<-a3]at az;have dc:=Jz Ws q;rw[Aa O]at dc;have dr:vz (Dc Ws m (i+1)=2*(Dc Ws m i-Bg Ws m i)):=rfl;have du:vz (Fh E P Ws m (i+1)=Da (Fh E P Ws m i) (P.take (Bg Ws m i))):=rfl;have d6:=Ab (Qj E P Ws m (by rw[Aa F];omega) i);have co:=Ab (Eu E P Ws m i);(have d7:vz (((rowAt Ws q).map Prod.snd).length=(rowAt Ws q).length):=by unfold vz;simp);have ea:((m:Int)-1-(i:Int)).toNat=q:=om;have pa:(0:Int)<=m-1-(i:Int):=om;have dz:(m:Int)-1-(i:Int)<m:=om;clear ac a7 a8 bq cj a3;generalize Dc Ws m i=T at*;generalize Bg Ws m i=ae at*;generalize (rowAt Ws q).length=ba at*;generalize (rowAt Ws q).map Prod.snd=fs at*;generalize Fh E P Ws m i=ee at*;generalize A q=dt at*;generalize B q=ep at*;have cm:=Ab (Xf (va (vp ⟨dt,0,vn⟩) ba ba) rfl ba d7 az om d5);go_wp2_with fail;refine cm.mono ?_;rintro e w6 ⟨rfl,ax⟩;rw[Aa cu];obtain⟨dv,cn,bo⟩:=Bq (Aj c5 (Wx ax (vp aa))) (bd.below ax bd.lt) (ce.below ax ce.lt);have bz:AL vh w6 (vp ⟨aw,0,vn⟩) (ni (P.take ae)):=.inr ⟨aw,0,rfl,bo.lt,λj cz=>by (have bf:j<ae/\j<P.length:=by simp at cz;omega);rw[VY,((Aa bo).at_ j (by simpa using bf.2)).1];simp[List.getD,bf.1,bf.2]⟩;have av:=Ab (Ke E E (vp ⟨aw,0,vn⟩) ae ay (P.take ae) co (by rw[VL,Aa F];omega) om om cn bz (λb o h=>by cases h;omega) (λp I=>by have:=Aa ao p (VU I);omega) (λj=>by have:=Aa d6 j;omega));have ek:(ae:Int)<=ay:=om;have ej:ae<=N:=bk;clear ax bz cm c0 c1 ea pa dz;go_wp2_with fail;refine av.mono ?_;rintro e d9 ⟨rfl,bw,b5⟩;have cq:=Ab bw;have cp:=Ab (Aj dv b5);clear bw b5 av;go_wp2;go_roundw;exact⟨i+1,om,by go_num,by rw[Aa dr];go_num,cp,by rw[Aa du];exact Aa cq⟩;simp[vy];omega);. obtain rfl:i=m:=om;have cv:vz (vx au.heap.size au wr):=cd.grown ac cd.size (λj h=>by cases h;exact UB ma);clear ac a7;go_wp2;go_ret2;exact⟨aa,_,rfl,⟨P,bb,df.symm⟩,Eu _ _ _ _ _,bd,cv,UB ma⟩
theorem EL:(Tryz.prog.info? 297).map (·.size)=vp 286:=oR
theorem Z0y:(Tryz.prog.info? 298).map (·.size)=vp 30:=oR
theorem Z22(ah:Nat)(w:wd)(al:ts.length=ac)(ba:ac<=3000)(aw:∀t∈ts,VT t)(G:TokIn w a ts):vu v8 211 #[va a ac ah] w λe w'=>e=vm (vd #[vf (iv (symC (itsOf ts))).toArray,vf (iv (farC (itsOf ts))).toArray])/\vx w.heap.size w w':=by(have af:∀b o,a=vp ⟨b,o,vn⟩->ts≠ []->b<w.heap.size:=by intro b o e az;rcases G with h|⟨bc,bd,a9,a3,_⟩;exact absurd h az;. rw[a9]at e;have:=VK e;cases this;exact a3);obtain⟨bb,ar,ao⟩:=Bq G aw al;clear G aw al;go_enter func211,ntmps211;go_wp2_with fail;have hi:=Gn ts;refine(IM (KJ w.heap.size w.heap.size (w.heap.size+1)) (λg=>g<w.heap.size) w.heap.size 238 239 240 #[vc (vp ⟨w.heap.size,0,vn⟩)] #[vc (vp ⟨w.heap.size+1,0,vn⟩)] #[] a ac ah ts _ (Z23 w.heap.size w.heap.size (w.heap.size+1) (itsOf ts) (Ld ar) (by rw[Aa ao]at hi;omega)) ao ba ar (bb.alloc _|>.alloc _) af oO ?_ (λg a5=>by simp at a5;omega)).mono ?_;refine⟨⟨om,om⟩,om,⟨om,om⟩,?_,?_⟩;exact(EN _ _ _ oS).trans ((B2 _ _).trans oR);have e:w.heap.size+1=(w.alloc (vl (iv (List.replicate 286 0)).toArray 297)).heap.size:=oS;rw[e];exact(B2 _ _).trans oR;rintro e ay ⟨rfl,O,au,hK⟩;have ap:=O.s;have ai:=O.f;have aj:vx w.heap.size w ay:=((((A2 w.heap.size w).alloc (VA _) _).alloc oS _)).trans au;have a6:=Ab aj;have Z:=Mw (itsOf ts);have H:=Og (itsOf ts);clear O au hK af aj hi;obtain⟨xs,F⟩:=exq (symC (itsOf ts));obtain⟨ys,I⟩:=exq (farC (itsOf ts));rw[F]at ap Z;rw[I]at ai H;have a4:=Ab F;have a7:=Ab I;clear F I;(have ax:(Tryz.prog.info? 297).map (·.size)=vp (iv xs).length:=by rw[EL];simp[Z]);(have a8:(Tryz.prog.info? 298).map (·.size)=vp (iv ys).length:=by rw[Z0y];simp[H]);(have av:(Tryz.prog.info? 297).map (·.size)=vp (iv xs).toArray.size:=by rw[EL];simp[Z]);(have ag:(Tryz.prog.info? 298).map (·.size)=vp (iv ys).toArray.size:=by rw[Z0y];simp[H]);have aa:=underlying297;have ae:=underlying298;go_wp2;refine wp_region_held_drew (S:=λw'=>ARow 297 w' w.heap.size xs/\ARow 298 w' (w.heap.size+1) ys) oR ⟨ap,ai⟩ (λE=> ?_);refine wpAnyH_take (i:=0) (oi:= {dst:=vp 9,op:=.load 297 (.tmp 2),type:=297,pos:= "dynamic.go:71",after:= #[],guard:=vn}) (v:=_) rfl oR oR oR (λ_ _ _ h=>h) (yieldsIf_load_mid (by rfl) _ _ rfl _ _ rfl _ _ (λ_ h=>h.1.range) aa rfl ax) E ?_;simp only[Act.put,VE,VH,VJ];refine wpAnyH_take (i:=1) (oi:= {dst:=vp 10,op:=.load 298 (.tmp 3),type:=298,pos:= "dynamic.go:71",after:= #[],guard:=vn}) (v:=_) rfl oR oR oR (λ_ _ _ h=>h) (yieldsIf_load_mid (by rfl) _ _ rfl _ _ rfl _ _ (λ_ h=>h.2.range) ae rfl a8) E ?_;simp only[Act.put,VE,VH,VJ];refine C1 2 λK hK=> ?_;refine Eo rfl 297 (.tmp 2) (.tmp 9) rfl w.heap.size xs rfl rfl E.1 av ?_;simp only[Act.put];refine hK.out _ _ E (λU=> ?_);clear hK K E;refine C1 3 λK hK=> ?_;refine Eo rfl 298 (.tmp 3) (.tmp 10) rfl (w.heap.size+1) ys rfl rfl U.2 ag ?_;simp only[Act.put];refine hK.out _ _ U (λak=> ?_);clear hK K U;refine wpAnyH_done oR ?_ _;go_wp2;refine E1 (v:=vd #[vf (iv xs).toArray,vf (iv ys).toArray]) ?_ rfl ⟨by rw[Aa a4,Aa a7],a6.drew⟩;exact Nd rfl _ _ w.heap.size (w.heap.size+1) _ _ rfl rfl (ak.1.load aa rfl av) (ak.2.load ae rfl ag)
theorem Iw(a:Option vw)(F ah:Nat)(l:List Int)(m E:Nat)(w:wd)(ax:l.length=F)(ao:AL vh w a l)(Z:H0 l m)(az:E<=F)(n:Nat)(ak:vz (Hj (lensD l m) E F=n)):vu v8 212 #[va a F ah,so vh m,so vh E] w λe w'=>∃g,e=vm (va (vp ⟨g,0,vn⟩) n F)/\IsLens l m (lensD l m)/\w.heap.size<=g/\g<w'.heap.size/\Row vh w' g 0 (trimL (lensD l m) E)/\vx w.heap.size w w':=by
 have a6:=Z.len;go_enter func212,ntmps212;go_wp2_with fail;refine(NB F ah l m ax ao Z).mono ?_;rintro e ac ⟨g,s,rfl,U,aj,O,ap,ae⟩;have H:=Z5g U;rw[H]at ak;have av:vz (IsLens l m (lensD l m)):=Ab (by rw[H];exact U);obtain⟨bb,a9,af,a8⟩:=Do H O ap aj;have aa:∀j,j<F->ac.cell? ⟨g,j,vn⟩=vp (so vh (s.getD j 0)):=λj al=>(O.at_ j om).1;have aw:=Ab aa;have au:=O.lt;(have ai:vz (Row vh ac g 0 (trimL (lensD l m) E)):=λj al=>by rw[VY,H,Qz];refine aa j ?_;rw[H,Cj]at al;have:=Kx s E s.length;omega);clear U H O ap aj ao Z aa;go_wp2;go_loop [9] (λv=>∃k:Nat,k<=F/\E<=k/\v=so vh k/\vz (Hj s E k=n)) (λv=>(vy v).toNat);exact⟨F,VA _,az,rfl,ak⟩;obtain⟨k,a5,a3,rfl,G⟩:=hrel;by_cases ag:E<k;. obtain⟨q,rfl⟩:=nM;have c:=Aa aw q om;have ay:(E:Int)<((q+1:Nat):Int):=om;have ba:(((q+1:Nat):Int)-1).toNat=q:=om;have a4:(0:Int)<=((q+1:Nat):Int)-1:=om;have a7:((q+1:Nat):Int)-1<(F:Int):=om;by_cases ar:s.getD q 0=0;(. rw[ar]at c;have I:vz (Hj s E q=n):=Ab (by have:=Aa G;rw[Hj,A1 ⟨ag,ar⟩]at this;exact this);clear ar G;go_wp2;go_round;exact⟨q,om,om,by go_num,I⟩;simp[vy]);. have I:vz (q+1=n):=Ab (by have:=Aa G;rw[Hj,A0 (λh=>ar h.2)]at this;exact this);have hb:(s.getD q 0==0)=false:=sY;generalize s.getD q 0=x at c hb;clear ar G;go_wp2;go_ret;exact⟨g,by rw[<-Aa I];rfl,av,ae,au,ai,af⟩
 . have I:vz (k=n):=Ab (by
    have:=Aa G
    cases k with
    |zero=>rw[Hj]at this;exact this
    |succ k=>rw[Hj,A0 (λh=>ag h.1)]at this;exact this)
   have ay:¬(E:Int)<k:=om;clear G;go_wp2;go_ret;exact⟨g,by rw[<-Aa I];rfl,av,ae,au,ai,af⟩
theorem IL{B:Nat}(av:Nat){S:List Bool}(E ao ar al F ak au ap:Nat)(ah U ai ae af ag:Nat)(W H:wd)(h:RIs No B O ac S)(bm:O.heap.size<=W.heap.size)(I:vx O.heap.size O H) (bi:CIs (λg=>W.heap.size<=g\/g=E\/g=F) H ah U ai ac (vp ⟨E,ao,vn⟩) ar al Z) (a3:CIs (λg=>W.heap.size<=g\/g=E\/g=F) H ae af ag ac (vp ⟨F,ak,vn⟩) au ap aj) (bf:No E\/O.heap.size<=E) (bb:No F\/O.heap.size<=F) (bd:Z.length=ar) (a5:aj.length=au) (bh:Good Z) (bc:Good aj) (a9:Has Z aj (itsOf ts)) (az:ts.length=G) (a7:G<=3000) (aw:∀t∈ts,VT t) (a6:TokIn O a ts) (a4:∀b o,a=vp ⟨b,o,vn⟩->ts≠ []->No b) (ax:∀g,O.heap.size<=g->¬No g) (bo:S.length+60*G<=280000):vu v8 181 #[va a G av,vf #[CV ah U ai,CV ae af ag,.func (.func 147) #[vc (vp ⟨ac,0,vn⟩)] #[]]] H λe w'=>e=vm (vd #[])/\Rp No B O ac (S++putIs Z aj (itsOf ts)) w':=by have bn:=I.size;have hi:=Gn ts;have bj:=h.lt;have bk:=h.base;have hK:=Z8r (λg=>(W.heap.size<=g\/g=E\/g=F)/\g<H.heap.size) B ac S ah U ai ae af ag E ao al F ak ap bd a5 bh bc a9 (Ld aw) om;(have ba:PJ (λg=>(W.heap.size<=g\/g=E\/g=F)/\g<H.heap.size) B ac S Z aj ah U ai ae af ag E ao ar al F ak au ap No [] H:=by refine⟨?_,bi.bound,a3.bound,λg aa=>aa.2⟩;(have e:S++putIs Z aj []=S:=by simp[putIs]);rw[e];refine h.grow I (λg e=> ?_);rcases e with e|⟨e|e|e,_⟩;exact .inl e;exact .inr om;rw[e];exact bf;rw[e];exact bb);refine(IM _ No B _ _ _ _ _ _ a G av ts H hK az a7 aw (a6.below I (VA _)) a4 om ba (λg aa=>ax g om)).mono ?_;rintro e w' ⟨rfl,ay,a8,bg⟩;refine⟨rfl,ay.row.grow (A2 _ _) (λg e=>.inl (.inl e)),(I.mono om).trans a8,λg aa hn=>(bg g om hn).trans (I.block g aa)⟩
theorem Z1h(F:∀t∈ts,VT t):Has Pu Lj (itsOf ts):=by have hi:=Ld F;refine⟨λk E=> ?_,λk E=> ?_⟩;(. have h:k<286:=hi _ E;refine⟨by rw[Nz];omega,?_⟩;rw[Z1k om];split;decide;. split;decide;. split<;>decide);have h:k<30:=hi _ E;exact⟨by rw[Fz];omega,by rw[EV om];decide⟩
theorem U9{B:Nat}(ap:Nat){S:List Bool}(h:RIs No B w ac S)(a6:ts.length=G)(ba:G<=3000)(aa:∀t∈ts,VT t)(ao:TokIn w a ts)(ak:∀b o,a=vp ⟨b,o,vn⟩->ts≠ []->No b)(ai:∀g,w.heap.size<=g->¬No g)(bh:S.length+60*G<=280000):vu v8 150 #[vc (vp ⟨ac,0,vn⟩),va a G ap] w λe w'=>e=vm (vd #[])/\Rp No B w ac (S++Ja ts) w':=by have a3:=Ab (λ(W w3:wd) (gc gl gr hc hl hr b1 b2:Nat) hz H F E hb1 hb2=>IL ap b1 0 288 288 b2 0 32 32 gc gl gr hc hl hr W w3 h hz H F E hb1 hb2 Nz Fz Ob Ny (Z1h aa) a6 ba aa ao ak ai bh);obtain⟨bv,af⟩:=exq (Pu);obtain⟨ix,ah⟩:=exq (Lj);have g4:=Nz;have j6:=Fz;have Z:=Ob;have ag:=Ny;have aj:=Ab (AK w);(have av:Ja ts=putIs bv ix (itsOf ts):=by unfold Ja;rw[af,ah]);rw[av];simp only[af,ah]at a3 aj g4 j6 Z ag;have bi:=Ab Z;have bf:=Ab ag;clear h aa ao ak ai af ah av Z ag;have a4:=dL;have a8:=nK;go_enter func150,ntmps150;go_wp2_with fail;refine aj.mono ?_;rintro e au ⟨rfl,U⟩;have a9:=U.size;have bd:=Ab U;clear U;have al:=cY;have ay:(((au.alloc (vl (iv (List.replicate 288 0)).toArray 247)).alloc (vl (iv (List.replicate 32 0)).toArray 248)).setRow au.heap.size (iv bv).toArray).heap[au.heap.size+1]? =vp (vl (iv (List.replicate 32 0)).toArray 248 (0,0)):=kF;obtain⟨ar,ax,b5⟩:=Bq al ay (λx y=>Kw w au x y 247 248 bv ix bd oS);clear al ay;go_upto_region 1 with (first|refine Ma rfl 247 (.tmp 4) (.tmp 8) rfl au.heap.size _ rfl rfl 247 (iv (List.replicate 288 0)).toArray ar a4 (by simp[g4]) (Dj bv) ?_|refine Ma rfl 248 (.tmp 5) (.tmp 9) rfl (au.heap.size+1) _ rfl rfl 248 (iv (List.replicate 32 0)).toArray ax a8 (by simp[j6]) (Dj ix) ?_);simp only[Act.put];generalize hw:World.setRow (World.setRow (World.alloc (World.alloc _ _) _) _ _) _ _=W2;have ae:=sG;have I:=rE;have O:=sN;have aw:=O.size;have bg:=Ab (λk=>Yh au.heap.size 0 288 288 (au.heap.size+1) 0 32 32 ac (W2.drewN k) g4 j6 od od ae.lt I.lt ae.row I.row bi bf);have bj:=Ab O;clear hw b5 ar ax ae I O;go_region_with (first|(go_at_call 182;refine(bg _).mono ?_;rintro e w3 ⟨gc,gl,gr,hc,hl,hr,rfl,F,E,H⟩;have a5:=Ab F;have bc:=Ab E;have a7:=Ab H;clear F E H)|(go_at_call 181;refine(a3 W2 w3 gc gl gr hc hl hr au.heap.size (au.heap.size+1) aw ((Ae bj _).trans (a7.mono aw)) a5 bc (.inr a9) (.inr om)).mono ?_;rintro e bk ⟨rfl,az⟩;have bb:=Ab az;clear az));(all_goals try go_wp2);(all_goals go_end0);all_goals exact⟨rfl,bb⟩
end Go.Proofs.YtleocpdblhbimaaGreatDoor
