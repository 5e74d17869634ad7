import Derived.Test.YtleocpdblhbimaaGreatDoorQ29
set_option linter.unusedSimpArgs false
set_option linter.unusedVariables false
set_option maxRecDepth 100000
namespace Go.Proofs.YtleocpdblhbimaaGreatDoor
open Go.RowKit
variable (l:List Int) (c:Nat->Nat) (m:Nat)
def Gx:List Nat->Nat
 | []=>0
 |x::xs=>x+Gx xs
theorem NH {xs ys:List Nat}(E:xs.Perm ys):Gx xs=Gx ys:=by
 induction E with
 |nil=>rfl
 |cons x _ ih=>rw[Gx,Gx,ih]
 |swap x y l=>simp only[Gx];omega
 |trans _ _ h1 h2=>exact h1.trans h2
theorem Z0s (P:List Nat)(f E:Nat->Nat):Gx (P.map f)+Gx (P.map E)=Gx (P.map fun p=>f p+E p):=by
 induction P with
 |nil=>rfl
 |cons p P ih=>simp only[WQ,Gx];omega
theorem FV (P:List Nat)(k:Nat):Gx (P.map fun _=>k)=P.length*k:=by
 induction P with
 |nil=>simp[Gx]
 |cons p P ih=>rw[WQ,Gx,ih,VJ,ZD];omega
theorem Z0r (P:List Nat)(f:Nat->Nat)(k:Nat):Gx (P.map fun p=>k*f p)=k*Gx (P.map f):=by
 induction P with
 |nil=>simp[Gx]
 |cons p P ih=>simp only[WQ,Gx];rw[ih,Nat.mul_add]
def up (d k:Nat):Nat:=if m-d<=k then 2^(d+1)-2^(m-k)else 0
theorem P6 {W:List Int}(F:Up W)(M:∀x∈W,0<x)(q t:Nat)(T:t<=(rowAt W (q+1)).length):Bz (rowAt W q) (2*(t-Bz (rowAt W (q+1)) t))<=Bz (rowAt W (q+1)) t:=by rcases ZQ (Bz (rowAt W (q+1)) t) (Bz (rowAt W q) (2*(t-Bz (rowAt W (q+1)) t)))with h|h;(. exfalso;have hb:=Ls _ _ T;rw[Dj,Gw]at hb;have U:=Gt (rowAt W q) (2*(t-Bz (rowAt W (q+1)) t));rw[Dj]at U;have G:=Lx W (Dl W q) (2*(t-Bz (rowAt W (q+1)) t));rw[<-Ew]at G;have aa:=Mw (rowAt W q) (2*(t-Bz (rowAt W (q+1)) t));have ac:=Yw W (Dl W (q+1)) t (Bz (rowAt W (q+1)) t) (t-Bz (rowAt W (q+1)) t-1) F (by rw[<-Ew];exact VB _) om (by rw[<-Ew];omega) (by rw[Dl,Eo,WL];omega);generalize Bz (rowAt W (q+1)) t=a at*;generalize ag:t-a=b at*;have H:W.getD a 0∈((rowAt W q).take (2*b)).map Prod.fst:=G.mem_iff.2 (List.mem_append_left _ (Hz h om));(have O:2*b-1<((rowAt W q).map Prod.fst).length:=by rw[WL];omega);(have Y:W.getD a 0<=((rowAt W q).map Prod.fst).getD (2*b-1) 0:=by rw[List.map_take]at H;obtain⟨i,hi,e⟩:=XI H;(have ah:i<2*b:=by simp at hi;omega);(have Z:i<((rowAt W q).map Prod.fst).length:=by simp at hi;simp;omega);have E:=Z27 (Xj W F q) (i:=i) (j:=2*b-1) om O;(have e2:((rowAt W q).map Prod.fst).getD i 0=(((rowAt W q).map Prod.fst).take (2*b))[i]:=by simp only[List.getD,VP Z,YH,YN]);rw[e2,e]at E;exact E);have af:(Dl W (q+1)).getD (b-1) 0=((rowAt W q).map Prod.fst).getD (2*(b-1)) 0+((rowAt W q).map Prod.fst).getD (2*(b-1)+1) 0:=Ow _ _ (by rw[WL];omega);have ae:0<((rowAt W q).map Prod.fst).getD (2*(b-1)) 0:=Lm W M q _ (by have I:2*(b-1)<((rowAt W q).map Prod.fst).length:=om;simp only[List.getD,VP I,YH];exact WK _);rw[show 2*b-1=2*(b-1)+1 by omega]at Y;omega);exact h
theorem Tx {W:List Int}{m:Nat}(I:Up W)(G:∀x∈W,0<x)(F:1<=W.length)(H:1<=m)(O:W.length<=2^m)(i:Nat)(U:i+1<m):Bi W m (i+1)<=Bi W m i:=by obtain⟨q,E⟩:∃q,m-1-i=q+1:=⟨m-1-i-1,om⟩;have T:m-1-(i+1)=q:=om;have M:=Lg W m F H O i om;have h:=P6 I G q (Cr W m i) (by rw[<-E];exact M);unfold Bi;rw[Qi,T,E];unfold Bi;rw[E];exact h
theorem Of {W:List Int}{m:Nat}(H:Up W)(G:∀x∈W,0<x)(E:1<=W.length)(F:1<=m)(I:W.length<=2^m):∀(k i:Nat),i+k<m->Bi W m (i+k)<=Bi W m i
 |0,i,_=>VB _
 |k+1,i,h=>VU (Tx H G E F I (i+k) om) (Of H G E F I k i om)
theorem Xq {P:List Nat}{p i j:Nat}(E:p∈P.take i)(F:i<=j):p∈P.take j:=by(have:P.take i=(P.take j).take i:=by rw[List.take_take,YP F]);rw[this]at E;exact VR E
theorem CS {W:List Int}{m:Nat}(H:Up W)(F:∀x∈W,0<x)(E:1<=W.length)(G:1<=m)(I:W.length<=2^m)(P:List Nat)(p:Nat)(i:Nat)(T:i<m)(O:p∈P.take (Bi W m i)):∀j,j<=i->J1 P W m p j=j
 |0,_=>rfl
 |j+1,hj=>by have M:=Of H F E G I (i-j) j om;rw[show j+(i-j)=i by omega]at M;rw[J1,CS H F E G I P p i T O j om,if_pos (Xq O M)]
def vk (P:List Nat)(W:List Int)(m i:Nat):Nat:=Gx (P.map fun p=>2^(m-J1 P W m p i))
theorem NG (P:List Nat)(M:P.Nodup)(a k:Nat)(O:a<=P.length):Gx (P.map fun p=>if p∈P.take a then k else 0)=a*k:=by
 have e:P=P.take a++P.drop a:=(YW a P).symm;have T:∀p∈P.drop a,p ∉ P.take a:=by intro p E h;have F:=M;rw[e]at F;exact(List.nodup_append.1 F).2.2 p h p E rfl
 have I:∀Q:List Nat,(∀p∈Q,p∈P.take a)->Gx (Q.map fun p=>if p∈P.take a then k else 0)=Q.length*k:=by
  intro Q
  induction Q with
  |nil=>intro _;simp[Gx]
  |cons q Q ih=>intro h;rw[WQ,Gx,if_pos (h q XP),ih (fun p E=>h p (WR _ E)),VJ,ZD];omega
 have F:∀Q:List Nat,(∀p∈Q,p ∉ P.take a)->Gx (Q.map fun p=>if p∈P.take a then k else 0)=0:=by
  intro Q
  induction Q with
  |nil=>intro _;rfl
  |cons q Q ih=>intro h;rw[WQ,Gx,if_neg (h q XP),ih (fun p E=>h p (WR _ E))]
 have G:∀A B:List Nat,Gx (A++B)=Gx A+Gx B:=by
  intro A B
  induction A with
  |nil=>simp[Gx]
  |cons x A ih=>rw[XL,Gx,Gx,ih];omega
 (have H:Gx (P.map fun p=>if p∈P.take a then k else 0)=Gx ((P.take a).map fun p=>if p∈P.take a then k else 0)+Gx ((P.drop a).map fun p=>if p∈P.take a then k else 0):=by rw[<-G,<-WU,YW]);rw[H,I _ (fun p E=>E),F _ T,VL,YP O,XN]
theorem Z38 {W:List Int}{m:Nat}(M:Up W)(H:∀x∈W,0<x)(E:1<=W.length)(I:1<=m)(O:W.length<=2^m)(P:List Nat)(G:P.Nodup)(T:W.length=P.length)(i:Nat)(F:i<m):vk P W m (i+1)+Bi W m i*2^(m-1-i)=vk P W m i:=by unfold vk;rw[<-NG P G (Bi W m i) (2^(m-1-i)) (by rw[<-T];exact Wh W m i),Z0s];congr 1;apply YR;intro p _;rw[J1];by_cases h:p∈P.take (Bi W m i);rw[if_pos h,if_pos h,CS M H E I O P p i F h i (VB _),show m-i=(m-1-i)+1 by omega,show m-(i+1)=m-1-i by omega,XC];omega;rw[if_neg h,if_neg h];rfl
def zk (W:List Int)(m:Nat):Nat->Nat
 |0=>0
 |i+1=>zk W m i+Bi W m i*2^(m-1-i)
theorem Z5z {W:List Int}{m:Nat}(I:Up W)(H:∀x∈W,0<x)(E:1<=W.length)(F:1<=m)(M:W.length<=2^m)(P:List Nat)(G:P.Nodup)(O:W.length=P.length):∀i,i<=m->vk P W m i+zk W m i=P.length*2^m
 |0,_=>by rw[zk,vk];simp only[J1,Nat.sub_zero];rw[FV,XN]
 |i+1,hi=>by have ih:=Z5z I H E F M P G O i om;have T:=Z38 I H E F M P G O i om;rw[zk];omega
theorem JU (W:List Int)(m:Nat)(F:1<=m):∀i,i<=m->2*zk W m i+Cr W m i*2^(m-i)=Cr W m 0*2^m
 |0,_=>by simp[zk]
 |i+1,hi=>by have ih:=JU W m F i om;have G:=Oe W m i;(have e:2^(m-i)=2*2^(m-1-i):=by rw[show m-i=(m-1-i)+1 by omega,XC,YF]);rw[zk,Qi,show m-(i+1)=m-1-i by omega,<-ih,e];obtain⟨d,E⟩:∃d,Cr W m i=Bi W m i+d:=⟨Cr W m i-Bi W m i,om⟩;rw[E,Nat.add_sub_cancel_left];generalize Bi W m i=a;generalize 2^(m-1-i)=z;generalize zk W m i=y;rw[ZW,Nat.mul_add,XY 2 d z,Nat.mul_left_comm a 2 z,Nat.mul_left_comm d 2 z];omega
theorem LE {W:List Int}{m:Nat}(G:1<=W.length)(H:1<=m)(F:W.length<=2^m):Cr W m m=0:=by obtain⟨q,rfl⟩:∃q,m=q+1:=⟨m-1,om⟩;have h:=Lg W (q+1) G H F q om;rw[show q+1-1-q=0 by omega]at h;have E:=Ls _ _ h;rw[Dj]at E;(have e:(rowAt W 0).length=W.length:=by rw[rowAt,Bo];simp);rw[e]at E;rw[Cr,show q+1-1-q=0 by omega];omega
theorem Z82 {W:List Int}{m:Nat}(T:Up W)(M:∀x∈W,0<x)(Y:2<=W.length)(E:1<=m)(F:W.length<=2^m)(P:List Nat)(O:P.Nodup)(G:W.length=P.length):vk P W m m=2^m:=by have U:=Z5z T M om E F P O G m (VB _);have I:=JU W m E m (VB _);rw[LE om E F,YJ,XN,Cr,XY]at I;(have Z:P.length*2^m=(W.length-1)*2^m+2^m:=by rw[<-G];obtain⟨q,H⟩:∃q,W.length=q+1:=⟨W.length-1,om⟩;rw[H,YA,ZD]);omega
theorem FY {l:List Int}{P:List Nat}{m:Nat}(F:GoodW l m)(E:RiseOf l P)(H:2<=P.length):Gx (P.map fun p=>2^(m-((Cs l P m).getD p 0).toNat))=2^m:=by have G:(P.map fun p=>l.getD p 0).length=P.length:=oS;have h:=Z82 E.up E.pos om F.lo (by rw[G,E.length];exact F.room) P E.nodup G;rw[<-h];unfold vk;congr 1;apply YR;intro p _;unfold Cs;rw[if_neg om,Kq _ _ _ _ _ E.nodup E.lt,WM]
theorem ML {G:Type}{R:G->G->Prop}(H:∀a b,R a b->R b a->False):∀(P Q:List G),P.Perm Q->P.Pairwise R->Q.Pairwise R->P=Q
 | [],Q,h,_,_=>by rw[List.nil_perm]at h;exact h.symm
 |p::P,[],h,_,_=>by have:=h.length_eq;simp at this
 |p::P,q::Q,h,hp,hq=>by rw[XH]at hp hq;(have e:p=q:=by have F:p∈q::Q:=h.mem_iff.1 XP;have E:q∈p::P:=h.mem_iff.2 XP;rcases WH.1 F with F|F;exact F;rcases WH.1 E with E|E;exact E.symm;exact absurd (hq.1 p F) (fun h=>H _ _ h (hp.1 q E)));subst e;rw[ML H P Q ((List.perm_cons p).1 h) hp.2 hq.2]
theorem RiseOf.one {l:List Int}{P Q:List Nat}(E:RiseOf l P)(k:RiseOf l Q):P=Q:=
 ML (R:=fun a b=>l.getD a 0<l.getD b 0\/ (l.getD a 0=l.getD b 0/\a<b)) (fun a b G F=>om) P Q (E.perm.trans k.perm.symm) E.srt k.srt
theorem MC {l:List Int}{P:List Nat}{m:Nat}(F:GoodW l m)(E:RiseOf l P)(U:2<=P.length):takenN (cnt (Cs l P m)) 15=32768:=by
 have aa:=F.hi;(have T:∀j,0<=(Cs l P m).getD j 0/\(Cs l P m).getD j 0<=15:=fun j=>by have:=Xt F E j;omega);have G:=Ht (Cs l P m) (fun j _=>T j) (Cs l P m).length (VB _);rw[ZK,Ia]at G;rw[<-G];have H:=FY F E U
 have M:∀A B:List Nat,Gx (A++B)=Gx A+Gx B:=by
  intro A B
  induction A with
  |nil=>simp[Gx]
  |cons x A ih=>rw[XL,Gx,Gx,ih];omega
 have O:∀k,k<=l.length->Kl (Cs l P m) k=Gx ((wpl l k).map fun p=>2^(15-((Cs l P m).getD p 0).toNat)):=by
  intro k
  induction k with
  |zero=>intro _;rfl
  |succ k ih=>intro H;rw[wpl,WU,M,Kl,ih om];have I:=Xt F E k;by_cases h:0<l.getD k 0;rw[if_pos h,if_pos (I.2.2.2 ((E.mem k).2 ⟨om,h⟩))];simp[Gx];rw[if_neg h,if_neg (fun Y=>h ((E.mem k).1 (I.2.2.1 Y)).2)];simp[Gx]
 rw[O l.length (VB _),<-NH (E.perm.map _)];(have e:(P.map fun p=>2^(15-((Cs l P m).getD p 0).toNat))=P.map fun p=>2^(15-m)*2^(m-((Cs l P m).getD p 0).toNat):=by apply YR;intro p Z;have:=Xt F E p;rw[<-Nat.pow_add];congr 1;omega);rw[e,Z0r,H,<-Nat.pow_add,show 15-m+m=15 by omega]
theorem Pp (l:List Int)(E:Good l)(q:Nat):(codeT l q).length=(l.getD q 0).toNat:=by unfold codeT;rw[Bd]
def Z6n (n:Nat):Bool:=decide (257<=(De n).1/\(De n).1<=285/\(samesL.getD ((De n).1-257) (0,0)).2=(De n).2.2/\(samesL.getD ((De n).1-257) (0,0)).1+(De n).2.1=n/\(De n).2.1<2^(De n).2.2/\(De n).2.2<=5/\(n<=10->(De n).2.2=0))
def Z8d (d:Nat):Bool:=decide ((Mn d).1<=29/\(farsL.getD (Mn d).1 (0,0)).2=(Mn d).2.2/\(farsL.getD (Mn d).1 (0,0)).1+(Mn d).2.1=d/\(Mn d).2.1<2^(Mn d).2.2/\(Mn d).2.2<=10)
theorem Z11:(List.range 256).all (fun n=>Z6n (n+3))=true:=by decide+kernel
theorem Z55:(List.range 3000).all (fun d=>Z8d (d+1))=true:=by decide+kernel
theorem Z4o {n:Nat}(E:3<=n)(F:n<=258):257<=(De n).1/\(De n).1<=285/\(samesL.getD ((De n).1-257) (0,0)).2=(De n).2.2/\(samesL.getD ((De n).1-257) (0,0)).1+(De n).2.1=n/\(De n).2.1<2^(De n).2.2/\(De n).2.2<=5/\(n<=10->(De n).2.2=0):=by have:=WX.1 Z11 (n-3) oO;rw[show n-3+3=n by omega]at this;exact of_decide_eq_true this
theorem Z74 {d:Nat}(E:1<=d)(F:d<=3000):(Mn d).1<=29/\(farsL.getD (Mn d).1 (0,0)).2=(Mn d).2.2/\(farsL.getD (Mn d).1 (0,0)).1+(Mn d).2.1=d/\(Mn d).2.1<2^(Mn d).2.2/\(Mn d).2.2<=10:=by have:=WX.1 Z55 (d-1) oO;rw[show d-1+1=d by omega]at this;exact of_decide_eq_true this
def Has (a b:List Int)(is:List It):Prop:=(∀k,It.sym k∈is->k<a.length/\0<a.getD k 0)/\(∀k,It.far k∈is->k<b.length/\0<b.getD k 0)
theorem Has.app {a b:List Int}{x y:List It}(F:Has a b (x++y)):Has a b x/\Has a b y:=
 ⟨⟨fun k E=>F.1 k (by simp[E]),fun k E=>F.2 k (by simp[E])⟩,⟨fun k E=>F.1 k (by simp[E]),fun k E=>F.2 k (by simp[E])⟩⟩
theorem MF (a b:List Int)(x y:List It):putIs a b (x++y)=putIs a b x++putIs a b y:=by simp[putIs]
def HasR (own:List Int)(is:List (Nat×Nat×Nat)):Prop:=∀i∈is,i.1<own.length/\0<own.getD i.1 0
theorem Lo (E:List Int)(F:Good E)(i:Nat×Nat×Nat):(Z40 E i).length=(codeT E i.1).length+i.2.2:=by unfold Z40;rw[VE,Ah]
theorem Hg (E:List Int)(i:Nat×Nat×Nat)(is:List (Nat×Nat×Nat)):putRs E (i::is)=Z40 E i++putRs E is:=by simp[putRs]
theorem Qx (E:List Int)(x y:List (Nat×Nat×Nat)):putRs E (x++y)=putRs E x++putRs E y:=by simp[putRs]
theorem Ye (x:Int):∀r:List Int,Cp x r<=r.length
 | []=>VB _
 |y::r=>by rw[Cp];have:=Ye x r;split<;>simp<;>omega
theorem Z5i (xs:List Int)(p j:Nat):(Tb xs p).getD j 0=xs.getD j 0+(if j=p/\p<xs.length then 1 else 0):=by unfold Tb;by_cases e:j=p;subst e;by_cases h:j<xs.length;simp[List.getD,h];simp[List.getD,h];simp only[List.getD];rw[List.getElem?_set_ne (Ne.symm e),if_neg (fun h=>e h.1)];omega
theorem Gs:∀(E:List Nat) (xs:List Int) (j:Nat),j<xs.length->(Cq xs E).getD j 0=xs.getD j 0+(E.count j:Nat)
 | [],xs,j,h=>by simp[Cq]
 |p::E,xs,j,h=>by show (Cq (Tb xs p) E).getD j 0=_;rw[Gs E _ j (by rw[Kw];exact h),Z5i,List.count_cons];by_cases e:j=p;subst e;simp[h];omega;have e2:¬p=j:=fun h=>e h.symm;simp[e,e2]
theorem Iv (n j:Nat):(List.replicate n (0:Int)).getD j 0=0:=by by_cases h:j<n<;>simp[List.getD,h]
theorem Nt (n m:Nat)(E:List Nat)(I:n<=288)(H:E.length<=1000000)(F:1<=m)(G:m<=15)(M:n<=2^m):GoodW (Cq (List.replicate n 0) E) m:=by(have hl:(Cq (List.replicate n (0:Int)) E).length=n:=by rw[Ca];simp);refine⟨om, ?_,F,G, ?_⟩;intro j O;rw[Gs E _ j oO,Iv];have:=YI (a:=j) (l:=E);omega;have:=Pt (Cq (List.replicate n 0) E) (Cq (List.replicate n (0:Int)) E).length;omega
theorem Z15 {l:List Int}{m:Nat}{s:List Int}(E:IsLens l m s):lensD l m=s:=by have G:IsLens l m (lensD l m):=Classical.epsilon_spec (p:=fun s=>IsLens l m s) ⟨s,E⟩;obtain⟨P,F,e⟩:=E;obtain⟨Q,H,e2⟩:=G;rw[e2,e,F.one H]
theorem Jd {l:List Int}{m:Nat}{s:List Int}(H:GoodW l m)(Y:IsLens l m s):Good s/\s.length=l.length/\(∀p,0<=s.getD p 0/\s.getD p 0<=m)/\∀p,p<l.length->0<l.getD p 0->0<s.getD p 0:=by
 obtain⟨P,E,rfl⟩:=Y;have U:=Ia l P m;have hl:=H.len;have aa:=H.hi;have F:=Xt H E;refine⟨⟨om,fun j ac=>by have:=F j;omega, ?_⟩,U,fun p=>⟨(F p).1,(F p).2.1⟩,fun p I G=>(F p).2.2.2 ((E.mem p).2 ⟨I,G⟩)⟩;by_cases hn:2<=P.length;rw[MC H E hn];exact VB _
 . have G:=Ht (Cs l P m) (fun j _=>by have:=F j;omega) (Cs l P m).length (VB _);rw[ZK,Ia]at G;rw[<-G]
   have T:∀k,k<=l.length->Kl (Cs l P m) k<=(wpl l k).length*16384:=by
    intro k
    induction k with
    |zero=>intro _;exact VB _
    |succ k ih=>intro Z;have:=ih om;rw[wpl,VE,Kl];have O:=F k;by_cases h:0<l.getD k 0;have I:=O.2.2.2 ((E.mem k).2 ⟨om,h⟩);rw[if_pos h,if_pos I];have:2^(15-((Cs l P m).getD k 0).toNat)<=2^14:=VO od om;simp only[VJ,WE];omega;rw[if_neg h,if_neg (fun M=>h ((E.mem k).1 (O.2.2.1 M)).2)];simp only[WE];omega
   have M:=T l.length (VB _);rw[<-E.length]at M;omega
theorem Ju (l:List Int)(E:Nat):∀n,Gu l E n<=n
 |0=>VB _
 |n+1=>by rw[Gu];have:=Ju l E n;split<;>omega
theorem Wy (l:List Int)(E:Nat):∀n,E<=n->E<=Gu l E n
 |0,h=>h
 |n+1,h=>by rw[Gu];by_cases e:E<n+1/\l.getD n 0=0;rw[if_pos e];exact Wy l E n om;rw[if_neg e];exact h
theorem Ul (l:List Int)(E:Nat):∀n j,Gu l E n<=j->j<n->l.getD j 0=0
 |0,j,h1,h2=>om
 |n+1,j,h1,h2=>by rw[Gu]at h1;by_cases e:E<n+1/\l.getD n 0=0;rw[if_pos e]at h1;by_cases e2:j=n;subst e2;exact e.2;exact Ul l E n j h1 om;rw[if_neg e]at h1;omega
theorem Cg (l:List Int)(E:Nat):(trimL l E).length=Gu l E l.length:=by have:=Ju l E l.length;simp[trimL];omega
theorem Oo (l:List Int)(E k:Nat):(trimL l E).getD k 0=l.getD k 0:=by have hl:=Cg l E;by_cases h:k<Gu l E l.length;simp only[trimL,List.getD];rw[XX h];(have G:(trimL l E).getD k 0=0:=by simp only[List.getD];rw[WJ om];rfl);rw[G];by_cases F:k<l.length;exact(Ul l E l.length k om F).symm;simp only[List.getD];rw[WJ om];rfl
theorem Qh {c d:Nat->Nat}(E:∀n,c n<=d n):∀k,takenN c k<=takenN d k
 |0=>VB _
 |k+1=>by rw[takenN,takenN];have G:=Qh E k;have F:=YZ (2^(14-k)) (E (k+1));omega
theorem Zr {l:List Int}(E:Good l)(F:Nat):Good (trimL l F):=by have hl:=Cg l F;have H:=Ju l F l.length;refine⟨by have:=E.len;omega,fun j G=>by rw[Oo];exact E.ok j om, ?_⟩;refine VU (Qh (fun n=> ?_) 15) E.room;unfold cnt trimL;exact(List.take_sublist _ _).count_le _
def VT (t:Tk):Prop:=t.1<256/\(t.2.1=0\/ (3<=t.2.1/\t.2.1<=258/\1<=t.2.2/\t.2.2<=3000))
theorem DP:∀(ts:List Tk) (n:Nat),JS ts n=0->∀t∈ts,∃k,k<=3000/\Hn t k=0
 | [],n,h,t,E=>by cases E
 |t0::ts,n,h,t,E=>by(have F:Hn t0 n=0:=by rw[JS]at h;by_cases e:Hn t0 n=0;exact e;rw[if_neg e]at h;exact absurd h e);rw[JS,if_pos F]at h;have G:=QT h;rcases WH.1 E with rfl|E;exact⟨n,om,F⟩;exact DP ts _ h t E
theorem KU (bs:List Nat):∀m k,∀t∈tks bs m k,∃j,t=Qd bs j
 |0,k,t,E=>by cases E
 |m+1,k,t,E=>by rw[tks]at E;by_cases h:k<bs.length;rw[if_pos h]at E;rcases WH.1 E with rfl|E;exact⟨k,rfl⟩;exact KU bs m _ t E;. rw[if_neg h]at E;cases E
theorem TL (bs:List Nat)(E:bs.length<=3000):JS (Gi bs) 0=0:=KW bs E bs.length 0 (VH _)
theorem Wz {bs:List Nat}(I:∀j,bs.getD j 0<256)(M:bs.length<=3000):∀t∈Gi bs,VT t:=by intro t E;obtain⟨j,rfl⟩:=KU bs _ _ t E;obtain⟨k,O,F⟩:=DP _ _ (TL bs M) _ E;refine⟨Z3f I j, ?_⟩;(rcases Jk F with ⟨H,_⟩|⟨_,e2,e3,G,T⟩);exact .inl H;exact .inr ⟨e2,e3,G,om⟩
def VI:It->Prop
 | .sym k=>k<286
 | .far k=>k<30
 | .rest n s=>n<2^s/\s<=10
theorem Z4v {t:Tk}(I:VT t):∀i∈GF t,VI i:=by obtain⟨aa,F⟩:=I;intro i hi;unfold GF at hi;rcases F with e|⟨Y,e2,e3,U⟩;rw[if_pos e]at hi;simp only[WH,XE,or_false]at hi;subst hi;show t.1<286;omega;rw[if_neg om]at hi;obtain⟨m1,m2,O,T,E,Z,_⟩:=Z4o (n:=t.2.1.toNat) om om;obtain⟨f1,f2,M,G,H⟩:=Z74 (d:=t.2.2.toNat) om om;simp only[WH,XE,or_false]at hi;rcases hi with rfl|rfl|rfl|rfl;show _<286;omega;exact⟨E,om⟩;show _<30;omega;exact⟨G,H⟩
theorem Ka {ts:List Tk}(E:∀t∈ts,VT t):∀i∈itsOf ts,VI i:=by intro i hi;unfold itsOf Tp at hi;rcases WP.1 hi with hi|hi;obtain⟨t,F,hi⟩:=List.mem_flatMap.1 hi;exact Z4v (E t F) i hi;simp only[WH,XE,or_false]at hi;subst hi;show 256<286;decide
theorem Z1a (t:Tk):(GF t).length<=4:=by unfold GF;split<;>simp
theorem Gb:∀ts:List Tk,(itsOf ts).length<=4*ts.length+1
 | []=>by simp[itsOf,Tp]
 |t::ts=>by(have e:itsOf (t::ts)=GF t++itsOf ts:=by simp[itsOf,Tp]);have:=Gb ts;have:=Z1a t;rw[e,VE,VJ];omega
theorem Z0x {is:List It}{k:Nat}:k∈TR is↔It.sym k∈is:=by
 unfold TR;rw[List.mem_filterMap];constructor
 . rintro ⟨i,F,E⟩
   cases i with
   |sym q=>simp at E;subst E;exact F
   |far q=>simp at E
   |rest a b=>simp at E
 intro h;exact⟨_,h,rfl⟩
theorem Z0y {is:List It}{k:Nat}:k∈Z1m is↔It.far k∈is:=by
 unfold Z1m;rw[List.mem_filterMap];constructor
 . rintro ⟨i,F,E⟩
   cases i with
   |far q=>simp at E;subst E;exact F
   |sym q=>simp at E
   |rest a b=>simp at E
 intro h;exact⟨_,h,rfl⟩
structure Dyn (ts:List Tk)(a b:List Int):Prop where
 ga:Good a
 gb:Good b
 la:257<=a.length
 la2:a.length<=286
 lb:1<=b.length
 lb2:b.length<=30
 has:Has a b (itsOf ts)
 end':0<a.getD 256 0
theorem Rx {l:List Int}{k:Nat}(E:0<l.getD k 0):k<l.length:=by rcases ZQ k l.length with e|e;exact e;simp only[List.getD]at E;rw[WJ e]at E;simp at E
theorem A5 {ts:List Tk}(E:ts.length<=3000):GoodW (symC (itsOf ts)) 15:=by refine Nt 286 15 _ od ?_ od od od;have F:=Gb ts;unfold TR;exact VU (ZB _ _) om
theorem L9 {ts:List Tk}(E:ts.length<=3000):GoodW (farC (itsOf ts)) 15:=by refine Nt 30 15 _ od ?_ od od od;have F:=Gb ts;unfold Z1m;exact VU (ZB _ _) om
theorem Li (is:List It):(symC is).length=286:=by unfold symC;rw[Ca];simp
theorem Mo (is:List It):(farC is).length=30:=by unfold farC;rw[Ca];simp
theorem TT {is:List It}{k:Nat}(E:k<286)(F:It.sym k∈is):0<(symC is).getD k 0:=by unfold symC;rw[Gs _ _ k (by simpa using E),Iv];have:=List.count_pos_iff.2 (Z0x.2 F);omega
theorem Z1o {is:List It}{k:Nat}(E:k<30)(F:It.far k∈is):0<(farC is).getD k 0:=by unfold farC;rw[Gs _ _ k (by simpa using E),Iv];have:=List.count_pos_iff.2 (Z0y.2 F);omega
theorem Z76 {ts:List Tk}{s f:List Int}(Z:∀t∈ts,VT t)(O:ts.length<=3000)(ac:IsLens (symC (itsOf ts)) 15 s)(ae:IsLens (farC (itsOf ts)) 15 f):Dyn ts (trimL s 257) (trimL f 1):=by obtain⟨g1,l1,ag,T⟩:=Jd (A5 O) ac;obtain⟨g2,l2,af,I⟩:=Jd (L9 O) ae;rw[Li]at l1 T;rw[Mo]at l2 I;have hi:=Ka Z;(have H:∀k,It.sym k∈itsOf ts->k<(trimL s 257).length/\0<(trimL s 257).getD k 0:=by intro k E;have G:k<286:=hi _ E;(have F:0<(trimL s 257).getD k 0:=by rw[Oo];exact T k G (TT G E));exact⟨Rx F,F⟩);(have aa:∀k,It.far k∈itsOf ts->k<(trimL f 1).length/\0<(trimL f 1).getD k 0:=by intro k E;have M:k<30:=hi _ E;(have F:0<(trimL f 1).getD k 0:=by rw[Oo];exact I k M (Z1o M E));exact⟨Rx F,F⟩);have Y:=Wy s 257 s.length om;have ai:=Ju s 257 s.length;have U:=Wy f 1 f.length om;have ah:=Ju f 1 f.length;refine⟨Zr g1 257,Zr g2 1, ?_, ?_, ?_, ?_,⟨H,aa⟩,(H 256 (by simp[itsOf])).2⟩;rw[Cg];exact Y;rw[Cg];omega;rw[Cg];exact U;rw[Cg];omega
theorem Xg (x:Nat)(E:x<=15):∀f m,∀i∈He x f m,i.1<19
 |0,m,i,h=>by cases h
 |f+1,m,i,h=>by rw[He]at h;have ih:=Xg x E f;split at h;(. cases h);. split at h;rcases WH.1 h with rfl|h;simp only;omega;exact ih _ i h;. split at h;rcases WH.1 h with rfl|h;show 16<19;decide;exact ih _ i h;. split at h;rcases WH.1 h with rfl|h;show 17<19;decide;exact ih _ i h;rcases WH.1 h with rfl|h;show 18<19;decide;exact ih _ i h
theorem Z04 (x m:Nat)(E:x<=15):∀i∈Qt x m,i.1<19:=by intro i h;unfold Qt at h;split at h;rcases WH.1 h with rfl|h;simp only;omega;exact Xg x E _ _ i h;exact Xg x E _ _ i h
theorem Xu:∀(f:Nat) (l:List Int),(∀x∈l,0<=x/\x<=15)->∀i∈Xv f l,i.1<19
 |0,l,h,i,hi=>by cases hi
 |f+1,[],h,i,hi=>by cases hi
 |f+1,x::r,h,i,hi=>by have e:Xv (f+1) (x::r)=Qt x.toNat (Cp x r+1)++Xv f (r.drop (Cp x r)):=rfl;rw[e]at hi;rcases WP.1 hi with hi|hi;exact Z04 _ _ (oI (h x oS)) i hi;exact Xu f _ (fun y E=>h y (by simp[VW E])) i hi
theorem Qs (E:List Int)(F:Good E)(G:∀k,E.getD k 0<=7)(x:Nat):∀f m,(putRs E (He x f m)).length<=7*m/\(He x f m).length<=m
 |0,m=>by rw[He];exact⟨VH _,VH _⟩
 |f+1,m=>by(have hc:∀k,(codeT E k).length<=7:=fun k=>by rw[Pp E F];have:=G k;omega);have ih:=Qs E F G x f;rw[He];split;exact⟨VH _,VH _⟩;. split;have:=ih (m-1);have:=hc x;rw[Hg,VE,Lo E F,VJ];simp only;omega;. split;have:=ih (m-min m 6);have:=hc 16;rw[Hg,VE,Lo E F,VJ];simp only;omega;. split;have:=ih 0;have:=hc 17;rw[Hg,VE,Lo E F,VJ];simp only;omega;have:=ih (m-min m 138);have:=hc 18;rw[Hg,VE,Lo E F,VJ];simp only;omega
theorem LV (E:List Int)(F:Good E)(G:∀k,E.getD k 0<=7)(x m:Nat)(H:1<=m):(putRs E (Qt x m)).length<=7*m/\(Qt x m).length<=m:=by(have hc:∀k,(codeT E k).length<=7:=fun k=>by rw[Pp E F];have:=G k;omega);unfold Qt;split;have:=Qs E F G x m (m-1);have:=hc x;rw[Hg,VE,Lo E F,VJ];simp only;omega;exact Qs E F G x m m
theorem Lz (E:List Int)(G:Good E)(F:∀k,E.getD k 0<=7):∀(f:Nat) (l:List Int),(putRs E (Xv f l)).length<=7*l.length/\(Xv f l).length<=l.length
 |0,l=>by rw[Xv];exact⟨VH _,VH _⟩
 |f+1,[]=>⟨VH _,VH _⟩
 |f+1,x::r=>by have e:Xv (f+1) (x::r)=Qt x.toNat (Cp x r+1)++Xv f (r.drop (Cp x r)):=rfl;have M:=LV E G F x.toNat (Cp x r+1) om;have H:=Lz E G F f (r.drop (Cp x r));have I:=Ye x r;rw[VQ]at H;rw[e,Qx,VE,VE,VJ];omega
theorem PA:Good (List.replicate 19 0):=by refine Ch ?_;decide+kernel
theorem F5 (E:List Int):(lenIs E).length<=E.length:=(Lz (List.replicate 19 0) PA (fun k=>by rw[Iv];decide) _ E).2
structure Own (all own:List Int):Prop where
 go:Good own
 lo:own.length=19
 vo:∀k,0<=own.getD k 0/\own.getD k 0<=7
 has:HasR own (lenIs all)
theorem C0 {E:List Int}(F:E.length<=1000):GoodW (Yz (lenIs E)) 7:=by refine Nt 19 7 _ od ?_ od od od;have:=F5 E;simp;omega
theorem Ov (is:List (Nat×Nat×Nat)):(Yz is).length=19:=by unfold Yz;rw[Ca];simp
theorem Z6g {E G:List Int}(O:E.length<=1000)(T:∀x∈E,0<=x/\x<=15)(M:IsLens (Yz (lenIs E)) 7 G):Own E G:=by obtain⟨g1,l1,I,H⟩:=Jd (C0 O) M;rw[Ov]at l1 H;refine⟨g1,l1,fun k=> ?_, ?_⟩;have:=I k;simpa using this;intro i hi;have F:=Xu _ E T i hi;refine⟨om,H i.1 F ?_⟩;unfold Yz;rw[Gs _ _ i.1 (by simpa using F),Iv];have:=List.count_pos_iff.2 (XG.2 ⟨i,hi,rfl⟩:i.1∈(lenIs E).map Prod.fst);omega
theorem CY {l:List Int}(F:Good l):∀x∈l,0<=x/\x<=15:=by intro x hm;obtain⟨j,E,rfl⟩:=XI hm;have:=F.ok j E;simpa[List.getD,E]using this
end Go.Proofs.YtleocpdblhbimaaGreatDoor
