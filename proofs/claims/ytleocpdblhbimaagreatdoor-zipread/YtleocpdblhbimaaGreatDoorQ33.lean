import Derived.Test.YtleocpdblhbimaaGreatDoorQ32
set_option linter.unusedSimpArgs false
namespace Go.Proofs.YtleocpdblhbimaaGreatDoor
open Go.RowKit
set_option linter.unusedVariables false
theorem P6 {W:List Int}(hW:Up W)(hp:∀x∈W,0<x)(q t:Nat)(ht:t<=(rowAt W (q+1)).length):Bz (rowAt W q) (2*(t-Bz (rowAt W (q+1)) t))<=Bz (rowAt W (q+1)) t:=by
 rcases ZQ (Bz (rowAt W (q+1)) t) (Bz (rowAt W q) (2*(t-Bz (rowAt W (q+1)) t)))with h|h
 . exfalso
   have hb:=Ls _ _ ht;rw[Dj,Gw]at hb;have ha':=Gt (rowAt W q) (2*(t-Bz (rowAt W (q+1)) t));rw[Dj]at ha';have hperm:=Lx W (Dl W q) (2*(t-Bz (rowAt W (q+1)) t));rw[<-Ew]at hperm;have hle:=Mw (rowAt W q) (2*(t-Bz (rowAt W (q+1)) t));have hbh:=Yw W (Dl W (q+1)) t (Bz (rowAt W (q+1)) t) (t-Bz (rowAt W (q+1)) t-1) hW (by rw[<-Ew];exact VB _) (by omega) (by rw[<-Ew];omega) (by rw[Dl,Eo,WL];omega);generalize Bz (rowAt W (q+1)) t=a at*;generalize hB:t-a=b at*;have hmem:W.getD a 0∈((rowAt W q).take (2*b)).map Prod.fst:=hperm.mem_iff.2 (List.mem_append_left _ (Hz h (by omega)));have hL:2*b-1<((rowAt W q).map Prod.fst).length:=by rw[WL];omega
   have hlast:W.getD a 0<=((rowAt W q).map Prod.fst).getD (2*b-1) 0:=by
    rw[List.map_take]at hmem;obtain⟨i,hi,e⟩:=XI hmem;have hi2:i<2*b:=by simp at hi;omega
    have hi3:i<((rowAt W q).map Prod.fst).length:=by simp at hi;simp;omega
    have h1:=Z27 (Xj W hW q) (i:=i) (j:=2*b-1) (by omega) hL;have e2:((rowAt W q).map Prod.fst).getD i 0=(((rowAt W q).map Prod.fst).take (2*b))[i]:=by simp only[List.getD,VP hi3,YH,YN]
    rw[e2,e]at h1;exact h1
   have hg:(Dl W (q+1)).getD (b-1) 0=((rowAt W q).map Prod.fst).getD (2*(b-1)) 0+((rowAt W q).map Prod.fst).getD (2*(b-1)+1) 0:=Ow _ _ (by rw[WL];omega)
   have hpos:0<((rowAt W q).map Prod.fst).getD (2*(b-1)) 0:=Lm W hp q _ (by
    have h3:2*(b-1)<((rowAt W q).map Prod.fst).length:=by omega
    simp only[List.getD,VP h3,YH];exact WK _)
   rw[show 2*b-1=2*(b-1)+1 by omega]at hlast;omega
 . exact h
theorem Tx {W:List Int}{m:Nat}(hW:Up W)(hp:∀x∈W,0<x)(h1:1<=W.length)(hm:1<=m)(hr:W.length<=2^m)(i:Nat)(hi:i+1<m):Bi W m (i+1)<=Bi W m i:=by
 obtain⟨q,hq⟩:∃q,m-1-i=q+1:=⟨m-1-i-1,by omega⟩
 have hq2:m-1-(i+1)=q:=by omega
 have ht:=Lg W m h1 hm hr i (by omega);have h:=P6 hW hp q (Cr W m i) (by rw[<-hq];exact ht);unfold Bi;rw[Qi,hq2,hq];unfold Bi;rw[hq];exact h
theorem Of {W:List Int}{m:Nat}(hW:Up W)(hp:∀x∈W,0<x)(h1:1<=W.length)(hm:1<=m)(hr:W.length<=2^m):∀(k i:Nat),i+k<m->Bi W m (i+k)<=Bi W m i
 |0,i,_=>VB _
 |k+1,i,h=>VU (Tx hW hp h1 hm hr (i+k) (by omega)) (Of hW hp h1 hm hr k i (by omega))
theorem Xq {P:List Nat}{p i j:Nat}(h:p∈P.take i)(hij:i<=j):p∈P.take j:=by
 have:P.take i=(P.take j).take i:=by rw[List.take_take,YP hij]
 rw[this]at h;exact VR h
theorem CS {W:List Int}{m:Nat}(hW:Up W)(hp:∀x∈W,0<x)(h1:1<=W.length)(hm:1<=m)(hr:W.length<=2^m)(P:List Nat)(p:Nat)(i:Nat)(hi:i<m)(h:p∈P.take (Bi W m i)):∀j,j<=i->J1 P W m p j=j
 |0,_=>rfl
 |j+1,hj=>by
  have ha:=Of hW hp h1 hm hr (i-j) j (by omega);rw[show j+(i-j)=i by omega]at ha;rw[J1,CS hW hp h1 hm hr P p i hi h j (by omega),if_pos (Xq h ha)]
def vk (P:List Nat)(W:List Int)(m i:Nat):Nat:=Gx (P.map fun p=>2^(m-J1 P W m p i))
theorem NG (P:List Nat)(hn:P.Nodup)(a k:Nat)(ha:a<=P.length):Gx (P.map fun p=>if p∈P.take a then k else 0)=a*k:=by
 have e:P=P.take a++P.drop a:=(YW a P).symm
 have hd:∀p∈P.drop a,p ∉ P.take a:=by
  intro p hp h;have h2:=hn;rw[e]at h2;exact(List.nodup_append.1 h2).2.2 p h p hp rfl
 have h1:∀Q:List Nat,(∀p∈Q,p∈P.take a)->Gx (Q.map fun p=>if p∈P.take a then k else 0)=Q.length*k:=by
  intro Q
  induction Q with
  |nil=>intro _;simp[Gx]
  |cons q Q ih=>
   intro h;rw[WQ,Gx,if_pos (h q XP),ih (fun p hp=>h p (WR _ hp)),VJ,ZD];omega
 have h2:∀Q:List Nat,(∀p∈Q,p ∉ P.take a)->Gx (Q.map fun p=>if p∈P.take a then k else 0)=0:=by
  intro Q
  induction Q with
  |nil=>intro _;rfl
  |cons q Q ih=>
   intro h;rw[WQ,Gx,if_neg (h q XP),ih (fun p hp=>h p (WR _ hp))]
 have h3:∀A B:List Nat,Gx (A++B)=Gx A+Gx B:=by
  intro A B
  induction A with
  |nil=>simp[Gx]
  |cons x A ih=>rw[XL,Gx,Gx,ih];omega
 have h4:Gx (P.map fun p=>if p∈P.take a then k else 0)=Gx ((P.take a).map fun p=>if p∈P.take a then k else 0)+Gx ((P.drop a).map fun p=>if p∈P.take a then k else 0):=by
  rw[<-h3,<-WU,YW]
 rw[h4,h1 _ (fun p hp=>hp),h2 _ hd,VL,YP ha,XN]
theorem Z38 {W:List Int}{m:Nat}(hW:Up W)(hp:∀x∈W,0<x)(h1:1<=W.length)(hm:1<=m)(hr:W.length<=2^m)(P:List Nat)(hn:P.Nodup)(hl:W.length=P.length)(i:Nat)(hi:i<m):vk P W m (i+1)+Bi W m i*2^(m-1-i)=vk P W m i:=by
 unfold vk;rw[<-NG P hn (Bi W m i) (2^(m-1-i)) (by rw[<-hl];exact Wh W m i),Z0s]
 congr 1
 apply YR
 intro p _;rw[J1]
 by_cases h:p∈P.take (Bi W m i)
 . rw[if_pos h,if_pos h,CS hW hp h1 hm hr P p i hi h i (VB _),show m-i=(m-1-i)+1 by omega,show m-(i+1)=m-1-i by omega,XC];omega
 . rw[if_neg h,if_neg h];rfl
def zk (W:List Int)(m:Nat):Nat->Nat
 |0=>0
 |i+1=>zk W m i+Bi W m i*2^(m-1-i)
theorem Z5z {W:List Int}{m:Nat}(hW:Up W)(hp:∀x∈W,0<x)(h1:1<=W.length)(hm:1<=m)(hr:W.length<=2^m)(P:List Nat)(hn:P.Nodup)(hl:W.length=P.length):∀i,i<=m->vk P W m i+zk W m i=P.length*2^m
 |0,_=>by
  rw[zk,vk];simp only[J1,Nat.sub_zero];rw[FV,XN]
 |i+1,hi=>by
  have ih:=Z5z hW hp h1 hm hr P hn hl i (by omega);have hs:=Z38 hW hp h1 hm hr P hn hl i (by omega);rw[zk];omega
theorem JU (W:List Int)(m:Nat)(hm:1<=m):∀i,i<=m->2*zk W m i+Cr W m i*2^(m-i)=Cr W m 0*2^m
 |0,_=>by simp[zk]
 |i+1,hi=>by
  have ih:=JU W m hm i (by omega);have ha:=Oe W m i;have e:2^(m-i)=2*2^(m-1-i):=by rw[show m-i=(m-1-i)+1 by omega,XC,YF]
  rw[zk,Qi,show m-(i+1)=m-1-i by omega,<-ih,e];obtain⟨d,hd⟩:∃d,Cr W m i=Bi W m i+d:=⟨Cr W m i-Bi W m i,by omega⟩
  rw[hd,Nat.add_sub_cancel_left];generalize Bi W m i=a;generalize 2^(m-1-i)=z;generalize zk W m i=y;rw[ZW,Nat.mul_add,XY 2 d z,Nat.mul_left_comm a 2 z,Nat.mul_left_comm d 2 z];omega
theorem LE {W:List Int}{m:Nat}(h1:1<=W.length)(hm:1<=m)(hr:W.length<=2^m):Cr W m m=0:=by
 obtain⟨q,rfl⟩:∃q,m=q+1:=⟨m-1,by omega⟩
 have h:=Lg W (q+1) h1 hm hr q (by omega);rw[show q+1-1-q=0 by omega]at h;have hp:=Ls _ _ h;rw[Dj]at hp;have e:(rowAt W 0).length=W.length:=by rw[rowAt,Bo];simp
 rw[e]at hp;rw[Cr,show q+1-1-q=0 by omega];omega
theorem Z82 {W:List Int}{m:Nat}(hW:Up W)(hp:∀x∈W,0<x)(h2:2<=W.length)(hm:1<=m)(hr:W.length<=2^m)(P:List Nat)(hn:P.Nodup)(hl:W.length=P.length):vk P W m m=2^m:=by
 have h3:=Z5z hW hp (by omega) hm hr P hn hl m (VB _);have h4:=JU W m hm m (VB _);rw[LE (by omega) hm hr,YJ,XN,Cr,XY]at h4
 have h5:P.length*2^m=(W.length-1)*2^m+2^m:=by
  rw[<-hl];obtain⟨q,hq⟩:∃q,W.length=q+1:=⟨W.length-1,by omega⟩
  rw[hq,YA,ZD]
 omega
theorem FY {l:List Int}{P:List Nat}{m:Nat}(hG:GoodW l m)(hP:RiseOf l P)(hn:2<=P.length):Gx (P.map fun p=>2^(m-((Cs l P m).getD p 0).toNat))=2^m:=by
 have hW:(P.map fun p=>l.getD p 0).length=P.length:=by simp
 have h:=Z82 hP.up hP.pos (by omega) hG.lo (by rw[hW,hP.length];exact hG.room) P hP.nodup hW;rw[<-h];unfold vk
 congr 1
 apply YR
 intro p _;unfold Cs;rw[if_neg (by omega),Kq _ _ _ _ _ hP.nodup hP.lt,WM]
theorem ML {α:Type}{R:α->α->Prop}(asy:∀a b,R a b->R b a->False):∀(P Q:List α),P.Perm Q->P.Pairwise R->Q.Pairwise R->P=Q
 | [],Q,h,_,_=>by rw[List.nil_perm]at h;exact h.symm
 |p::P,[],h,_,_=>by have:=h.length_eq;simp at this
 |p::P,q::Q,h,hp,hq=>by
  rw[XH]at hp hq
  have e:p=q:=by
   have h1:p∈q::Q:=h.mem_iff.1 XP;have h2:q∈p::P:=h.mem_iff.2 XP
   rcases WH.1 h1 with h1|h1
   . exact h1
   . rcases WH.1 h2 with h2|h2
     . exact h2.symm
     . exact absurd (hq.1 p h1) (fun h=>asy _ _ h (hp.1 q h2))
  subst e;rw[ML asy P Q ((List.perm_cons p).1 h) hp.2 hq.2]
theorem RiseOf.one {l:List Int}{P Q:List Nat}(h:RiseOf l P)(k:RiseOf l Q):P=Q:=
 ML (R:=fun a b=>l.getD a 0<l.getD b 0\/ (l.getD a 0=l.getD b 0/\a<b)) (fun a b h1 h2=>by omega) P Q (h.perm.trans k.perm.symm) h.srt k.srt
theorem MC {l:List Int}{P:List Nat}{m:Nat}(hG:GoodW l m)(hP:RiseOf l P)(hn:2<=P.length):takenN (cnt (Cs l P m)) 15=32768:=by
 have hm15:=hG.hi;have hle:∀j,0<=(Cs l P m).getD j 0/\(Cs l P m).getD j 0<=15:=fun j=>by have:=Xt hG hP j;omega
 have h2:=Ht (Cs l P m) (fun j _=>hle j) (Cs l P m).length (VB _);rw[ZK,Ia]at h2;rw[<-h2];have hk:=FY hG hP hn
 have h3:∀A B:List Nat,Gx (A++B)=Gx A+Gx B:=by
  intro A B
  induction A with
  |nil=>simp[Gx]
  |cons x A ih=>rw[XL,Gx,Gx,ih];omega
 have h4:∀k,k<=l.length->Kl (Cs l P m) k=Gx ((wpl l k).map fun p=>2^(15-((Cs l P m).getD p 0).toNat)):=by
  intro k
  induction k with
  |zero=>intro _;rfl
  |succ k ih=>
   intro hk;rw[wpl,WU,h3,Kl,ih (by omega)];have hx:=Xt hG hP k
   by_cases h:0<l.getD k 0
   . rw[if_pos h,if_pos (hx.2.2.2 ((hP.mem k).2 ⟨by omega,h⟩))];simp[Gx]
   . rw[if_neg h,if_neg (fun h5=>h ((hP.mem k).1 (hx.2.2.1 h5)).2)];simp[Gx]
 rw[h4 l.length (VB _),<-NH (hP.perm.map _)]
 have e:(P.map fun p=>2^(15-((Cs l P m).getD p 0).toNat))=P.map fun p=>2^(15-m)*2^(m-((Cs l P m).getD p 0).toNat):=by
  apply YR
  intro p hp;have:=Xt hG hP p
  rw[<-Nat.pow_add]
  congr 1
  omega
 rw[e,Z0r,hk,<-Nat.pow_add,show 15-m+m=15 by omega]
end Go.Proofs.YtleocpdblhbimaaGreatDoor
namespace Go.Proofs.YtleocpdblhbimaaGreatDoor
set_option linter.unusedVariables false
set_option maxRecDepth 100000
theorem Pp (l:List Int)(hG:Good l)(q:Nat):(codeT l q).length=(l.getD q 0).toNat:=by unfold codeT;rw[Bd]
def Z6n (n:Nat):Bool:=decide (257<=(De n).1/\(De n).1<=285/\(samesL.getD ((De n).1-257) (0,0)).2=(De n).2.2/\(samesL.getD ((De n).1-257) (0,0)).1+(De n).2.1=n/\(De n).2.1<2^(De n).2.2/\(De n).2.2<=5/\(n<=10->(De n).2.2=0))
def Z8d (d:Nat):Bool:=decide ((Mn d).1<=29/\(farsL.getD (Mn d).1 (0,0)).2=(Mn d).2.2/\(farsL.getD (Mn d).1 (0,0)).1+(Mn d).2.1=d/\(Mn d).2.1<2^(Mn d).2.2/\(Mn d).2.2<=10)
theorem Z11:(List.range 256).all (fun n=>Z6n (n+3))=true:=by decide+kernel
theorem Z55:(List.range 3000).all (fun d=>Z8d (d+1))=true:=by decide+kernel
theorem Z4o {n:Nat}(h3:3<=n)(h:n<=258):257<=(De n).1/\(De n).1<=285/\(samesL.getD ((De n).1-257) (0,0)).2=(De n).2.2/\(samesL.getD ((De n).1-257) (0,0)).1+(De n).2.1=n/\(De n).2.1<2^(De n).2.2/\(De n).2.2<=5/\(n<=10->(De n).2.2=0):=by
 have:=WX.1 Z11 (n-3) (by simp;omega)
 rw[show n-3+3=n by omega]at this;exact of_decide_eq_true this
theorem Z74 {d:Nat}(h1:1<=d)(h:d<=3000):(Mn d).1<=29/\(farsL.getD (Mn d).1 (0,0)).2=(Mn d).2.2/\(farsL.getD (Mn d).1 (0,0)).1+(Mn d).2.1=d/\(Mn d).2.1<2^(Mn d).2.2/\(Mn d).2.2<=10:=by
 have:=WX.1 Z55 (d-1) (by simp;omega)
 rw[show d-1+1=d by omega]at this;exact of_decide_eq_true this
def Has (a b:List Int)(is:List It):Prop:=(∀k,It.sym k∈is->k<a.length/\0<a.getD k 0)/\(∀k,It.far k∈is->k<b.length/\0<b.getD k 0)
theorem Has.app {a b:List Int}{x y:List It}(h:Has a b (x++y)):Has a b x/\Has a b y:=
 ⟨⟨fun k hk=>h.1 k (by simp[hk]),fun k hk=>h.2 k (by simp[hk])⟩,⟨fun k hk=>h.1 k (by simp[hk]),fun k hk=>h.2 k (by simp[hk])⟩⟩
theorem MF (a b:List Int)(x y:List It):putIs a b (x++y)=putIs a b x++putIs a b y:=by simp[putIs]
def HasR (own:List Int)(is:List (Nat×Nat×Nat)):Prop:=∀i∈is,i.1<own.length/\0<own.getD i.1 0
theorem Lo (own:List Int)(hG:Good own)(i:Nat×Nat×Nat):(Z40 own i).length=(codeT own i.1).length+i.2.2:=by unfold Z40;rw[VE,Ah]
theorem Hg (own:List Int)(i:Nat×Nat×Nat)(is:List (Nat×Nat×Nat)):putRs own (i::is)=Z40 own i++putRs own is:=by simp[putRs]
theorem Qx (own:List Int)(x y:List (Nat×Nat×Nat)):putRs own (x++y)=putRs own x++putRs own y:=by simp[putRs]
theorem Ye (x:Int):∀r:List Int,Cp x r<=r.length
 | []=>VB _
 |y::r=>by
  rw[Cp];have:=Ye x r
  split<;>simp<;>omega
theorem Z5i (xs:List Int)(p j:Nat):(Tb xs p).getD j 0=xs.getD j 0+(if j=p/\p<xs.length then 1 else 0):=by
 unfold Tb
 by_cases e:j=p
 . subst e
   by_cases h:j<xs.length
   . simp[List.getD,h]
   . simp[List.getD,h]
 . simp only[List.getD];rw[List.getElem?_set_ne (Ne.symm e),if_neg (fun h=>e h.1)];omega
theorem Gs:∀(ps:List Nat) (xs:List Int) (j:Nat),j<xs.length->(Cq xs ps).getD j 0=xs.getD j 0+(ps.count j:Nat)
 | [],xs,j,h=>by simp[Cq]
 |p::ps,xs,j,h=>by
  show (Cq (Tb xs p) ps).getD j 0=_
  rw[Gs ps _ j (by rw[Kw];exact h),Z5i,List.count_cons]
  by_cases e:j=p
  . subst e;simp[h]
    omega
  . have e2:¬p=j:=fun h=>e h.symm
    simp[e,e2]
theorem Iv (n j:Nat):(List.replicate n (0:Int)).getD j 0=0:=by by_cases h:j<n<;>simp[List.getD,h]
theorem Nt (n m:Nat)(ps:List Nat)(hn:n<=288)(hp:ps.length<=1000000)(hm:1<=m)(hm2:m<=15)(hr:n<=2^m):GoodW (Cq (List.replicate n 0) ps) m:=by
 have hl:(Cq (List.replicate n (0:Int)) ps).length=n:=by rw[Ca];simp
 refine⟨by omega, ?_,hm,hm2, ?_⟩
 . intro j hj;rw[Gs ps _ j (by simp;omega),Iv];have:=YI (a:=j) (l:=ps)
   omega
 . have:=Pt (Cq (List.replicate n 0) ps) (Cq (List.replicate n (0:Int)) ps).length
   omega
theorem Z15 {l:List Int}{m:Nat}{s:List Int}(h:IsLens l m s):lensD l m=s:=by
 have h2:IsLens l m (lensD l m):=Classical.epsilon_spec (p:=fun s=>IsLens l m s) ⟨s,h⟩;obtain⟨P,hP,e⟩:=h;obtain⟨Q,hQ,e2⟩:=h2;rw[e2,e,hP.one hQ]
theorem Jd {l:List Int}{m:Nat}{s:List Int}(hG:GoodW l m)(hs:IsLens l m s):Good s/\s.length=l.length/\(∀p,0<=s.getD p 0/\s.getD p 0<=m)/\∀p,p<l.length->0<l.getD p 0->0<s.getD p 0:=by
 obtain⟨P,hP,rfl⟩:=hs;have hlen:=Ia l P m;have hl:=hG.len;have hm15:=hG.hi;have hok:=Xt hG hP;refine⟨⟨by omega,fun j hj=>by have:=hok j;omega, ?_⟩,hlen,fun p=>⟨(hok p).1,(hok p).2.1⟩,fun p h1 h2=>(hok p).2.2.2 ((hP.mem p).2 ⟨h1,h2⟩)⟩
 by_cases hn:2<=P.length
 . rw[MC hG hP hn];exact VB _
 . have h2:=Ht (Cs l P m) (fun j _=>by have:=hok j;omega) (Cs l P m).length (VB _);rw[ZK,Ia]at h2;rw[<-h2]
   have h4:∀k,k<=l.length->Kl (Cs l P m) k<=(wpl l k).length*16384:=by
    intro k
    induction k with
    |zero=>intro _;exact VB _
    |succ k ih=>
     intro hk;have:=ih (by omega)
     rw[wpl,VE,Kl];have hx:=hok k
     by_cases h:0<l.getD k 0
     . have h1:=hx.2.2.2 ((hP.mem k).2 ⟨by omega,h⟩);rw[if_pos h,if_pos h1];have:2^(15-((Cs l P m).getD k 0).toNat)<=2^14:=VO (by decide) (by omega)
       simp only[VJ,WE];omega
     . rw[if_neg h,if_neg (fun h5=>h ((hP.mem k).1 (hx.2.2.1 h5)).2)];simp only[WE];omega
   have h5:=h4 l.length (VB _);rw[<-hP.length]at h5;omega
theorem Ju (l:List Int)(least:Nat):∀n,Gu l least n<=n
 |0=>VB _
 |n+1=>by
  rw[Gu];have:=Ju l least n
  split<;>omega
theorem Wy (l:List Int)(least:Nat):∀n,least<=n->least<=Gu l least n
 |0,h=>h
 |n+1,h=>by
  rw[Gu]
  by_cases e:least<n+1/\l.getD n 0=0
  . rw[if_pos e];exact Wy l least n (by omega)
  . rw[if_neg e];exact h
theorem Ul (l:List Int)(least:Nat):∀n j,Gu l least n<=j->j<n->l.getD j 0=0
 |0,j,h1,h2=>by omega
 |n+1,j,h1,h2=>by
  rw[Gu]at h1
  by_cases e:least<n+1/\l.getD n 0=0
  . rw[if_pos e]at h1
    by_cases e2:j=n
    . subst e2;exact e.2
    . exact Ul l least n j h1 (by omega)
  . rw[if_neg e]at h1;omega
theorem Cg (l:List Int)(least:Nat):(trimL l least).length=Gu l least l.length:=by
 have:=Ju l least l.length
 simp[trimL];omega
theorem Oo (l:List Int)(least k:Nat):(trimL l least).getD k 0=l.getD k 0:=by
 have hl:=Cg l least
 by_cases h:k<Gu l least l.length
 . simp only[trimL,List.getD];rw[XX h]
 . have e1:(trimL l least).getD k 0=0:=by
    simp only[List.getD];rw[WJ (by omega)];rfl
   rw[e1]
   by_cases h2:k<l.length
   . exact(Ul l least l.length k (by omega) h2).symm
   . simp only[List.getD];rw[WJ (by omega)];rfl
theorem Qh {c d:Nat->Nat}(h:∀n,c n<=d n):∀k,takenN c k<=takenN d k
 |0=>VB _
 |k+1=>by
  rw[takenN,takenN];have h1:=Qh h k;have h2:=YZ (2^(14-k)) (h (k+1));omega
theorem Zr {l:List Int}(hG:Good l)(least:Nat):Good (trimL l least):=by
 have hl:=Cg l least;have hle:=Ju l least l.length;refine⟨by have:=hG.len;omega,fun j hj=>by rw[Oo];exact hG.ok j (by omega), ?_⟩;refine VU (Qh (fun n=> ?_) 15) hG.room;unfold cnt trimL;exact(List.take_sublist _ _).count_le _
def VT (t:Tk):Prop:=t.1<256/\(t.2.1=0\/ (3<=t.2.1/\t.2.1<=258/\1<=t.2.2/\t.2.2<=3000))
theorem DP:∀(ts:List Tk) (n:Nat),JS ts n=0->∀t∈ts,∃k,k<=3000/\Hn t k=0
 | [],n,h,t,ht=>by cases ht
 |t0::ts,n,h,t,ht=>by
  have he:Hn t0 n=0:=by
   rw[JS]at h
   by_cases e:Hn t0 n=0
   . exact e
   . rw[if_neg e]at h;exact absurd h e
  rw[JS,if_pos he]at h;have hz:=QT h
  rcases WH.1 ht with rfl|ht
  . exact⟨n,by omega,he⟩
  . exact DP ts _ h t ht
theorem KU (bs:List Nat):∀m k,∀t∈tks bs m k,∃j,t=Qd bs j
 |0,k,t,ht=>by cases ht
 |m+1,k,t,ht=>by
  rw[tks]at ht
  by_cases h:k<bs.length
  . rw[if_pos h]at ht
    rcases WH.1 ht with rfl|ht
    . exact⟨k,rfl⟩
    . exact KU bs m _ t ht
  . rw[if_neg h]at ht;cases ht
theorem TL (bs:List Nat)(h:bs.length<=3000):JS (Gi bs) 0=0:=KW bs h bs.length 0 (VH _)
theorem Wz {bs:List Nat}(hb:∀j,bs.getD j 0<256)(h:bs.length<=3000):∀t∈Gi bs,VT t:=by
 intro t ht;obtain⟨j,rfl⟩:=KU bs _ _ t ht;obtain⟨k,h1,h2⟩:=DP _ _ (TL bs h) _ ht;refine⟨Z3f hb j, ?_⟩
 rcases Jk h2 with ⟨e1,_⟩|⟨_,e2,e3,e4,e5⟩
 . exact .inl e1
 . exact .inr ⟨e2,e3,e4,by omega⟩
def VI:It->Prop
 | .sym k=>k<286
 | .far k=>k<30
 | .rest n s=>n<2^s/\s<=10
theorem Z4v {t:Tk}(h:VT t):∀i∈GF t,VI i:=by
 obtain⟨h0,h1⟩:=h;intro i hi;unfold GF at hi
 rcases h1 with e|⟨e1,e2,e3,e4⟩
 . rw[if_pos e]at hi;simp only[WH,XE,or_false]at hi;subst hi;show t.1<286
   omega
 . rw[if_neg (by omega)]at hi;obtain⟨m1,m2,m3,m4,m5,m6,_⟩:=Z4o (n:=t.2.1.toNat) (by omega) (by omega);obtain⟨f1,f2,f3,f4,f5⟩:=Z74 (d:=t.2.2.toNat) (by omega) (by omega);simp only[WH,XE,or_false]at hi
   rcases hi with rfl|rfl|rfl|rfl
   . show _<286;omega
   . exact⟨m5,by omega⟩
   . show _<30;omega
   . exact⟨f4,f5⟩
theorem Ka {ts:List Tk}(h:∀t∈ts,VT t):∀i∈itsOf ts,VI i:=by
 intro i hi;unfold itsOf Tp at hi
 rcases WP.1 hi with hi|hi
 . obtain⟨t,ht,hi⟩:=List.mem_flatMap.1 hi;exact Z4v (h t ht) i hi
 . simp only[WH,XE,or_false]at hi;subst hi;show 256<286
   decide
theorem Z1a (t:Tk):(GF t).length<=4:=by unfold GF;split<;>simp
theorem Gb:∀ts:List Tk,(itsOf ts).length<=4*ts.length+1
 | []=>by simp[itsOf,Tp]
 |t::ts=>by
  have e:itsOf (t::ts)=GF t++itsOf ts:=by simp[itsOf,Tp]
  have:=Gb ts
  have:=Z1a t
  rw[e,VE,VJ];omega
theorem Z0x {is:List It}{k:Nat}:k∈TR is↔It.sym k∈is:=by
 unfold TR;rw[List.mem_filterMap]
 constructor
 . rintro ⟨i,h1,h2⟩
   cases i with
   |sym q=>simp at h2;subst h2;exact h1
   |far q=>simp at h2
   |rest a b=>simp at h2
 . intro h;exact⟨_,h,rfl⟩
theorem Z0y {is:List It}{k:Nat}:k∈Z1m is↔It.far k∈is:=by
 unfold Z1m;rw[List.mem_filterMap]
 constructor
 . rintro ⟨i,h1,h2⟩
   cases i with
   |far q=>simp at h2;subst h2;exact h1
   |sym q=>simp at h2
   |rest a b=>simp at h2
 . intro h;exact⟨_,h,rfl⟩
structure Dyn (ts:List Tk)(a b:List Int):Prop where
 ga:Good a
 gb:Good b
 la:257<=a.length
 la2:a.length<=286
 lb:1<=b.length
 lb2:b.length<=30
 has:Has a b (itsOf ts)
 end':0<a.getD 256 0
theorem Rx {l:List Int}{k:Nat}(h:0<l.getD k 0):k<l.length:=by
 rcases ZQ k l.length with e|e
 . exact e
 . simp only[List.getD]at h;rw[WJ e]at h;simp at h
theorem A5 {ts:List Tk}(hl:ts.length<=3000):GoodW (symC (itsOf ts)) 15:=by
 refine Nt 286 15 _ (by decide) ?_ (by decide) (by decide) (by decide);have h2:=Gb ts;unfold TR;exact VU (ZB _ _) (by omega)
theorem L9 {ts:List Tk}(hl:ts.length<=3000):GoodW (farC (itsOf ts)) 15:=by
 refine Nt 30 15 _ (by decide) ?_ (by decide) (by decide) (by decide);have h2:=Gb ts;unfold Z1m;exact VU (ZB _ _) (by omega)
theorem Li (is:List It):(symC is).length=286:=by unfold symC;rw[Ca];simp
theorem Mo (is:List It):(farC is).length=30:=by unfold farC;rw[Ca];simp
theorem TT {is:List It}{k:Nat}(hk:k<286)(h:It.sym k∈is):0<(symC is).getD k 0:=by
 unfold symC;rw[Gs _ _ k (by simpa using hk),Iv];have:=List.count_pos_iff.2 (Z0x.2 h)
 omega
theorem Z1o {is:List It}{k:Nat}(hk:k<30)(h:It.far k∈is):0<(farC is).getD k 0:=by
 unfold farC;rw[Gs _ _ k (by simpa using hk),Iv];have:=List.count_pos_iff.2 (Z0y.2 h)
 omega
theorem Z76 {ts:List Tk}{s f:List Int}(hv:∀t∈ts,VT t)(hl:ts.length<=3000)(hs:IsLens (symC (itsOf ts)) 15 s)(hf:IsLens (farC (itsOf ts)) 15 f):Dyn ts (trimL s 257) (trimL f 1):=by
 obtain⟨g1,l1,v1,p1⟩:=Jd (A5 hl) hs;obtain⟨g2,l2,v2,p2⟩:=Jd (L9 hl) hf;rw[Li]at l1 p1;rw[Mo]at l2 p2;have hi:=Ka hv
 have hA:∀k,It.sym k∈itsOf ts->k<(trimL s 257).length/\0<(trimL s 257).getD k 0:=by
  intro k hk;have h286:k<286:=hi _ hk;have hpos:0<(trimL s 257).getD k 0:=by rw[Oo];exact p1 k h286 (TT h286 hk)
  exact⟨Rx hpos,hpos⟩
 have hB:∀k,It.far k∈itsOf ts->k<(trimL f 1).length/\0<(trimL f 1).getD k 0:=by
  intro k hk;have h30:k<30:=hi _ hk;have hpos:0<(trimL f 1).getD k 0:=by rw[Oo];exact p2 k h30 (Z1o h30 hk)
  exact⟨Rx hpos,hpos⟩
 have t1:=Wy s 257 s.length (by omega);have t2:=Ju s 257 s.length;have t3:=Wy f 1 f.length (by omega);have t4:=Ju f 1 f.length;refine⟨Zr g1 257,Zr g2 1, ?_, ?_, ?_, ?_,⟨hA,hB⟩,(hA 256 (by simp[itsOf])).2⟩
 . rw[Cg];exact t1
 . rw[Cg];omega
 . rw[Cg];exact t3
 . rw[Cg];omega
theorem Xg (x:Nat)(hx:x<=15):∀f m,∀i∈He x f m,i.1<19
 |0,m,i,h=>by cases h
 |f+1,m,i,h=>by
  rw[He]at h;have ih:=Xg x hx f
  split at h
  . cases h
  . split at h
    . rcases WH.1 h with rfl|h
      . simp only;omega
      . exact ih _ i h
    . split at h
      . rcases WH.1 h with rfl|h
        . show 16<19;decide
        . exact ih _ i h
      . split at h
        . rcases WH.1 h with rfl|h
          . show 17<19;decide
          . exact ih _ i h
        . rcases WH.1 h with rfl|h
          . show 18<19;decide
          . exact ih _ i h
theorem Z04 (x m:Nat)(hx:x<=15):∀i∈Qt x m,i.1<19:=by
 intro i h;unfold Qt at h
 split at h
 . rcases WH.1 h with rfl|h
   . simp only;omega
   . exact Xg x hx _ _ i h
 . exact Xg x hx _ _ i h
theorem Xu:∀(f:Nat) (l:List Int),(∀x∈l,0<=x/\x<=15)->∀i∈Xv f l,i.1<19
 |0,l,h,i,hi=>by cases hi
 |f+1,[],h,i,hi=>by cases hi
 |f+1,x::r,h,i,hi=>by
  have e:Xv (f+1) (x::r)=Qt x.toNat (Cp x r+1)++Xv f (r.drop (Cp x r)):=rfl;rw[e]at hi
  rcases WP.1 hi with hi|hi
  . exact Z04 _ _ (by have:=h x (by simp);omega) i hi
  . exact Xu f _ (fun y hy=>h y (by simp[VW hy])) i hi
theorem Qs (own:List Int)(hG:Good own)(h7:∀k,own.getD k 0<=7)(x:Nat):∀f m,(putRs own (He x f m)).length<=7*m/\(He x f m).length<=m
 |0,m=>by rw[He];exact⟨VH _,VH _⟩
 |f+1,m=>by
  have hc:∀k,(codeT own k).length<=7:=fun k=>by rw[Pp own hG];have:=h7 k;omega
  have ih:=Qs own hG h7 x f;rw[He]
  split
  . exact⟨VH _,VH _⟩
  . split
    . have:=ih (m-1);have:=hc x;rw[Hg,VE,Lo own hG,VJ];simp only;omega
    . split
      . have:=ih (m-min m 6);have:=hc 16;rw[Hg,VE,Lo own hG,VJ];simp only;omega
      . split
        . have:=ih 0;have:=hc 17;rw[Hg,VE,Lo own hG,VJ];simp only;omega
        . have:=ih (m-min m 138);have:=hc 18;rw[Hg,VE,Lo own hG,VJ];simp only;omega
theorem LV (own:List Int)(hG:Good own)(h7:∀k,own.getD k 0<=7)(x m:Nat)(hm:1<=m):(putRs own (Qt x m)).length<=7*m/\(Qt x m).length<=m:=by
 have hc:∀k,(codeT own k).length<=7:=fun k=>by rw[Pp own hG];have:=h7 k;omega
 unfold Qt
 split
 . have:=Qs own hG h7 x m (m-1)
   have:=hc x
   rw[Hg,VE,Lo own hG,VJ];simp only
   omega
 . exact Qs own hG h7 x m m
theorem Lz (own:List Int)(hG:Good own)(h7:∀k,own.getD k 0<=7):∀(f:Nat) (l:List Int),(putRs own (Xv f l)).length<=7*l.length/\(Xv f l).length<=l.length
 |0,l=>by rw[Xv];exact⟨VH _,VH _⟩
 |f+1,[]=>⟨VH _,VH _⟩
 |f+1,x::r=>by
  have e:Xv (f+1) (x::r)=Qt x.toNat (Cp x r+1)++Xv f (r.drop (Cp x r)):=rfl;have h1:=LV own hG h7 x.toNat (Cp x r+1) (by omega);have h2:=Lz own hG h7 f (r.drop (Cp x r));have h3:=Ye x r;rw[VQ]at h2;rw[e,Qx,VE,VE,VJ];omega
theorem PA:Good (List.replicate 19 0):=by
 refine Ch ?_;decide+kernel
theorem F5 (all:List Int):(lenIs all).length<=all.length:=(Lz (List.replicate 19 0) PA (fun k=>by rw[Iv];decide) _ all).2
structure Own (all own:List Int):Prop where
 go:Good own
 lo:own.length=19
 vo:∀k,0<=own.getD k 0/\own.getD k 0<=7
 has:HasR own (lenIs all)
theorem C0 {all:List Int}(hl:all.length<=1000):GoodW (Yz (lenIs all)) 7:=by
 refine Nt 19 7 _ (by decide) ?_ (by decide) (by decide) (by decide);have:=F5 all
 simp
 omega
theorem Ov (is:List (Nat×Nat×Nat)):(Yz is).length=19:=by unfold Yz;rw[Ca];simp
theorem Z6g {all own:List Int}(hl:all.length<=1000)(hx:∀x∈all,0<=x/\x<=15)(hs:IsLens (Yz (lenIs all)) 7 own):Own all own:=by
 obtain⟨g1,l1,v1,p1⟩:=Jd (C0 hl) hs;rw[Ov]at l1 p1;refine⟨g1,l1,fun k=> ?_, ?_⟩
 . have:=v1 k
   simpa using this
 . intro i hi;have h19:=Xu _ all hx i hi;refine⟨by omega,p1 i.1 h19 ?_⟩;unfold Yz;rw[Gs _ _ i.1 (by simpa using h19),Iv];have:=List.count_pos_iff.2 (XG.2 ⟨i,hi,rfl⟩:i.1∈(lenIs all).map Prod.fst)
   omega
theorem CY {l:List Int}(hG:Good l):∀x∈l,0<=x/\x<=15:=by
 intro x hm;obtain⟨j,hj,rfl⟩:=XI hm;have:=hG.ok j hj
 simpa[List.getD,hj]using this
end Go.Proofs.YtleocpdblhbimaaGreatDoor
