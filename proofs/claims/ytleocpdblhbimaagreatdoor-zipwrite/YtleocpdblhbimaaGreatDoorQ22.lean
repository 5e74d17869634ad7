import Derived.Test.YtleocpdblhbimaaGreatDoorQ21
set_option linter.unusedSimpArgs false
namespace Go.Proofs.YtleocpdblhbimaaGreatDoor
open Go.RowKit
set_option linter.unusedVariables false
variable (l:List Int) (c:Nat->Nat) (m:Nat)
def Gl:List Nat->Nat
 | []=>0
 |x::xs=>x+Gl xs
theorem JN {xs ys:List Nat}(h:xs.Perm ys):Gl xs=Gl ys:=by
 induction h with
 |nil=>rfl
 |cons x _ ih=>rw[Gl,Gl,ih]
 |swap x y l=>simp only[Gl];omega
 |trans _ _ h1 h2=>exact h1.trans h2
theorem QM (P:List Nat)(f g:Nat->Nat):Gl (P.map f)+Gl (P.map g)=Gl (P.map fun p=>f p+g p):=by
 induction P with
 |nil=>rfl
 |cons p P ih=>simp only[WP,Gl];omega
theorem CY (P:List Nat)(k:Nat):Gl (P.map fun _=>k)=P.length*k:=by
 induction P with
 |nil=>simp[Gl]
 |cons p P ih=>rw[WP,Gl,ih,VJ,ZE];omega
theorem QL (P:List Nat)(f:Nat->Nat)(k:Nat):Gl (P.map fun p=>k*f p)=k*Gl (P.map f):=by
 induction P with
 |nil=>simp[Gl]
 |cons p P ih=>simp only[WP,Gl];rw[ih,Nat.mul_add]
def up (d k:Nat):Nat:=if m-d<=k then 2^(d+1)-2^(m-k)else 0
theorem H8 {W:List Int}(hW:Up W)(hp:∀x∈W,0<x)(q t:Nat)(ht:t<=(rowAt W (q+1)).length):Bo (rowAt W q) (2*(t-Bo (rowAt W (q+1)) t))<=Bo (rowAt W (q+1)) t:=by
 rcases YW (Bo (rowAt W (q+1)) t) (Bo (rowAt W q) (2*(t-Bo (rowAt W (q+1)) t)))with h|h
 . exfalso
   have hb:=Li _ _ ht;rw[Cw,Gk]at hb;have ha':=Gh (rowAt W q) (2*(t-Bo (rowAt W (q+1)) t));rw[Cw]at ha';have hperm:=Lp W (Da W q) (2*(t-Bo (rowAt W (q+1)) t));rw[<-Ei]at hperm;have hle:=Mo (rowAt W q) (2*(t-Bo (rowAt W (q+1)) t));have hbh:=Xh W (Da W (q+1)) t (Bo (rowAt W (q+1)) t) (t-Bo (rowAt W (q+1)) t-1) hW (by rw[<-Ei];exact VC _) (by omega) (by rw[<-Ei];omega) (by rw[Da,Ea,WG];omega);generalize Bo (rowAt W (q+1)) t=a at*;generalize hB:t-a=b at*;have hmem:W.getD a 0∈((rowAt W q).take (2*b)).map Prod.fst:=hperm.mem_iff.2 (List.mem_append_left _ (Ho h (by omega)));have hL:2*b-1<((rowAt W q).map Prod.fst).length:=by rw[WG];omega
   have hlast:W.getD a 0<=((rowAt W q).map Prod.fst).getD (2*b-1) 0:=by
    rw[List.map_take]at hmem;obtain⟨i,hi,e⟩:=XF hmem;have hi2:i<2*b:=by simp at hi;omega
    have hi3:i<((rowAt W q).map Prod.fst).length:=by simp at hi;simp;omega
    have h1:=SQ (Vw W hW q) (i:=i) (j:=2*b-1) (by omega) hL;have e2:((rowAt W q).map Prod.fst).getD i 0=(((rowAt W q).map Prod.fst).take (2*b))[i]:=by simp only[List.getD,VR hi3,XP,ZB]
    rw[e2,e]at h1;exact h1
   have hg:(Da W (q+1)).getD (b-1) 0=((rowAt W q).map Prod.fst).getD (2*(b-1)) 0+((rowAt W q).map Prod.fst).getD (2*(b-1)+1) 0:=Ou _ _ (by rw[WG];omega)
   have hpos:0<((rowAt W q).map Prod.fst).getD (2*(b-1)) 0:=Le W hp q _ (by
    have h3:2*(b-1)<((rowAt W q).map Prod.fst).length:=by omega
    simp only[List.getD,VR h3,XP];exact WK _)
   rw[show 2*b-1=2*(b-1)+1 by omega]at hlast;omega
 . exact h
theorem Tf {W:List Int}{m:Nat}(hW:Up W)(hp:∀x∈W,0<x)(h1:1<=W.length)(hm:1<=m)(hr:W.length<=2^m)(i:Nat)(hi:i+1<m):Bf W m (i+1)<=Bf W m i:=by
 obtain⟨q,hq⟩:∃q,m-1-i=q+1:=⟨m-1-i-1,by omega⟩
 have hq2:m-1-(i+1)=q:=by omega
 have ht:=Ky W m h1 hm hr i (by omega);have h:=H8 hW hp q (Cf W m i) (by rw[<-hq];exact ht);unfold Bf;rw[Qa,hq2,hq];unfold Bf;rw[hq];exact h
theorem Nx {W:List Int}{m:Nat}(hW:Up W)(hp:∀x∈W,0<x)(h1:1<=W.length)(hm:1<=m)(hr:W.length<=2^m):∀(k i:Nat),i+k<m->Bf W m (i+k)<=Bf W m i
 |0,i,_=>VC _
 |k+1,i,h=>WC (Tf hW hp h1 hm hr (i+k) (by omega)) (Nx hW hp h1 hm hr k i (by omega))
theorem Wh {P:List Nat}{p i j:Nat}(h:p∈P.take i)(hij:i<=j):p∈P.take j:=by
 have:P.take i=(P.take j).take i:=by rw[List.take_take,YM hij]
 rw[this]at h;exact VO h
theorem AF {W:List Int}{m:Nat}(hW:Up W)(hp:∀x∈W,0<x)(h1:1<=W.length)(hm:1<=m)(hr:W.length<=2^m)(P:List Nat)(p:Nat)(i:Nat)(hi:i<m)(h:p∈P.take (Bf W m i)):∀j,j<=i->B3 P W m p j=j
 |0,_=>rfl
 |j+1,hj=>by
  have ha:=Nx hW hp h1 hm hr (i-j) j (by omega);rw[show j+(i-j)=i by omega]at ha;rw[B3,AF hW hp h1 hm hr P p i hi h j (by omega),if_pos (Wh h ha)]
def vk (P:List Nat)(W:List Int)(m i:Nat):Nat:=Gl (P.map fun p=>2^(m-B3 P W m p i))
theorem JM (P:List Nat)(hn:P.Nodup)(a k:Nat)(ha:a<=P.length):Gl (P.map fun p=>if p∈P.take a then k else 0)=a*k:=by
 have e:P=P.take a++P.drop a:=(YV a P).symm
 have hd:∀p∈P.drop a,p ∉ P.take a:=by
  intro p hp h;have h2:=hn;rw[e]at h2;exact(List.nodup_append.1 h2).2.2 p h p hp rfl
 have h1:∀Q:List Nat,(∀p∈Q,p∈P.take a)->Gl (Q.map fun p=>if p∈P.take a then k else 0)=Q.length*k:=by
  intro Q
  induction Q with
  |nil=>intro _;simp[Gl]
  |cons q Q ih=>
   intro h;rw[WP,Gl,if_pos (h q XN),ih (fun p hp=>h p (WM _ hp)),VJ,ZE];omega
 have h2:∀Q:List Nat,(∀p∈Q,p ∉ P.take a)->Gl (Q.map fun p=>if p∈P.take a then k else 0)=0:=by
  intro Q
  induction Q with
  |nil=>intro _;rfl
  |cons q Q ih=>
   intro h;rw[WP,Gl,if_neg (h q XN),ih (fun p hp=>h p (WM _ hp))]
 have h3:∀A B:List Nat,Gl (A++B)=Gl A+Gl B:=by
  intro A B
  induction A with
  |nil=>simp[Gl]
  |cons x A ih=>rw[XH,Gl,Gl,ih];omega
 have h4:Gl (P.map fun p=>if p∈P.take a then k else 0)=Gl ((P.take a).map fun p=>if p∈P.take a then k else 0)+Gl ((P.drop a).map fun p=>if p∈P.take a then k else 0):=by
  rw[<-h3,<-WS,YV]
 rw[h4,h1 _ (fun p hp=>hp),h2 _ hd,VM,YM ha,XL]
theorem Z08 {W:List Int}{m:Nat}(hW:Up W)(hp:∀x∈W,0<x)(h1:1<=W.length)(hm:1<=m)(hr:W.length<=2^m)(P:List Nat)(hn:P.Nodup)(hl:W.length=P.length)(i:Nat)(hi:i<m):vk P W m (i+1)+Bf W m i*2^(m-1-i)=vk P W m i:=by
 unfold vk;rw[<-JM P hn (Bf W m i) (2^(m-1-i)) (by rw[<-hl];exact Vf W m i),QM]
 congr 1
 apply YO
 intro p _;rw[B3]
 by_cases h:p∈P.take (Bf W m i)
 . rw[if_pos h,if_pos h,AF hW hp h1 hm hr P p i hi h i (VC _),show m-i=(m-1-i)+1 by omega,show m-(i+1)=m-1-i by omega,XE];omega
 . rw[if_neg h,if_neg h];rfl
def zk (W:List Int)(m:Nat):Nat->Nat
 |0=>0
 |i+1=>zk W m i+Bf W m i*2^(m-1-i)
theorem Z31 {W:List Int}{m:Nat}(hW:Up W)(hp:∀x∈W,0<x)(h1:1<=W.length)(hm:1<=m)(hr:W.length<=2^m)(P:List Nat)(hn:P.Nodup)(hl:W.length=P.length):∀i,i<=m->vk P W m i+zk W m i=P.length*2^m
 |0,_=>by
  rw[zk,vk];simp only[B3,Nat.sub_zero];rw[CY,XL]
 |i+1,hi=>by
  have ih:=Z31 hW hp h1 hm hr P hn hl i (by omega);have hs:=Z08 hW hp h1 hm hr P hn hl i (by omega);rw[zk];omega
theorem FJ (W:List Int)(m:Nat)(hm:1<=m):∀i,i<=m->2*zk W m i+Cf W m i*2^(m-i)=Cf W m 0*2^m
 |0,_=>by simp[zk]
 |i+1,hi=>by
  have ih:=FJ W m hm i (by omega);have ha:=Nw W m i;have e:2^(m-i)=2*2^(m-1-i):=by rw[show m-i=(m-1-i)+1 by omega,XE,YC]
  rw[zk,Qa,show m-(i+1)=m-1-i by omega,<-ih,e];obtain⟨d,hd⟩:∃d,Cf W m i=Bf W m i+d:=⟨Cf W m i-Bf W m i,by omega⟩
  rw[hd,Nat.add_sub_cancel_left];generalize Bf W m i=a;generalize 2^(m-1-i)=z;generalize zk W m i=y;rw[ZP,Nat.mul_add,XS 2 d z,Nat.mul_left_comm a 2 z,Nat.mul_left_comm d 2 z];omega
theorem GO {W:List Int}{m:Nat}(h1:1<=W.length)(hm:1<=m)(hr:W.length<=2^m):Cf W m m=0:=by
 obtain⟨q,rfl⟩:∃q,m=q+1:=⟨m-1,by omega⟩
 have h:=Ky W (q+1) h1 hm hr q (by omega);rw[show q+1-1-q=0 by omega]at h;have hp:=Li _ _ h;rw[Cw]at hp;have e:(rowAt W 0).length=W.length:=by rw[rowAt,Bh];simp
 rw[e]at hp;rw[Cf,show q+1-1-q=0 by omega];omega
theorem Z4v {W:List Int}{m:Nat}(hW:Up W)(hp:∀x∈W,0<x)(h2:2<=W.length)(hm:1<=m)(hr:W.length<=2^m)(P:List Nat)(hn:P.Nodup)(hl:W.length=P.length):vk P W m m=2^m:=by
 have h3:=Z31 hW hp (by omega) hm hr P hn hl m (VC _);have h4:=FJ W m hm m (VC _);rw[GO (by omega) hm hr,YI,XL,Cf,XS]at h4
 have h5:P.length*2^m=(W.length-1)*2^m+2^m:=by
  rw[<-hl];obtain⟨q,hq⟩:∃q,W.length=q+1:=⟨W.length-1,by omega⟩
  rw[hq,XT,ZE]
 omega
theorem DC {l:List Int}{P:List Nat}{m:Nat}(hG:GoodW l m)(hP:RiseOf l P)(hn:2<=P.length):Gl (P.map fun p=>2^(m-((Cg l P m).getD p 0).toNat))=2^m:=by
 have hW:(P.map fun p=>l.getD p 0).length=P.length:=by simp
 have h:=Z4v hP.up hP.pos (by omega) hG.lo (by rw[hW,hP.length];exact hG.room) P hP.nodup hW;rw[<-h];unfold vk
 congr 1
 apply YO
 intro p _;unfold Cg;rw[if_neg (by omega),Kk _ _ _ _ _ hP.nodup hP.lt,WD]
theorem IV {α:Type}{R:α->α->Prop}(asy:∀a b,R a b->R b a->False):∀(P Q:List α),P.Perm Q->P.Pairwise R->Q.Pairwise R->P=Q
 | [],Q,h,_,_=>by rw[List.nil_perm]at h;exact h.symm
 |p::P,[],h,_,_=>by have:=h.length_eq;simp at this
 |p::P,q::Q,h,hp,hq=>by
  rw[XI]at hp hq
  have e:p=q:=by
   have h1:p∈q::Q:=h.mem_iff.1 XN;have h2:q∈p::P:=h.mem_iff.2 XN
   rcases WE.1 h1 with h1|h1
   . exact h1
   . rcases WE.1 h2 with h2|h2
     . exact h2.symm
     . exact absurd (hq.1 p h1) (fun h=>asy _ _ h (hp.1 q h2))
  subst e;rw[IV asy P Q ((List.perm_cons p).1 h) hp.2 hq.2]
theorem RiseOf.one {l:List Int}{P Q:List Nat}(h:RiseOf l P)(k:RiseOf l Q):P=Q:=
 IV (R:=fun a b=>l.getD a 0<l.getD b 0\/ (l.getD a 0=l.getD b 0/\a<b)) (fun a b h1 h2=>by omega) P Q (h.perm.trans k.perm.symm) h.srt k.srt
theorem IG {l:List Int}{P:List Nat}{m:Nat}(hG:GoodW l m)(hP:RiseOf l P)(hn:2<=P.length):takenN (cnt (Cg l P m)) 15=32768:=by
 have hm15:=hG.hi;have hle:∀j,0<=(Cg l P m).getD j 0/\(Cg l P m).getD j 0<=15:=fun j=>by have:=Wk hG hP j;omega
 have h2:=Hj (Cg l P m) (fun j _=>hle j) (Cg l P m).length (VC _);rw[YT,Hp]at h2;rw[<-h2];have hk:=DC hG hP hn
 have h3:∀A B:List Nat,Gl (A++B)=Gl A+Gl B:=by
  intro A B
  induction A with
  |nil=>simp[Gl]
  |cons x A ih=>rw[XH,Gl,Gl,ih];omega
 have h4:∀k,k<=l.length->Kf (Cg l P m) k=Gl ((wpl l k).map fun p=>2^(15-((Cg l P m).getD p 0).toNat)):=by
  intro k
  induction k with
  |zero=>intro _;rfl
  |succ k ih=>
   intro hk;rw[wpl,WS,h3,Kf,ih (by omega)];have hx:=Wk hG hP k
   by_cases h:0<l.getD k 0
   . rw[if_pos h,if_pos (hx.2.2.2 ((hP.mem k).2 ⟨by omega,h⟩))];simp[Gl]
   . rw[if_neg h,if_neg (fun h5=>h ((hP.mem k).1 (hx.2.2.1 h5)).2)];simp[Gl]
 rw[h4 l.length (VC _),<-JN (hP.perm.map _)]
 have e:(P.map fun p=>2^(15-((Cg l P m).getD p 0).toNat))=P.map fun p=>2^(15-m)*2^(m-((Cg l P m).getD p 0).toNat):=by
  apply YO
  intro p hp;have:=Wk hG hP p
  rw[<-ZQ]
  congr 1
  omega
 rw[e,QL,hk,<-ZQ,show 15-m+m=15 by omega]
end Go.Proofs.YtleocpdblhbimaaGreatDoor
