import Derived.Test.YtieianhejdcgdaaGreatDoorQ25
namespace Go.Proofs.YtieianhejdcgdaaGreatDoor
open Go.RowKit
set_option linter.unusedVariables false
theorem GD (l xs:List Int)(p:Nat)(hp:p<xs.length):∀k,GE l (Sp xs p) k=GE l xs k+(if p<k then l.getD p 0 else 0)
 |0=>by simp[GE]
 |k+1=>by
  rw[GE,GE,GD l xs p hp k]
  have e:(Sp xs p).getD k 0=if p=k then xs.getD p 0+1 else xs.getD k 0:=by
   unfold Sp;rw[Lt]
   by_cases h:p=k
   . rw[if_pos ⟨h,hp⟩,if_pos h]
   . rw[if_neg (fun h2=>h h2.1),if_neg h]
  rw[e]
  by_cases h:p=k
  . subst h;rw[if_pos rfl,if_neg (by omega),if_pos (by omega),Int.mul_add,Int.mul_one];omega
  . rw[if_neg h]
    by_cases h2:p<k
    . rw[if_pos h2,if_pos (by omega)];omega
    . rw[if_neg h2,if_neg (by omega)];omega
def Z4r (W:List Int)(m:Nat):Nat->Int
 |0=>0
 |i+1=>Z4r W m i+Z68 (W.take (Ba W m i))
def Z7f (W:List Int)(k t:Nat):Int:=Z68 (((rowAt W k).take t).map Prod.fst)
def least (W:List Int)(m:Nat):Int:=if W.length<2 then Z68 W else Z7f W (m-1) (2*(W.length-1))
theorem Nj (p:Nat):∀(ps:List Nat) (xs:List Int),ps.Nodup->(∀q∈ps,q<xs.length)->(Cj xs ps).getD p 0=xs.getD p 0+(if p∈ps then 1 else 0)
 | [],xs,_,_=>by simp[Cj]
 |q::ps,xs,hn,h=>by
  have hn':=List.nodup_cons.1 hn;have ih:=Nj p ps (Sp xs q) hn'.2 (fun r hr=>by rw[Km];exact h r (WF _ hr));show (Cj (Sp xs q) ps).getD p 0=_
  rw[ih];unfold Sp;rw[Lt];have hq:=h q XQ
  by_cases e:q=p
  . subst e;rw[if_pos ⟨rfl,hq⟩,if_neg hn'.1,if_pos XQ];omega
  . rw[if_neg (fun h2=>e h2.1)]
    have:(p∈q::ps)↔p∈ps:=by
     rw[VW];exact⟨fun h=>h.resolve_left (fun h=>e h.symm),.inr⟩
    simp only[this]
theorem RiseOf.nodup {l:List Int}{P:List Nat}(h:RiseOf l P):P.Nodup:=by
 refine h.srt.imp ?_;intro a b hab e;subst e;omega
theorem RiseOf.mem {l:List Int}{P:List Nat}(h:RiseOf l P)(p:Nat):p∈P↔p<l.length/\0<l.getD p 0:=by rw[h.perm.mem_iff,S8]
theorem RiseOf.up {l:List Int}{P:List Nat}(h:RiseOf l P):Up (P.map fun p=>l.getD p 0):=by
 rw[Up,List.pairwise_map];exact h.srt.imp (fun {a b} hab=>by omega)
theorem RiseOf.pos {l:List Int}{P:List Nat}(h:RiseOf l P):∀x∈(P.map fun p=>l.getD p 0),0<x:=by
 intro x hx;obtain⟨p,hp,rfl⟩:=WY.1 hx;exact((h.mem p).1 hp).2
def E7 (P:List Nat)(W:List Int)(m p:Nat):Nat->Nat
 |0=>0
 |i+1=>E7 P W m p i+(if p∈P.take (Ba W m i)then 1 else 0)
theorem NA (P:List Nat)(W:List Int)(m p:Nat):∀i,E7 P W m p i<=i
 |0=>VC _
 |i+1=>by
  have:=NA P W m p i
  rw[E7]
  split<;>omega
theorem E6 (P:List Nat)(W:List Int)(m p:Nat)(h:p ∉ P):∀i,E7 P W m p i=0
 |0=>rfl
 |i+1=>by rw[E7,E6 P W m p h i,if_neg (fun h2=>h (VS h2))]
theorem BM (P:List Nat)(W:List Int)(m p:Nat)(h:p∈P.take (Ba W m 0)):∀i,1<=i->1<=E7 P W m p i
 |0,h0=>by omega
 |1,_=>by rw[E7,E7,if_pos h];omega
 |i+2,_=>by
  have:=BM P W m p h (i+1) (by omega)
  rw[E7];omega
theorem Kj (n:Nat)(P:List Nat)(W:List Int)(m p:Nat)(hn:P.Nodup)(hP:∀q∈P,q<n):∀i,(Ez n P W m i).getD p 0=(E7 P W m p i:Nat)
 |0=>by
  simp only[Ez,E7]
  by_cases h:p<n<;>simp[List.getD,h]
 |i+1=>by
  rw[Ez,Nj p _ _ (hn.sublist (List.take_sublist _ _)) (fun q hq=>by rw[Eg];exact hP q (VS hq)),Kj n P W m p hn hP i,E7]
  split<;>simp
theorem M8 {W:List Int}{m:Nat}(hW:Up W)(hp:∀x∈W,0<x)(hn:2<=W.length)(hm:1<=m)(hr:W.length<=2^m):Ba W m 0=W.length:=by
 have h:=Ud W m (by omega) hm hr;unfold Ba;rw[Ck,show m-1-0=m-1 by omega,show 2*(W.length-1)=2*W.length-2 by omega];exact PT W hW hp hn (m-1) (by omega)
theorem Wz {l:List Int}{P:List Nat}{m:Nat}(hG:GoodW l m)(hP:RiseOf l P)(p:Nat):0<=(Cl l P m).getD p 0/\(Cl l P m).getD p 0<=m/\(0<(Cl l P m).getD p 0↔p∈P):=by
 have hlo:=hG.lo;have hW:(P.map fun p=>l.getD p 0).length=P.length:=by simp
 unfold Cl
 by_cases h:P.length<2
 . rw[if_pos h,Nj p P _ hP.nodup (fun q hq=>by simpa using hP.lt q hq)];have e:(List.replicate l.length (0:Int)).getD p 0=0:=by by_cases h:p<l.length<;>simp[List.getD,h]
   rw[e]
   by_cases hp:p∈P
   . simp[hp];omega
   . simp[hp]
 . rw[if_neg h,Kj _ _ _ _ _ hP.nodup hP.lt];have h1:=NA P (P.map fun p=>l.getD p 0) m p m;refine⟨by omega,by omega, ?_⟩
   by_cases hp:p∈P
   . have h2:=BM P (P.map fun p=>l.getD p 0) m p (by rw[M8 hP.up hP.pos (by omega) hlo (by rw[hW,hP.length];exact hG.room),hW,List.take_length];exact hp) m hlo;exact⟨fun _=>hp,fun _=>by omega⟩
   . rw[E6 P _ m p hp];simp[hp]
theorem Hp (l:List Int)(P:List Nat)(m:Nat):(Cl l P m).length=l.length:=by
 unfold Cl
 split
 . rw[Bo];simp
 . exact Eg _ _ _ _ _
variable (l:List Int) (c:Nat->Nat) (m:Nat)
def Gx:List Nat->Nat
 | []=>0
 |x::xs=>x+Gx xs
theorem LK {xs ys:List Nat}(h:xs.Perm ys):Gx xs=Gx ys:=by
 induction h with
 |nil=>rfl
 |cons x _ ih=>rw[Gx,Gx,ih]
 |swap x y l=>simp only[Gx];omega
 |trans _ _ h1 h2=>exact h1.trans h2
theorem SN (P:List Nat)(f g:Nat->Nat):Gx (P.map f)+Gx (P.map g)=Gx (P.map fun p=>f p+g p):=by
 induction P with
 |nil=>rfl
 |cons p P ih=>simp only[WG,Gx];omega
theorem ED (P:List Nat)(k:Nat):Gx (P.map fun _=>k)=P.length*k:=by
 induction P with
 |nil=>simp[Gx]
 |cons p P ih=>rw[WG,Gx,ih,VH,ZB];omega
theorem SM (P:List Nat)(f:Nat->Nat)(k:Nat):Gx (P.map fun p=>k*f p)=k*Gx (P.map f):=by
 induction P with
 |nil=>simp[Gx]
 |cons p P ih=>simp only[WG,Gx];rw[ih,Nat.mul_add]
def up (d k:Nat):Nat:=if m-d<=k then 2^(d+1)-2^(m-k)else 0
theorem M6 {W:List Int}(hW:Up W)(hp:∀x∈W,0<x)(q t:Nat)(ht:t<=(rowAt W (q+1)).length):Bn (rowAt W q) (2*(t-Bn (rowAt W (q+1)) t))<=Bn (rowAt W (q+1)) t:=by
 rcases YO (Bn (rowAt W (q+1)) t) (Bn (rowAt W q) (2*(t-Bn (rowAt W (q+1)) t)))with h|h
 . exfalso
   have hb:=Lf _ _ ht;rw[Dc,Gw]at hb;have ha':=Gt (rowAt W q) (2*(t-Bn (rowAt W (q+1)) t));rw[Dc]at ha';have hperm:=Lm W (Dg W q) (2*(t-Bn (rowAt W (q+1)) t));rw[<-Eu]at hperm;have hle:=Mj (rowAt W q) (2*(t-Bn (rowAt W (q+1)) t));have hbh:=Yb W (Dg W (q+1)) t (Bn (rowAt W (q+1)) t) (t-Bn (rowAt W (q+1)) t-1) hW (by rw[<-Eu];exact VC _) (by omega) (by rw[<-Eu];omega) (by rw[Dg,Eo,WN];omega);generalize Bn (rowAt W (q+1)) t=a at*;generalize hB:t-a=b at*;have hmem:W.getD a 0∈((rowAt W q).take (2*b)).map Prod.fst:=hperm.mem_iff.2 (List.mem_append_left _ (Ho h (by omega)));have hL:2*b-1<((rowAt W q).map Prod.fst).length:=by rw[WN];omega
   have hlast:W.getD a 0<=((rowAt W q).map Prod.fst).getD (2*b-1) 0:=by
    rw[List.map_take]at hmem;obtain⟨i,hi,e⟩:=XC hmem;have hi2:i<2*b:=by simp at hi;omega
    have hi3:i<((rowAt W q).map Prod.fst).length:=by simp at hi;simp;omega
    have h1:=Z0j (We W hW q) (i:=i) (j:=2*b-1) (by omega) hL;have e2:((rowAt W q).map Prod.fst).getD i 0=(((rowAt W q).map Prod.fst).take (2*b))[i]:=by simp only[List.getD,VR hi3,XR,ZG]
    rw[e2,e]at h1;exact h1
   have hg:(Dg W (q+1)).getD (b-1) 0=((rowAt W q).map Prod.fst).getD (2*(b-1)) 0+((rowAt W q).map Prod.fst).getD (2*(b-1)+1) 0:=Ox _ _ (by rw[WN];omega)
   have hpos:0<((rowAt W q).map Prod.fst).getD (2*(b-1)) 0:=Lb W hp q _ (by
    have h3:2*(b-1)<((rowAt W q).map Prod.fst).length:=by omega
    simp only[List.getD,VR h3,XR];exact WR _)
   rw[show 2*b-1=2*(b-1)+1 by omega]at hlast;omega
 . exact h
theorem Th {W:List Int}{m:Nat}(hW:Up W)(hp:∀x∈W,0<x)(h1:1<=W.length)(hm:1<=m)(hr:W.length<=2^m)(i:Nat)(hi:i+1<m):Ba W m (i+1)<=Ba W m i:=by
 obtain⟨q,hq⟩:∃q,m-1-i=q+1:=⟨m-1-i-1,by omega⟩
 have hq2:m-1-(i+1)=q:=by omega
 have ht:=Kw W m h1 hm hr i (by omega);have h:=M6 hW hp q (Ck W m i) (by rw[<-hq];exact ht);unfold Ba;rw[Qe,hq2,hq];unfold Ba;rw[hq];exact h
theorem Oa {W:List Int}{m:Nat}(hW:Up W)(hp:∀x∈W,0<x)(h1:1<=W.length)(hm:1<=m)(hr:W.length<=2^m):∀(k i:Nat),i+k<m->Ba W m (i+k)<=Ba W m i
 |0,i,_=>VC _
 |k+1,i,h=>VX (Th hW hp h1 hm hr (i+k) (by omega)) (Oa hW hp h1 hm hr k i (by omega))
theorem Wv {P:List Nat}{p i j:Nat}(h:p∈P.take i)(hij:i<=j):p∈P.take j:=by
 have:P.take i=(P.take j).take i:=by rw[List.take_take,YC hij]
 rw[this]at h;exact VS h
theorem BO {W:List Int}{m:Nat}(hW:Up W)(hp:∀x∈W,0<x)(h1:1<=W.length)(hm:1<=m)(hr:W.length<=2^m)(P:List Nat)(p:Nat)(i:Nat)(hi:i<m)(h:p∈P.take (Ba W m i)):∀j,j<=i->E7 P W m p j=j
 |0,_=>rfl
 |j+1,hj=>by
  have ha:=Oa hW hp h1 hm hr (i-j) j (by omega);rw[show j+(i-j)=i by omega]at ha;rw[E7,BO hW hp h1 hm hr P p i hi h j (by omega),if_pos (Wv h ha)]
def vk (P:List Nat)(W:List Int)(m i:Nat):Nat:=Gx (P.map fun p=>2^(m-E7 P W m p i))
theorem LI (P:List Nat)(hn:P.Nodup)(a k:Nat)(ha:a<=P.length):Gx (P.map fun p=>if p∈P.take a then k else 0)=a*k:=by
 have e:P=P.take a++P.drop a:=(XN a P).symm
 have hd:∀p∈P.drop a,p ∉ P.take a:=by
  intro p hp h;have h2:=hn;rw[e]at h2;exact(List.nodup_append.1 h2).2.2 p h p hp rfl
 have h1:∀Q:List Nat,(∀p∈Q,p∈P.take a)->Gx (Q.map fun p=>if p∈P.take a then k else 0)=Q.length*k:=by
  intro Q
  induction Q with
  |nil=>intro _;simp[Gx]
  |cons q Q ih=>
   intro h;rw[WG,Gx,if_pos (h q XQ),ih (fun p hp=>h p (WF _ hp)),VH,ZB];omega
 have h2:∀Q:List Nat,(∀p∈Q,p ∉ P.take a)->Gx (Q.map fun p=>if p∈P.take a then k else 0)=0:=by
  intro Q
  induction Q with
  |nil=>intro _;rfl
  |cons q Q ih=>
   intro h;rw[WG,Gx,if_neg (h q XQ),ih (fun p hp=>h p (WF _ hp))]
 have h3:∀A B:List Nat,Gx (A++B)=Gx A+Gx B:=by
  intro A B
  induction A with
  |nil=>simp[Gx]
  |cons x A ih=>rw[XJ,Gx,Gx,ih];omega
 have h4:Gx (P.map fun p=>if p∈P.take a then k else 0)=Gx ((P.take a).map fun p=>if p∈P.take a then k else 0)+Gx ((P.drop a).map fun p=>if p∈P.take a then k else 0):=by
  rw[<-h3,<-XO,XN]
 rw[h4,h1 _ (fun p hp=>hp),h2 _ hd,VL,YC ha,YN]
theorem Z1m {W:List Int}{m:Nat}(hW:Up W)(hp:∀x∈W,0<x)(h1:1<=W.length)(hm:1<=m)(hr:W.length<=2^m)(P:List Nat)(hn:P.Nodup)(hl:W.length=P.length)(i:Nat)(hi:i<m):vk P W m (i+1)+Ba W m i*2^(m-1-i)=vk P W m i:=by
 unfold vk;rw[<-LI P hn (Ba W m i) (2^(m-1-i)) (by rw[<-hl];exact Vj W m i),SN]
 congr 1
 apply YI
 intro p _;rw[E7]
 by_cases h:p∈P.take (Ba W m i)
 . rw[if_pos h,if_pos h,BO hW hp h1 hm hr P p i hi h i (VC _),show m-i=(m-1-i)+1 by omega,show m-(i+1)=m-1-i by omega,XE];omega
 . rw[if_neg h,if_neg h];rfl
def zk (W:List Int)(m:Nat):Nat->Nat
 |0=>0
 |i+1=>zk W m i+Ba W m i*2^(m-1-i)
theorem Z4n {W:List Int}{m:Nat}(hW:Up W)(hp:∀x∈W,0<x)(h1:1<=W.length)(hm:1<=m)(hr:W.length<=2^m)(P:List Nat)(hn:P.Nodup)(hl:W.length=P.length):∀i,i<=m->vk P W m i+zk W m i=P.length*2^m
 |0,_=>by
  rw[zk,vk];simp only[E7,Nat.sub_zero];rw[ED,YN]
 |i+1,hi=>by
  have ih:=Z4n hW hp h1 hm hr P hn hl i (by omega);have hs:=Z1m hW hp h1 hm hr P hn hl i (by omega);rw[zk];omega
theorem GY (W:List Int)(m:Nat)(hm:1<=m):∀i,i<=m->2*zk W m i+Ck W m i*2^(m-i)=Ck W m 0*2^m
 |0,_=>by simp[zk]
 |i+1,hi=>by
  have ih:=GY W m hm i (by omega);have ha:=Nz W m i;have e:2^(m-i)=2*2^(m-1-i):=by rw[show m-i=(m-1-i)+1 by omega,XE,YH]
  rw[zk,Qe,show m-(i+1)=m-1-i by omega,<-ih,e];obtain⟨d,hd⟩:∃d,Ck W m i=Ba W m i+d:=⟨Ck W m i-Ba W m i,by omega⟩
  rw[hd,Nat.add_sub_cancel_left];generalize Ba W m i=a;generalize 2^(m-1-i)=z;generalize zk W m i=y;rw[Nat.add_mul,Nat.mul_add,YG 2 d z,Nat.mul_left_comm a 2 z,Nat.mul_left_comm d 2 z];omega
theorem JL {W:List Int}{m:Nat}(h1:1<=W.length)(hm:1<=m)(hr:W.length<=2^m):Ck W m m=0:=by
 obtain⟨q,rfl⟩:∃q,m=q+1:=⟨m-1,by omega⟩
 have h:=Kw W (q+1) h1 hm hr q (by omega);rw[show q+1-1-q=0 by omega]at h;have hp:=Lf _ _ h;rw[Dc]at hp;have e:(rowAt W 0).length=W.length:=by rw[rowAt,Be];simp
 rw[e]at hp;rw[Ck,show q+1-1-q=0 by omega];omega
theorem Z6l {W:List Int}{m:Nat}(hW:Up W)(hp:∀x∈W,0<x)(h2:2<=W.length)(hm:1<=m)(hr:W.length<=2^m)(P:List Nat)(hn:P.Nodup)(hl:W.length=P.length):vk P W m m=2^m:=by
 have h3:=Z4n hW hp (by omega) hm hr P hn hl m (VC _);have h4:=GY W m hm m (VC _);rw[JL (by omega) hm hr,ZI,YN,Ck,YG]at h4
 have h5:P.length*2^m=(W.length-1)*2^m+2^m:=by
  rw[<-hl];obtain⟨q,hq⟩:∃q,W.length=q+1:=⟨W.length-1,by omega⟩
  rw[hq,XW,ZB]
 omega
theorem EG {l:List Int}{P:List Nat}{m:Nat}(hG:GoodW l m)(hP:RiseOf l P)(hn:2<=P.length):Gx (P.map fun p=>2^(m-((Cl l P m).getD p 0).toNat))=2^m:=by
 have hW:(P.map fun p=>l.getD p 0).length=P.length:=by simp
 have h:=Z6l hP.up hP.pos (by omega) hG.lo (by rw[hW,hP.length];exact hG.room) P hP.nodup hW;rw[<-h];unfold vk
 congr 1
 apply YI
 intro p _;unfold Cl;rw[if_neg (by omega),Kj _ _ _ _ _ hP.nodup hP.lt,WL]
theorem KW {α:Type}{R:α->α->Prop}(asy:∀a b,R a b->R b a->False):∀(P Q:List α),P.Perm Q->P.Pairwise R->Q.Pairwise R->P=Q
 | [],Q,h,_,_=>by rw[List.nil_perm]at h;exact h.symm
 |p::P,[],h,_,_=>by have:=h.length_eq;simp at this
 |p::P,q::Q,h,hp,hq=>by
  rw[XI]at hp hq
  have e:p=q:=by
   have h1:p∈q::Q:=h.mem_iff.1 XQ;have h2:q∈p::P:=h.mem_iff.2 XQ
   rcases VW.1 h1 with h1|h1
   . exact h1
   . rcases VW.1 h2 with h2|h2
     . exact h2.symm
     . exact absurd (hq.1 p h1) (fun h=>asy _ _ h (hp.1 q h2))
  subst e;rw[KW asy P Q ((List.perm_cons p).1 h) hp.2 hq.2]
theorem RiseOf.one {l:List Int}{P Q:List Nat}(h:RiseOf l P)(k:RiseOf l Q):P=Q:=
 KW (R:=fun a b=>l.getD a 0<l.getD b 0\/ (l.getD a 0=l.getD b 0/\a<b)) (fun a b h1 h2=>by omega) P Q (h.perm.trans k.perm.symm) h.srt k.srt
end Go.Proofs.YtieianhejdcgdaaGreatDoor
