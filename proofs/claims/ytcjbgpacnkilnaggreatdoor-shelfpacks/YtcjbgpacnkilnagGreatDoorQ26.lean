import Derived.Test.YtcjbgpacnkilnagGreatDoorQ25
namespace Go.Proofs.YtcjbgpacnkilnagGreatDoor
open Go.RowKit
set_option linter.unusedVariables false
theorem Z8e (l xs:List Int)(p:Nat)(hp:p<xs.length):∀k,Z8f l (Sa xs p) k=Z8f l xs k+(if p<k then l.getD p 0 else 0)
 |0=>by simp[Z8f]
 |k+1=>by
  rw[Z8f,Z8f,Z8e l xs p hp k]
  have e:(Sa xs p).getD k 0=if p=k then xs.getD p 0+1 else xs.getD k 0:=by
   unfold Sa;rw[Lr]
   by_cases h:p=k
   . rw[if_pos ⟨h,hp⟩,if_pos h]
   . rw[if_neg (fun h2=>h h2.1),if_neg h]
  rw[e]
  by_cases h:p=k
  . subst h;rw[if_pos rfl,if_neg (by omega),if_pos (by omega),Int.mul_add,Int.mul_one];omega
  . rw[if_neg h]
    by_cases h2:p<k
    . rw[if_pos h2,if_pos (by omega)];omega
    . rw[if_neg h2,if_neg (by omega)];omega
def Zlf (W:List Int)(m:Nat):Nat->Int
 |0=>0
 |i+1=>Zlf W m i+Zmv (W.take (Ba W m i))
def Zny (W:List Int)(k t:Nat):Int:=Zmv (((rowAt W k).take t).map Prod.fst)
def least (W:List Int)(m:Nat):Int:=if W.length<2 then Zmv W else Zny W (m-1) (2*(W.length-1))
theorem Nd (p:Nat):∀(ps:List Nat) (xs:List Int),ps.Nodup->(∀q∈ps,q<xs.length)->(Cj xs ps).getD p 0=xs.getD p 0+(if p∈ps then 1 else 0)
 | [],xs,_,_=>by simp[Cj]
 |q::ps,xs,hn,h=>by
  have hn':=List.nodup_cons.1 hn;have ih:=Nd p ps (Sa xs q) hn'.2 (fun r hr=>by rw[Kk];exact h r (List.mem_cons_of_mem _ hr));show (Cj (Sa xs q) ps).getD p 0=_
  rw[ih];unfold Sa;rw[Lr];have hq:=h q List.mem_cons_self
  by_cases e:q=p
  . subst e;rw[if_pos ⟨rfl,hq⟩,if_neg hn'.1,if_pos List.mem_cons_self];omega
  . rw[if_neg (fun h2=>e h2.1)]
    have:(p∈q::ps)↔p∈ps:=by
     rw[List.mem_cons];exact⟨fun h=>h.resolve_left (fun h=>e h.symm),.inr⟩
    simp only[this]
theorem RiseOf.nodup {l:List Int}{P:List Nat}(h:RiseOf l P):P.Nodup:=by
 refine h.srt.imp ?_;intro a b hab e;subst e;omega
theorem RiseOf.mem {l:List Int}{P:List Nat}(h:RiseOf l P)(p:Nat):p∈P↔p<l.length/\0<l.getD p 0:=by rw[h.perm.mem_iff,Z2w]
theorem RiseOf.up {l:List Int}{P:List Nat}(h:RiseOf l P):Up (P.map fun p=>l.getD p 0):=by
 rw[Up,List.pairwise_map];exact h.srt.imp (fun {a b} hab=>by omega)
theorem RiseOf.pos {l:List Int}{P:List Nat}(h:RiseOf l P):∀x∈(P.map fun p=>l.getD p 0),0<x:=by
 intro x hx;obtain⟨p,hp,rfl⟩:=List.mem_map.1 hx;exact((h.mem p).1 hp).2
def Z0e (P:List Nat)(W:List Int)(m p:Nat):Nat->Nat
 |0=>0
 |i+1=>Z0e P W m p i+(if p∈P.take (Ba W m i)then 1 else 0)
theorem Zc9 (P:List Nat)(W:List Int)(m p:Nat):∀i,Z0e P W m p i<=i
 |0=>Nat.le_refl _
 |i+1=>by
  have:=Zc9 P W m p i
  rw[Z0e]
  split<;>omega
theorem Z0d (P:List Nat)(W:List Int)(m p:Nat)(h:p ∉ P):∀i,Z0e P W m p i=0
 |0=>rfl
 |i+1=>by rw[Z0e,Z0d P W m p h i,if_neg (fun h2=>h (List.mem_of_mem_take h2))]
theorem Z5n (P:List Nat)(W:List Int)(m p:Nat)(h:p∈P.take (Ba W m 0)):∀i,1<=i->1<=Z0e P W m p i
 |0,h0=>by omega
 |1,_=>by rw[Z0e,Z0e,if_pos h];omega
 |i+2,_=>by
  have:=Z5n P W m p h (i+1) (by omega)
  rw[Z0e];omega
theorem Kg (n:Nat)(P:List Nat)(W:List Int)(m p:Nat)(hn:P.Nodup)(hP:∀q∈P,q<n):∀i,(Ez n P W m i).getD p 0=(Z0e P W m p i:Nat)
 |0=>by
  simp only[Ez,Z0e]
  by_cases h:p<n<;>simp[List.getD,h]
 |i+1=>by
  rw[Ez,Nd p _ _ (hn.sublist (List.take_sublist _ _)) (fun q hq=>by rw[Ei];exact hP q (List.mem_of_mem_take hq)),Kg n P W m p hn hP i,Z0e]
  split<;>simp
theorem Z1n {W:List Int}{m:Nat}(hW:Up W)(hp:∀x∈W,0<x)(hn:2<=W.length)(hm:1<=m)(hr:W.length<=2^m):Ba W m 0=W.length:=by
 have h:=Tn W m (by omega) hm hr;unfold Ba;rw[Ck,show m-1-0=m-1 by omega,show 2*(W.length-1)=2*W.length-2 by omega];exact Zdx W hW hp hn (m-1) (by omega)
theorem We {l:List Int}{P:List Nat}{m:Nat}(hG:GoodW l m)(hP:RiseOf l P)(p:Nat):0<=(Cl l P m).getD p 0/\(Cl l P m).getD p 0<=m/\(0<(Cl l P m).getD p 0↔p∈P):=by
 have hlo:=hG.lo;have hW:(P.map fun p=>l.getD p 0).length=P.length:=by simp
 unfold Cl
 by_cases h:P.length<2
 . rw[if_pos h,Nd p P _ hP.nodup (fun q hq=>by simpa using hP.lt q hq)];have e:(List.replicate l.length (0:Int)).getD p 0=0:=by by_cases h:p<l.length<;>simp[List.getD,h]
   rw[e]
   by_cases hp:p∈P
   . simp[hp];omega
   . simp[hp]
 . rw[if_neg h,Kg _ _ _ _ _ hP.nodup hP.lt];have h1:=Zc9 P (P.map fun p=>l.getD p 0) m p m;refine⟨by omega,by omega, ?_⟩
   by_cases hp:p∈P
   . have h2:=Z5n P (P.map fun p=>l.getD p 0) m p (by rw[Z1n hP.up hP.pos (by omega) hlo (by rw[hW,hP.length];exact hG.room),hW,List.take_length];exact hp) m hlo;exact⟨fun _=>hp,fun _=>by omega⟩
   . rw[Z0d P _ m p hp];simp[hp]
theorem Hn (l:List Int)(P:List Nat)(m:Nat):(Cl l P m).length=l.length:=by
 unfold Cl
 split
 . rw[Bo];simp
 . exact Ei _ _ _ _ _
variable (l:List Int) (c:Nat->Nat) (m:Nat)
def Gu:List Nat->Nat
 | []=>0
 |x::xs=>x+Gu xs
theorem Zba {xs ys:List Nat}(h:xs.Perm ys):Gu xs=Gu ys:=by
 induction h with
 |nil=>rfl
 |cons x _ ih=>rw[Gu,Gu,ih]
 |swap x y l=>simp only[Gu];omega
 |trans _ _ h1 h2=>exact h1.trans h2
theorem Zfv (P:List Nat)(f g:Nat->Nat):Gu (P.map f)+Gu (P.map g)=Gu (P.map fun p=>f p+g p):=by
 induction P with
 |nil=>rfl
 |cons p P ih=>simp only[List.map_cons,Gu];omega
theorem Z75 (P:List Nat)(k:Nat):Gu (P.map fun _=>k)=P.length*k:=by
 induction P with
 |nil=>simp[Gu]
 |cons p P ih=>rw[List.map_cons,Gu,ih,List.length_cons,Nat.succ_mul];omega
theorem Zfu (P:List Nat)(f:Nat->Nat)(k:Nat):Gu (P.map fun p=>k*f p)=k*Gu (P.map f):=by
 induction P with
 |nil=>simp[Gu]
 |cons p P ih=>simp only[List.map_cons,Gu];rw[ih,Nat.mul_add]
def up (d k:Nat):Nat:=if m-d<=k then 2^(d+1)-2^(m-k)else 0
theorem Z1l {W:List Int}(hW:Up W)(hp:∀x∈W,0<x)(q t:Nat)(ht:t<=(rowAt W (q+1)).length):Bn (rowAt W q) (2*(t-Bn (rowAt W (q+1)) t))<=Bn (rowAt W (q+1)) t:=by
 rcases Nat.lt_or_ge (Bn (rowAt W (q+1)) t) (Bn (rowAt W q) (2*(t-Bn (rowAt W (q+1)) t)))with h|h
 . exfalso
   have hb:=Ld _ _ ht;rw[De,Gt]at hb;have ha':=Gr (rowAt W q) (2*(t-Bn (rowAt W (q+1)) t));rw[De]at ha';have hperm:=Lk W (Dh W q) (2*(t-Bn (rowAt W (q+1)) t));rw[<-Ew]at hperm;have hle:=Mh (rowAt W q) (2*(t-Bn (rowAt W (q+1)) t));have hbh:=Xj W (Dh W (q+1)) t (Bn (rowAt W (q+1)) t) (t-Bn (rowAt W (q+1)) t-1) hW (by rw[<-Ew];exact Nat.le_refl _) (by omega) (by rw[<-Ew];omega) (by rw[Dh,Ep,List.length_map];omega);generalize Bn (rowAt W (q+1)) t=a at*;generalize hB:t-a=b at*;have hmem:W.getD a 0∈((rowAt W q).take (2*b)).map Prod.fst:=hperm.mem_iff.2 (List.mem_append_left _ (Hm h (by omega)));have hL:2*b-1<((rowAt W q).map Prod.fst).length:=by rw[List.length_map];omega
   have hlast:W.getD a 0<=((rowAt W q).map Prod.fst).getD (2*b-1) 0:=by
    rw[List.map_take]at hmem;obtain⟨i,hi,e⟩:=List.getElem_of_mem hmem;have hi2:i<2*b:=by simp at hi;omega
    have hi3:i<((rowAt W q).map Prod.fst).length:=by simp at hi;simp;omega
    have h1:=Zh9 (Vn W hW q) (i:=i) (j:=2*b-1) (by omega) hL;have e2:((rowAt W q).map Prod.fst).getD i 0=(((rowAt W q).map Prod.fst).take (2*b))[i]:=by simp only[List.getD,List.getElem?_eq_getElem hi3,Option.getD_some,List.getElem_take]
    rw[e2,e]at h1;exact h1
   have hg:(Dh W (q+1)).getD (b-1) 0=((rowAt W q).map Prod.fst).getD (2*(b-1)) 0+((rowAt W q).map Prod.fst).getD (2*(b-1)+1) 0:=Om _ _ (by rw[List.length_map];omega)
   have hpos:0<((rowAt W q).map Prod.fst).getD (2*(b-1)) 0:=Ky W hp q _ (by
    have h3:2*(b-1)<((rowAt W q).map Prod.fst).length:=by omega
    simp only[List.getD,List.getElem?_eq_getElem h3,Option.getD_some];exact List.getElem_mem _)
   rw[show 2*b-1=2*(b-1)+1 by omega]at hlast;omega
 . exact h
theorem Sr {W:List Int}{m:Nat}(hW:Up W)(hp:∀x∈W,0<x)(h1:1<=W.length)(hm:1<=m)(hr:W.length<=2^m)(i:Nat)(hi:i+1<m):Ba W m (i+1)<=Ba W m i:=by
 obtain⟨q,hq⟩:∃q,m-1-i=q+1:=⟨m-1-i-1,by omega⟩
 have hq2:m-1-(i+1)=q:=by omega
 have ht:=Kt W m h1 hm hr i (by omega);have h:=Z1l hW hp q (Ck W m i) (by rw[<-hq];exact ht);unfold Ba;rw[Pu,hq2,hq];unfold Ba;rw[hq];exact h
theorem Nv {W:List Int}{m:Nat}(hW:Up W)(hp:∀x∈W,0<x)(h1:1<=W.length)(hm:1<=m)(hr:W.length<=2^m):∀(k i:Nat),i+k<m->Ba W m (i+k)<=Ba W m i
 |0,i,_=>Nat.le_refl _
 |k+1,i,h=>Nat.le_trans (Sr hW hp h1 hm hr (i+k) (by omega)) (Nv hW hp h1 hm hr k i (by omega))
theorem Wa {P:List Nat}{p i j:Nat}(h:p∈P.take i)(hij:i<=j):p∈P.take j:=by
 have:P.take i=(P.take j).take i:=by rw[List.take_take,Nat.min_eq_left hij]
 rw[this]at h;exact List.mem_of_mem_take h
theorem Z5o {W:List Int}{m:Nat}(hW:Up W)(hp:∀x∈W,0<x)(h1:1<=W.length)(hm:1<=m)(hr:W.length<=2^m)(P:List Nat)(p:Nat)(i:Nat)(hi:i<m)(h:p∈P.take (Ba W m i)):∀j,j<=i->Z0e P W m p j=j
 |0,_=>rfl
 |j+1,hj=>by
  have ha:=Nv hW hp h1 hm hr (i-j) j (by omega);rw[show j+(i-j)=i by omega]at ha;rw[Z0e,Z5o hW hp h1 hm hr P p i hi h j (by omega),if_pos (Wa h ha)]
def vk (P:List Nat)(W:List Int)(m i:Nat):Nat:=Gu (P.map fun p=>2^(m-Z0e P W m p i))
theorem Zb9 (P:List Nat)(hn:P.Nodup)(a k:Nat)(ha:a<=P.length):Gu (P.map fun p=>if p∈P.take a then k else 0)=a*k:=by
 have e:P=P.take a++P.drop a:=(List.take_append_drop a P).symm
 have hd:∀p∈P.drop a,p ∉ P.take a:=by
  intro p hp h;have h2:=hn;rw[e]at h2;exact(List.nodup_append.1 h2).2.2 p h p hp rfl
 have h1:∀Q:List Nat,(∀p∈Q,p∈P.take a)->Gu (Q.map fun p=>if p∈P.take a then k else 0)=Q.length*k:=by
  intro Q
  induction Q with
  |nil=>intro _;simp[Gu]
  |cons q Q ih=>
   intro h;rw[List.map_cons,Gu,if_pos (h q List.mem_cons_self),ih (fun p hp=>h p (List.mem_cons_of_mem _ hp)),List.length_cons,Nat.succ_mul];omega
 have h2:∀Q:List Nat,(∀p∈Q,p ∉ P.take a)->Gu (Q.map fun p=>if p∈P.take a then k else 0)=0:=by
  intro Q
  induction Q with
  |nil=>intro _;rfl
  |cons q Q ih=>
   intro h;rw[List.map_cons,Gu,if_neg (h q List.mem_cons_self),ih (fun p hp=>h p (List.mem_cons_of_mem _ hp))]
 have h3:∀A B:List Nat,Gu (A++B)=Gu A+Gu B:=by
  intro A B
  induction A with
  |nil=>simp[Gu]
  |cons x A ih=>rw[List.cons_append,Gu,Gu,ih];omega
 have h4:Gu (P.map fun p=>if p∈P.take a then k else 0)=Gu ((P.take a).map fun p=>if p∈P.take a then k else 0)+Gu ((P.drop a).map fun p=>if p∈P.take a then k else 0):=by
  rw[<-h3,<-List.map_append,List.take_append_drop]
 rw[h4,h1 _ (fun p hp=>hp),h2 _ hd,List.length_take,Nat.min_eq_left ha,Nat.add_zero]
theorem Zif {W:List Int}{m:Nat}(hW:Up W)(hp:∀x∈W,0<x)(h1:1<=W.length)(hm:1<=m)(hr:W.length<=2^m)(P:List Nat)(hn:P.Nodup)(hl:W.length=P.length)(i:Nat)(hi:i<m):vk P W m (i+1)+Ba W m i*2^(m-1-i)=vk P W m i:=by
 unfold vk;rw[<-Zb9 P hn (Ba W m i) (2^(m-1-i)) (by rw[<-hl];exact Us W m i),Zfv]
 congr 1
 apply List.map_congr_left
 intro p _;rw[Z0e]
 by_cases h:p∈P.take (Ba W m i)
 . rw[if_pos h,if_pos h,Z5o hW hp h1 hm hr P p i hi h i (Nat.le_refl _),show m-i=(m-1-i)+1 by omega,show m-(i+1)=m-1-i by omega,Nat.pow_succ];omega
 . rw[if_neg h,if_neg h];rfl
def zk (W:List Int)(m:Nat):Nat->Nat
 |0=>0
 |i+1=>zk W m i+Ba W m i*2^(m-1-i)
theorem Zlb {W:List Int}{m:Nat}(hW:Up W)(hp:∀x∈W,0<x)(h1:1<=W.length)(hm:1<=m)(hr:W.length<=2^m)(P:List Nat)(hn:P.Nodup)(hl:W.length=P.length):∀i,i<=m->vk P W m i+zk W m i=P.length*2^m
 |0,_=>by
  rw[zk,vk];simp only[Z0e,Nat.sub_zero];rw[Z75,Nat.add_zero]
 |i+1,hi=>by
  have ih:=Zlb hW hp h1 hm hr P hn hl i (by omega);have hs:=Zif hW hp h1 hm hr P hn hl i (by omega);rw[zk];omega
theorem Z8y (W:List Int)(m:Nat)(hm:1<=m):∀i,i<=m->2*zk W m i+Ck W m i*2^(m-i)=Ck W m 0*2^m
 |0,_=>by simp[zk]
 |i+1,hi=>by
  have ih:=Z8y W m hm i (by omega);have ha:=Nu W m i;have e:2^(m-i)=2*2^(m-1-i):=by rw[show m-i=(m-1-i)+1 by omega,Nat.pow_succ,Nat.mul_comm]
  rw[zk,Pu,show m-(i+1)=m-1-i by omega,<-ih,e];obtain⟨d,hd⟩:∃d,Ck W m i=Ba W m i+d:=⟨Ck W m i-Ba W m i,by omega⟩
  rw[hd,Nat.add_sub_cancel_left];generalize Ba W m i=a;generalize 2^(m-1-i)=z;generalize zk W m i=y;rw[Nat.add_mul,Nat.mul_add,Nat.mul_assoc 2 d z,Nat.mul_left_comm a 2 z,Nat.mul_left_comm d 2 z];omega
theorem Z9z {W:List Int}{m:Nat}(h1:1<=W.length)(hm:1<=m)(hr:W.length<=2^m):Ck W m m=0:=by
 obtain⟨q,rfl⟩:∃q,m=q+1:=⟨m-1,by omega⟩
 have h:=Kt W (q+1) h1 hm hr q (by omega);rw[show q+1-1-q=0 by omega]at h;have hp:=Ld _ _ h;rw[De]at hp;have e:(rowAt W 0).length=W.length:=by rw[rowAt,Be];simp
 rw[e]at hp;rw[Ck,show q+1-1-q=0 by omega];omega
theorem Zn6 {W:List Int}{m:Nat}(hW:Up W)(hp:∀x∈W,0<x)(h2:2<=W.length)(hm:1<=m)(hr:W.length<=2^m)(P:List Nat)(hn:P.Nodup)(hl:W.length=P.length):vk P W m m=2^m:=by
 have h3:=Zlb hW hp (by omega) hm hr P hn hl m (Nat.le_refl _);have h4:=Z8y W m hm m (Nat.le_refl _);rw[Z9z (by omega) hm hr,Nat.zero_mul,Nat.add_zero,Ck,Nat.mul_assoc]at h4
 have h5:P.length*2^m=(W.length-1)*2^m+2^m:=by
  rw[<-hl];obtain⟨q,hq⟩:∃q,W.length=q+1:=⟨W.length-1,by omega⟩
  rw[hq,Nat.add_sub_cancel,Nat.succ_mul]
 omega
theorem Z78 {l:List Int}{P:List Nat}{m:Nat}(hG:GoodW l m)(hP:RiseOf l P)(hn:2<=P.length):Gu (P.map fun p=>2^(m-((Cl l P m).getD p 0).toNat))=2^m:=by
 have hW:(P.map fun p=>l.getD p 0).length=P.length:=by simp
 have h:=Zn6 hP.up hP.pos (by omega) hG.lo (by rw[hW,hP.length];exact hG.room) P hP.nodup hW;rw[<-h];unfold vk
 congr 1
 apply List.map_congr_left
 intro p _;unfold Cl;rw[if_neg (by omega),Kg _ _ _ _ _ hP.nodup hP.lt,Int.toNat_natCast]
theorem Zaw {α:Type}{R:α->α->Prop}(asy:∀a b,R a b->R b a->False):∀(P Q:List α),P.Perm Q->P.Pairwise R->Q.Pairwise R->P=Q
 | [],Q,h,_,_=>by rw[List.nil_perm]at h;exact h.symm
 |p::P,[],h,_,_=>by have:=h.length_eq;simp at this
 |p::P,q::Q,h,hp,hq=>by
  rw[List.pairwise_cons]at hp hq
  have e:p=q:=by
   have h1:p∈q::Q:=h.mem_iff.1 List.mem_cons_self;have h2:q∈p::P:=h.mem_iff.2 List.mem_cons_self
   rcases List.mem_cons.1 h1 with h1|h1
   . exact h1
   . rcases List.mem_cons.1 h2 with h2|h2
     . exact h2.symm
     . exact absurd (hq.1 p h1) (fun h=>asy _ _ h (hp.1 q h2))
  subst e;rw[Zaw asy P Q ((List.perm_cons p).1 h) hp.2 hq.2]
theorem RiseOf.one {l:List Int}{P Q:List Nat}(h:RiseOf l P)(k:RiseOf l Q):P=Q:=
 Zaw (R:=fun a b=>l.getD a 0<l.getD b 0\/ (l.getD a 0=l.getD b 0/\a<b)) (fun a b h1 h2=>by omega) P Q (h.perm.trans k.perm.symm) h.srt k.srt
end Go.Proofs.YtcjbgpacnkilnagGreatDoor
