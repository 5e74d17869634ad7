import Derived.Test.YtieianhejdcgdaaGreatDoorQ24
set_option maxHeartbeats 1000000
namespace Go.Proofs.YtieianhejdcgdaaGreatDoor
open Go.RowKit
set_option linter.unusedVariables false
def Hy (fs:List Bool):Nat->Nat
 |0=>0
 |k+1=>Hy fs k+(if fs.getD k false=true then 1 else 0)
theorem M7 (fs:List Bool):∀k,Hy fs k<=k
 |0=>VC _
 |k+1=>by
  have:=M7 fs k
  rw[Hy]
  split<;>omega
theorem Ny (r:List (Int×Bool)):∀t,t<=r.length->Bn r t=Hy (r.map Prod.snd) t
 |0,_=>by simp[Bn,Hy]
 |t+1,h=>by
  have ih:=Ny r t (by omega);have ht:t<r.length:=by omega
  unfold Bn at*;rw[WU ht,List.filter_append,VB,ih,Hy];have e:(r.map Prod.snd).getD t false=r[t].2:=by simp[List.getD,ht]
  rw[e]
  cases h:r[t].2<;>simp[h]
theorem Ti (v:Value)(hv:v.oneCell'=true)(g N c m:Nat)(fs:List Bool)(w:World)(hl:fs.length=N)(hm:m<=N)(hN:N<=2000)(hF:BRow w g fs):
 Calls Tryz.prog 270 #[.agg #[v,.slice (some ⟨g,0,none⟩) N c],.int .i64 m] w fun e w'=>e=.returned (.int .i64 ((Hy fs m:Nat):Int))/\Below w.heap.size w w':=by
 have HF:=Ab hF;have hg:=hF.lt;clear hF;go_enter Tryz.func270,Tryz.ntmps270
 go_wp2;have hb:(w.alloc (.cells #[v,.slice (some ⟨g,0,none⟩) N c] 344)).cell? ⟨w.heap.size,1,none⟩=some (.slice (some ⟨g,0,none⟩) N c):=by simp
 have HB:=Ab ((Below.refl w.heap.size w).alloc (VC _) (.cells #[v,.slice (some ⟨g,0,none⟩) N c] 344));have HF2:=Ab ((Aa HF).alloc (.cells #[v,.slice (some ⟨g,0,none⟩) N c] 344));generalize w.alloc (.cells #[v,.slice (some ⟨g,0,none⟩) N c] 344)=W at*;go_loop [5,6,8] (fun va _ vi=>∃k:Nat,k<=m/\vi=.int .i64 (k:Int)/\va=.int .i64 ((Hy fs k:Nat):Int)) (fun _ _ vi=>m-(intOf vi).toNat)
 case atStart=>exact⟨0,VM _,rfl,rfl⟩
 case round=>
  obtain⟨k,hk,rfl,rfl⟩:=hrel;have hle:=M7 fs k
  by_cases hlt:k<m
  . have c1:=((Aa HF2).at_ k (by omega)).1;have hkN:(k:Int)<(N:Int):=by omega
    have HU:Hid (Hy fs (k+1)=Hy fs k+(if fs.getD k false=true then 1 else 0)):=rfl;generalize Hy fs k=u at*
    cases hx:fs.getD k false with
    |true=>
     rw[hx]at c1 HU;rw[if_pos rfl]at HU;clear hx;go_wp2;go_round
     case rel=>exact⟨k+1,by omega,by go_num,by rw[Aa HU];go_num⟩
     case measure=>simp[intOf];omega
    |false=>
     rw[hx]at c1 HU;rw[if_neg (by simp)]at HU;clear hx;go_wp2;go_round
     case rel=>exact⟨k+1,by omega,by go_num,by rw[Aa HU];rfl⟩
     case measure=>simp[intOf];omega
  . obtain rfl:k=m:=by omega
    go_wp2;go_ret;exact⟨rfl,Aa HB⟩
theorem Gy:∀(xs ys:List Int) (x:Int),x∈(mrg xs ys).map Prod.fst->x∈xs\/x∈ys
 | [],ys,x,h=>by
  rw[Kg]at h;simp at h
  exact .inr h
 |z::xs,[],x,h=>by
  rw[Mv,WG,VW]at h
  rcases h with h|h
  . exact .inl (by rw[h];exact XQ)
  . rcases Gy xs [] x h with h|h
    . exact .inl (WF _ h)
    . cases h
 |z::xs,y::ys,x,h=>by
  rw[Iq]at h
  split at h
  . rw[WG,VW]at h
    rcases h with h|h
    . exact .inl (by rw[h];exact XQ)
    . rcases Gy xs (y::ys) x h with h|h
      . exact .inl (WF _ h)
      . exact .inr h
  . rw[WG,VW]at h
    rcases h with h|h
    . exact .inr (by rw[h];exact XQ)
    . rcases Gy (z::xs) ys x h with h|h
      . exact .inl h
      . exact .inr (WF _ h)
termination_by xs ys=>xs.length+ys.length
theorem Ww:∀(xs:List Int) (x:Int),x∈prs xs->∃a b,a∈xs/\b∈xs/\x=a+b
 | [],x,h=>by simp[prs]at h
 | [y],x,h=>by simp[prs]at h
 |y::z::t,x,h=>by
  rw[prs,VW]at h
  rcases h with h|h
  . exact⟨y,z,by simp,by simp,h⟩
  . obtain⟨a,b,ha,hb,e⟩:=Ww t x h;exact⟨a,b,by simp[ha],by simp[hb],e⟩
theorem Ik (W:List Int):∀k,(rowAt W k).length<=2*W.length
 |0=>by rw[rowAt,Be];simp;omega
 |k+1=>by
  have:=Ik W k
  rw[rowAt,Be,Eo,WN];omega
theorem Kd (W:List Int)(M:Int)(hW:∀x∈W,0<=x/\x<=M):∀k,∀x∈(rowAt W k).map Prod.fst,0<=x/\x<=M*2^k
 |0,x,h=>by
  rw[rowAt]at h
  rcases Gy W [] x h with h|h
  . have:=hW x h;simpa using this
  . cases h
 |k+1,x,h=>by
  rw[rowAt]at h;have hp:(0:Int)<2^k:=Int.pow_pos (by decide);rw[Int.pow_succ]
  rcases Gy _ _ x h with h|h
  . have:=hW x h
    have h0:0<=M:=by omega
    have h2:M*1<=M*(2^k*2):=Int.mul_le_mul_of_nonneg_left (by omega) h0;rw[Int.mul_one]at h2;omega
  . obtain⟨a,b,ha,hb,e⟩:=Ww _ x h;have h1:=Kd W M hW k a ha;have h2:=Kd W M hW k b hb;rw[<-Int.mul_assoc];omega
theorem Q5 (W:List Int)(hW:∀x∈W,0<=x/\x<=1000000)(k:Nat)(hk:k<=15)(j:Nat):0<=((rowAt W k).map Prod.fst).getD j 0/\((rowAt W k).map Prod.fst).getD j 0<=1000000000000:=by
 by_cases hj:j<((rowAt W k).map Prod.fst).length
 . have h:=Kd W 1000000 hW k (((rowAt W k).map Prod.fst).getD j 0) (by simp only[List.getD,VR hj,XR];exact WR _);have h2:(2:Nat)^k<=2^15:=VV (by decide) hk;have h3:((2:Int)^k)=((2^k:Nat):Int):=by push_cast;rfl
   rw[h3]at h;generalize 2^k=q at*;omega
 . rw[List.getD,WA (by omega)];decide
structure StSt (w W:World)(g m:Nat)(Ws:List Int)(k:Nat)(A B:Nat->Nat):Prop where
 glo:w.heap.size<=g
 ghi:g<W.heap.size
 fz:∀j,W.frozen? ⟨g,j,none⟩=false
 done:∀i,i<k->W.cell? ⟨g,i*2,none⟩=some (.slice (some ⟨A i,0,none⟩) (rowAt Ws i).length (rowAt Ws i).length)/\W.cell? ⟨g,i*2+1,none⟩=some (.slice (some ⟨B i,0,none⟩) (rowAt Ws i).length (rowAt Ws i).length)
 todo:∀i,k<=i->i<m->W.cell? ⟨g,i*2,none⟩=some (.slice none 0 0)/\W.cell? ⟨g,i*2+1,none⟩=some (.slice none 0 0)
 ws:∀i,i<k->w.heap.size<=A i/\A i≠g/\WRow W (A i) ((rowAt Ws i).map Prod.fst)
 fs:∀i,i<k->w.heap.size<=B i/\B i≠g/\BRow W (B i) ((rowAt Ws i).map Prod.snd)
 bel:Below w.heap.size w W
theorem StSt.below {w W W':World}{g m:Nat}{Ws:List Int}{k:Nat}{A B:Nat->Nat}(h:StSt w W g m Ws k A B)(hB:Below W.heap.size W W'):StSt w W' g m Ws k A B:=by
 have hz:w.heap.size<=W.heap.size:=h.bel.size;refine⟨h.glo,VK h.ghi hB.size,fun j=> ?_,fun i hi=>⟨?_, ?_⟩,fun i h1 h2=>⟨?_, ?_⟩,fun i hi=>⟨(h.ws i hi).1,(h.ws i hi).2.1,(h.ws i hi).2.2.below hB (h.ws i hi).2.2.lt⟩,fun i hi=>⟨(h.fs i hi).1,(h.fs i hi).2.1,(h.fs i hi).2.2.below hB (h.fs i hi).2.2.lt⟩,h.bel.trans (hB.mono hz)⟩
 . rw[hB.frozen (p:=⟨g,j,none⟩) h.ghi];exact h.fz j
 . rw[hB.cell (p:=⟨g,i*2,none⟩) h.ghi];exact(h.done i hi).1
 . rw[hB.cell (p:=⟨g,i*2+1,none⟩) h.ghi];exact(h.done i hi).2
 . rw[hB.cell (p:=⟨g,i*2,none⟩) h.ghi];exact(h.todo i h1 h2).1
 . rw[hB.cell (p:=⟨g,i*2+1,none⟩) h.ghi];exact(h.todo i h1 h2).2
theorem StSt.next {w W:World}{g m:Nat}{Ws:List Int}{k:Nat}{A B:Nat->Nat}(h:StSt w W g m Ws k A B)(hk:k<m)(a b:Nat)(ha:w.heap.size<=a/\a≠g)(hb:w.heap.size<=b/\b≠g)(h1:WRow W a ((rowAt Ws k).map Prod.fst))(h2:BRow W b ((rowAt Ws k).map Prod.snd))(L:Nat)(hL:L=(rowAt Ws k).length):
 StSt w ((W.setCell ⟨g,k*2,none⟩ (.slice (some ⟨a,0,none⟩) L L)).setCell ⟨g,k*2+1,none⟩ (.slice (some ⟨b,0,none⟩) L L)) g m Ws (k+1) (fun i=>if i=k then a else A i) (fun i=>if i=k then b else B i):=by
 subst hL
 have o:∀j x y,j≠k*2->j≠k*2+1->((W.setCell ⟨g,k*2,none⟩ x).setCell ⟨g,k*2+1,none⟩ y).cell? ⟨g,j,none⟩=W.cell? ⟨g,j,none⟩:=fun j x y e1 e2=>
  (World.cell?_setCell_other _ _ _ _ (by intro h;injection h;omega)).trans (World.cell?_setCell_other _ _ _ _ (by intro h;injection h;omega))
 have s0:∀x y,((W.setCell ⟨g,k*2,none⟩ x).setCell ⟨g,k*2+1,none⟩ y).cell? ⟨g,k*2,none⟩=some x:=fun x y=>
  (World.cell?_setCell_other _ _ _ _ (by intro h;injection h;omega)).trans (World.cell?_setCell_same _ _ _ (h.todo k (VC _) hk).1)
 have s1:∀x y,((W.setCell ⟨g,k*2,none⟩ x).setCell ⟨g,k*2+1,none⟩ y).cell? ⟨g,k*2+1,none⟩=some y:=fun x y=>
  World.cell?_setCell_same _ _ _ ((World.cell?_setCell_other _ _ _ _ (by intro h;injection h;omega)).trans (h.todo k (VC _) hk).2)
 refine⟨h.glo,by simpa using h.ghi,fun j=>by simp[h.fz j],fun i hi=> ?_,fun i i1 i2=> ?_,fun i hi=> ?_,fun i hi=> ?_,(h.bel.setCell (p:=⟨g,k*2,none⟩) h.glo _).setCell (p:=⟨g,k*2+1,none⟩) h.glo _⟩
 . by_cases e:i=k
   . subst e;simp only[if_true];exact⟨s0 _ _,s1 _ _⟩
   . simp only[if_neg e];rw[o _ _ _ (by omega) (by omega),o _ _ _ (by omega) (by omega)];exact h.done i (by omega)
 . rw[o _ _ _ (by omega) (by omega),o _ _ _ (by omega) (by omega)];exact h.todo i (by omega) i2
 . by_cases e:i=k
   . subst e;simp only[if_true];exact⟨ha.1,ha.2,(h1.other (a:=⟨g,i*2,none⟩) (fun e=>ha.2 e.symm) _).other (a:=⟨g,i*2+1,none⟩) (fun e=>ha.2 e.symm) _⟩
   . simp only[if_neg e];obtain⟨q1,q2,q3⟩:=h.ws i (by omega);exact⟨q1,q2,(q3.other (a:=⟨g,k*2,none⟩) (fun e=>q2 e.symm) _).other (a:=⟨g,k*2+1,none⟩) (fun e=>q2 e.symm) _⟩
 . by_cases e:i=k
   . subst e;simp only[if_true];exact⟨hb.1,hb.2,(h2.other (a:=⟨g,i*2,none⟩) (fun e=>hb.2 e.symm) _).other (a:=⟨g,i*2+1,none⟩) (fun e=>hb.2 e.symm) _⟩
   . simp only[if_neg e];obtain⟨q1,q2,q3⟩:=h.fs i (by omega);exact⟨q1,q2,(q3.other (a:=⟨g,k*2,none⟩) (fun e=>q2 e.symm) _).other (a:=⟨g,k*2+1,none⟩) (fun e=>q2 e.symm) _⟩
theorem Ll:∀xs ys:List Int,((mrg xs ys).filter Prod.snd).length=xs.length
 | [],ys=>by
  rw[Kg];simp
 |x::xs,[]=>by
  rw[Mv,List.filter_cons_of_pos (by simp),VH,Ll xs []];simp
 |x::xs,y::ys=>by
  rw[Iq]
  split
  . rw[List.filter_cons_of_pos (by simp),VH,Ll xs (y::ys)];simp
  . rw[List.filter_cons_of_neg (by simp),Ll (x::xs) ys]
termination_by xs ys=>xs.length+ys.length
theorem Gt (r:List (Int×Bool))(t:Nat):Bn r t<=(r.filter Prod.snd).length:=by
 unfold Bn;have h:=((List.take_sublist t r).filter Prod.snd).length_le;exact h
theorem Mj (r:List (Int×Bool))(t:Nat):Bn r t<=t:=by
 unfold Bn;have h:=List.length_filter_le Prod.snd (r.take t);have h2:(r.take t).length<=t:=by simp;omega
 omega
theorem Lf (r:List (Int×Bool))(t:Nat)(ht:t<=r.length):t-Bn r t<=r.length-(r.filter Prod.snd).length:=by
 have h1:(r.filter Prod.snd).length=((r.take t).filter Prod.snd).length+((r.drop t).filter Prod.snd).length:=by
  rw[<-VB,<-List.filter_append,XN]
 have h2:=List.length_filter_le Prod.snd (r.drop t);have h3:(r.drop t).length=r.length-t:=by simp
 have h4:=Mj r t;unfold Bn at*;omega
theorem Gw (W:List Int)(k:Nat):(rowAt W (k+1)).length=W.length+(rowAt W k).length/2:=by
 rw[rowAt,Be,Eo,WN]
theorem Dc (W:List Int):∀k,((rowAt W k).filter Prod.snd).length=W.length
 |0=>by rw[rowAt,Ll]
 |k+1=>by rw[rowAt,Ll]
theorem Ue (W:List Int)(hW:1<=W.length):∀k,2*W.length<=(rowAt W k).length+1+(W.length-1)/2^k
 |0=>by rw[rowAt,Be];simp;omega
 |k+1=>by
  have ih:=Ue W hW k;have e:(W.length-1)/2^(k+1)=(W.length-1)/2^k/2:=by rw[XE,YZ]
  rw[Gw,e];generalize (W.length-1)/2^k=x at*;omega
theorem Ud (W:List Int)(m:Nat)(hW:1<=W.length)(hm:1<=m)(hr:W.length<=2^m):2*(W.length-1)<=(rowAt W (m-1)).length:=by
 have h:=Ue W hW (m-1)
 have h2:(W.length-1)/2^(m-1)<2:=by
  rw[Nat.div_lt_iff_lt_mul (Nat.pow_pos (by decide))]
  have:2*2^(m-1)=2^m:=by
   obtain⟨q,rfl⟩:∃q,m=q+1:=⟨m-1,by omega⟩
   rw[XW,XE,YH]
  omega
 omega
theorem Kw (W:List Int)(m:Nat)(hW:1<=W.length)(hm:1<=m)(hr:W.length<=2^m):∀i,i<m->Ck W m i<=(rowAt W (m-1-i)).length
 |0,_=>by rw[Ck];exact Ud W m hW hm hr
 |i+1,hi=>by
  have ih:=Kw W m hW hm hr i (by omega);have hp:=Lf _ _ ih;obtain⟨q,hq⟩:∃q,m-1-i=q+1:=⟨m-1-i-1,by omega⟩
  have hq2:m-1-(i+1)=q:=by omega
  rw[Dc,hq,Gw]at hp;rw[Ck,hq2,hq];omega
theorem Vj (W:List Int)(m i:Nat):Ba W m i<=W.length:=by
 have:=Gt (rowAt W (m-1-i)) (Ck W m i)
 rw[Dc]at this;exact this
theorem Nz (W:List Int)(m i:Nat):Ba W m i<=Ck W m i:=Mj _ _
theorem Qe (W:List Int)(m i:Nat):Ck W m (i+1)=2*(Ck W m i-Ba W m i):=rfl
theorem Eg (n:Nat)(P:List Nat)(W:List Int)(m:Nat):∀i,(Ez n P W m i).length=n
 |0=>by simp[Ez]
 |i+1=>by rw[Ez,Bo,Eg n P W m i]
theorem Nt (n:Nat)(P:List Nat)(W:List Int)(m:Nat)(hP:P.length<=288):∀i,∀j,0<=(Ez n P W m i).getD j 0/\(Ez n P W m i).getD j 0<=288*i
 |0,j=>by
  simp only[Ez]
  by_cases h:j<n
  . simp[List.getD,h]
  . simp[List.getD,h]
 |i+1,j=>by
  have h:=Kl (P.take (Ba W m i)) (Nt n P W m hP i) j;have h2:(P.take (Ba W m i)).length<=288:=by simp;omega
  rw[Ez];omega
theorem RiseOf.lt {l:List Int}{P:List Nat}(h:RiseOf l P):∀p∈P,p<l.length:=fun p hp=>IE l _ p (h.perm.mem_iff.1 hp)
theorem RiseOf.length {l:List Int}{P:List Nat}(h:RiseOf l P):P.length=(wpl l l.length).length:=h.perm.length_eq
def Z68:List Int->Int
 | []=>0
 |x::xs=>x+Z68 xs
theorem Vi (r:List (Int×Bool)):Bn r 0=0:=by simp[Bn]
theorem Nm (x:Int)(r:List (Int×Bool))(t:Nat):Bn ((x,true)::r) (t+1)=Bn r t+1:=by simp[Bn]
theorem Kn (x:Int)(r:List (Int×Bool))(t:Nat):Bn ((x,false)::r) (t+1)=Bn r t:=by simp[Bn]
theorem X4 (ys:List Int):∀t,Bn (ys.map fun y=>(y,false)) t=0:=by
 induction ys with
 |nil=>intro t;simp[Bn]
 |cons y ys ih=>
  intro t
  cases t with
  |zero=>exact Vi _
  |succ t=>rw[WG,Kn,ih]
theorem Lm:∀(xs ys:List Int) (t:Nat),(((mrg xs ys).take t).map Prod.fst).Perm (xs.take (Bn (mrg xs ys) t)++ys.take (t-Bn (mrg xs ys) t))
 |xs,ys,0=>by rw[Vi];simp
 | [],ys,t+1=>by
  rw[Kg,X4];simp[YR]
 |x::xs,[],t+1=>by
  have ih:=Lm xs [] t;rw[Mv,XS,WG,Nm,XS];simp only[List.take_nil,WO]at*;exact List.Perm.cons x ih
 |x::xs,y::ys,t+1=>by
  rw[Iq]
  split
  . have ih:=Lm xs (y::ys) t;rw[XS,WG,Nm,XS,show t+1-(Bn (mrg xs (y::ys)) t+1)=t-Bn (mrg xs (y::ys)) t by omega];exact List.Perm.cons x ih
  . have ih:=Lm (x::xs) ys t;have hle:=Mj (mrg (x::xs) ys) t;rw[XS,WG,Kn,show t+1-Bn (mrg (x::xs) ys) t=(t-Bn (mrg (x::xs) ys) t)+1 by omega,XS];exact(List.Perm.cons y ih).trans List.perm_middle.symm
termination_by xs ys=>xs.length+ys.length
abbrev Up (xs:List Int):Prop:=xs.Pairwise (· <= ·)
theorem C4:∀xs ys:List Int,Up xs->Up ys->Up ((mrg xs ys).map Prod.fst)
 | [],ys,_,h=>by rw[Kg,List.map_map];simpa[YR]using h
 |x::xs,[],h,h2=>by
  have h:=XI.1 h;rw[Mv,WG];refine XI.2 ⟨fun z hz=> ?_,C4 xs [] h.2 h2⟩
  rcases Gy xs [] z hz with hz|hz
  . exact h.1 z hz
  . cases hz
 |x::xs,y::ys,h,h2=>by
  have h':=XI.1 h;have h2':=XI.1 h2;rw[Iq]
  split
  . rename_i hxy
    rw[WG];refine XI.2 ⟨fun z hz=> ?_,C4 xs (y::ys) h'.2 h2⟩
    rcases Gy xs (y::ys) z hz with hz|hz
    . exact h'.1 z hz
    . rcases VW.1 hz with rfl|hz
      . exact hxy
      . exact Int.le_trans hxy (h2'.1 z hz)
  . rename_i hxy
    rw[WG];refine XI.2 ⟨fun z hz=> ?_,C4 (x::xs) ys h h2'.2⟩;show y<=z
    rcases Gy (x::xs) ys z hz with hz|hz
    . rcases VW.1 hz with rfl|hz
      . omega
      . have:=h'.1 z hz;omega
    . exact h2'.1 z hz
termination_by xs ys=>xs.length+ys.length
theorem Z0t:∀xs:List Int,Up xs->Up (prs xs)
 | [],_=>by simp[prs]
 | [x],_=>by simp[prs]
 |x::y::t,h=>by
  have h1:=XI.1 h;have h2:=XI.1 h1.2;rw[prs];refine XI.2 ⟨fun z hz=> ?_,Z0t t h2.2⟩;obtain⟨a,b,ha,hb,rfl⟩:=Ww t z hz;have e1:=h1.1 a (by simp[ha]);have e2:=h2.1 b hb;show x+y<=a+b
  omega
theorem We (W:List Int)(h:Up W):∀k,Up ((rowAt W k).map Prod.fst)
 |0=>by rw[rowAt];exact C4 W [] h .nil
 |k+1=>by rw[rowAt];exact C4 W _ h (Z0t _ (We W h k))
theorem Lb (W:List Int)(h:∀x∈W,0<x):∀k,∀x∈(rowAt W k).map Prod.fst,0<x
 |0,x,hx=>by
  rw[rowAt]at hx
  rcases Gy W [] x hx with h1|h1
  . exact h x h1
  . cases h1
 |k+1,x,hx=>by
  rw[rowAt]at hx
  rcases Gy W _ x hx with h1|h1
  . exact h x h1
  . obtain⟨a,b,ha,hb,rfl⟩:=Ww _ x h1;have e1:=Lb W h k a ha;have e2:=Lb W h k b hb;omega
def Dg (W:List Int):Nat->List Int
 |0=> []
 |k+1=>prs ((rowAt W k).map Prod.fst)
theorem Eu (W:List Int):∀k,rowAt W k=mrg W (Dg W k)
 |0=>rfl
 |k+1=>rfl
theorem Z0j {xs:List Int}(h:Up xs){i j:Nat}(hij:i<=j)(hj:j<xs.length):xs.getD i 0<=xs.getD j 0:=by
 by_cases e:i=j
 . subst e;exact Int.le_refl _
 . have:=(YP.1 h) i j (by omega) hj (by omega)
   simpa[List.getD,hj,show i<xs.length by omega]using this
theorem Ho {xs:List Int}{i t:Nat}(hi:i<t)(hx:i<xs.length):xs.getD i 0∈xs.take t:=by
 have:(xs.take t).getD i 0=xs.getD i 0:=by simp[List.getD,hi]
 rw[<-this];have h2:i<(xs.take t).length:=by simp;omega
 simp only[List.getD,VR h2,XR];exact WR _
theorem H9 (W:List Int)(hW:Up W)(hp:∀x∈W,0<x)(hn:2<=W.length):∀k,W.length-1<=(Dg W k).length->(Dg W k).getD (W.length-2) 0<W.getD (W.length-1) 0->False
 |0,h,_=>by simp[Dg]at h;omega
 |k+1,h,h2=>by
  have hlen:(Dg W (k+1)).length=(rowAt W k).length/2:=by rw[Dg,Eo,WN]
  rw[hlen]at h;have hL:2*W.length-3<((rowAt W k).map Prod.fst).length:=by rw[WN];omega
  have hg:(Dg W (k+1)).getD (W.length-2) 0=((rowAt W k).map Prod.fst).getD (2*(W.length-2)) 0+((rowAt W k).map Prod.fst).getD (2*(W.length-2)+1) 0:=Ox _ _ (by rw[WN];omega)
  have hpos:0<((rowAt W k).map Prod.fst).getD (2*(W.length-2)) 0:=Lb W hp k _ (by
   have h3:2*(W.length-2)<((rowAt W k).map Prod.fst).length:=by omega
   simp only[List.getD,VR h3,XR];exact WR _)
  have hlast:((rowAt W k).map Prod.fst).getD (2*W.length-3) 0<W.getD (W.length-1) 0:=by
   rw[show 2*W.length-3=2*(W.length-2)+1 by omega];omega
  have hall:∀z∈((rowAt W k).take (2*W.length-2)).map Prod.fst,z<W.getD (W.length-1) 0:=by
   intro z hz;rw[List.map_take]at hz;obtain⟨i,hi,rfl⟩:=XC hz;have hi2:i<2*W.length-2:=by simp at hi;omega
   have hi3:i<((rowAt W k).map Prod.fst).length:=by simp at hi;simp;omega
   have:=Z0j (We W hW k) (i:=i) (j:=2*W.length-3) (by omega) hL
   have e:((rowAt W k).map Prod.fst).getD i 0=(((rowAt W k).map Prod.fst).take (2*W.length-2))[i]:=by simp only[List.getD,VR hi3,XR,ZG]
   rw[e]at this;omega
  have hperm:=Lm W (Dg W k) (2*W.length-2);rw[<-Eu]at hperm;have hle:Bn (rowAt W k) (2*W.length-2)<=W.length:=by have:=Gt (rowAt W k) (2*W.length-2);rw[Dc]at this;exact this
  have hpl:2*W.length-2-Bn (rowAt W k) (2*W.length-2)<=(Dg W k).length:=by
   have h4:=Lf (rowAt W k) (2*W.length-2) (by rw[WN]at hL;omega);have h5:(rowAt W k).length=W.length+(Dg W k).length:=by rw[Eu,Be]
   rw[Dc]at h4;omega
  by_cases ha:Bn (rowAt W k) (2*W.length-2)=W.length
  . have:W.getD (W.length-1) 0<W.getD (W.length-1) 0:=hall _ (hperm.mem_iff.2 (List.mem_append_left _ (by rw[ha];exact Ho (by omega) (by omega))))
    omega
  . have hq:W.length-1<=2*W.length-2-Bn (rowAt W k) (2*W.length-2):=by omega
    exact H9 W hW hp hn k (by omega) (hall _ (hperm.mem_iff.2 (List.mem_append_right _ (Ho (by omega) (by omega)))))
theorem Yb:∀(xs ys:List Int) (t i j:Nat),Up xs->Bn (mrg xs ys) t<=i->i<xs.length->j<t-Bn (mrg xs ys) t->j<ys.length->ys.getD j 0<xs.getD i 0
 |xs,ys,0,i,j,_,_,_,h,_=>by omega
 | [],ys,t+1,i,j,_,_,h,_,_=>by simp at h
 |x::xs,[],t+1,i,j,_,_,_,_,h=>by simp at h
 |x::xs,y::ys,t+1,i,j,hu,h1,h2,h3,h4=>by
  have hu':=XI.1 hu;rw[Iq]at h1 h3
  by_cases hxy:x<=y
  . rw[if_pos hxy,Nm]at h1 h3;obtain⟨i',rfl⟩:∃i',i=i'+1:=⟨i-1,by omega⟩
    have:=Yb xs (y::ys) t i' j hu'.2 (by omega) (by simpa using h2) (by omega) h4
    simpa using this
  . rw[if_neg hxy,Kn]at h1 h3
    have hx:x<=(x::xs).getD i 0:=by
     cases i with
     |zero=>simp
     |succ i=>
      have hi:i<xs.length:=by simpa using h2
      have:(x::xs).getD (i+1) 0=xs[i]:=by simp[List.getD,hi]
      rw[this];exact hu'.1 _ (WR _)
    cases j with
    |zero=>
     have:(y::ys).getD 0 0=y:=by simp
     omega
    |succ j=>
     have hle:=Mj (mrg (x::xs) ys) t;have:=Yb (x::xs) ys t i j hu h1 h2 (by omega) (by simpa using h4)
     simpa using this
termination_by xs ys=>xs.length+ys.length
theorem PT (W:List Int)(hW:Up W)(hp:∀x∈W,0<x)(hn:2<=W.length)(k:Nat)(hk:2*W.length-2<=(rowAt W k).length):Bn (rowAt W k) (2*W.length-2)=W.length:=by
 have hle:Bn (rowAt W k) (2*W.length-2)<=W.length:=by have:=Gt (rowAt W k) (2*W.length-2);rw[Dc]at this;exact this
 rcases YO (Bn (rowAt W k) (2*W.length-2)) W.length with ha|ha
 . exfalso
   have h5:(rowAt W k).length=W.length+(Dg W k).length:=by rw[Eu,Be]
   have h4:=Lf (rowAt W k) (2*W.length-2) hk;rw[Dc]at h4;have hq:W.length-1<=2*W.length-2-Bn (rowAt W k) (2*W.length-2):=by omega
   exact H9 W hW hp hn k (by omega) (Yb W (Dg W k) (2*W.length-2) (W.length-1) (W.length-2) hW (by rw[<-Eu];omega) (by omega) (by rw[<-Eu];omega) (by omega))
 . omega
theorem O1 (a:Option Addr)(len cap:Nat)(most:Int)(w:World)(hm:288<len)(hM:len<=9223372036854775807):
 Calls Tryz.prog 265 #[.slice a len cap,.int .i64 most] w fun e w'=>e=.returned (.int .i64 2)/\w'=w:=by
 have h:(288:Int)<(len:Int):=by omega
 go_enter Tryz.func265,Tryz.ntmps265
 go_wp2;go_ret;exact⟨rfl,rfl⟩
theorem OX (a:Option Addr)(len cap:Nat)(l:List Int)(most:Int)(w:World)(hl:l.length=len)(hm:len<=288)(hR:RowIn .i64 w a l)(j0:Nat)(hj0:j0<len)(hbad:okW (l.getD j0 0)=false)(hf:∀j,j<j0->okW (l.getD j 0)=true):
 Calls Tryz.prog 265 #[.slice a len cap,.int .i64 most] w fun e w'=>e=.returned (.int .i64 3)/\w'=w:=by
 obtain⟨b,o,rfl,hb,hR⟩:∃b o,a=some ⟨b,o,none⟩/\b<w.heap.size/\Row .i64 w b o l:=by
  rcases hR with rfl|h
  . simp at hl;omega
  . exact h
 have HR:=Ab hR;have HF:=Ab hf;clear hR hf;go_enter Tryz.func265,Tryz.ntmps265
 go_wp2;go_loop [5,7,13] (fun u y i=>∃k:Nat,k<=j0/\i=.int .i64 (k:Int)/\u=.int .i64 (((wpl l k).length:Nat):Int)) (fun _ _ i=>len-(intOf i).toNat)
 case atStart=>exact⟨0,VM _,rfl,rfl⟩
 case round=>
  obtain⟨k,hk,rfl,rfl⟩:=hrel;have hle:=Pt l k;have c1:=Aa HR k (by omega)
  by_cases hlt:k<j0
  . have hx:=AP (Aa HF k hlt);have HU:Hid ((wpl l (k+1)).length=(wpl l k).length+(if 0<l.getD k 0 then 1 else 0)):=by rw[wpl,VB];unfold Hid;split<;>simp
    generalize l.getD k 0=x at*;generalize (wpl l k).length=u at*;obtain⟨hx1,hx2⟩:=hx
    by_cases h0:0<x
    . rw[if_pos h0]at HU;go_wp2;go_round
      case rel=>exact⟨k+1,by omega,by go_num,by rw[Aa HU];go_num⟩
      case measure=>simp[intOf];omega
    . rw[if_neg h0]at HU;go_wp2;go_round
      case rel=>exact⟨k+1,by omega,by go_num,by rw[Aa HU];rfl⟩
      case measure=>simp[intOf];omega
  . obtain rfl:k=j0:=by omega
    generalize l.getD k 0=x at*;generalize (wpl l k).length=u at*;have hno:=B8 hbad;have hg:x<0\/1000000<x:=by omega
    clear hno hbad
    rcases hg with hg|hg
    . go_wp2;go_ret;exact⟨rfl,rfl⟩
    . have hg0:¬(x<0):=by omega
      go_wp2;go_ret;exact⟨rfl,rfl⟩
theorem GJ (a:Option Addr)(len cap:Nat)(l:List Int)(most:Int)(w:World)(hl:l.length=len)(hm:len<=288)(hR:RowIn .i64 w a l)(hf:∀j,j<len->okW (l.getD j 0)=true)(r:Int)(hr:Hid (r=if ¬(1<=most/\most<=15)then 3 else if 2^most.toNat<(wpl l len).length then 11 else 0)):
 Calls Tryz.prog 265 #[.slice a len cap,.int .i64 most] w fun e w'=>e=.returned (.int .i64 r)/\w'=w:=by
 have HR:=Ab hR;have HF:=Ab hf;clear hR hf;go_enter Tryz.func265,Tryz.ntmps265
 go_wp2;go_loop [5,7,13] (fun u y i=>∃k:Nat,k<=len/\i=.int .i64 (k:Int)/\u=.int .i64 (((wpl l k).length:Nat):Int)) (fun _ _ i=>len-(intOf i).toNat)
 case atStart=>exact⟨0,VM _,rfl,rfl⟩
 case round=>
  obtain⟨k,hk,rfl,rfl⟩:=hrel;have hle:=Pt l k
  by_cases hlt:k<len
  . have hlk:k<l.length:=by omega
    obtain⟨b,o,rfl,hb,hRw⟩:∃b o,a=some ⟨b,o,none⟩/\b<w.heap.size/\Row .i64 w b o l:=by
     rcases Aa HR with rfl|h
     . simp at hlk
     . exact h
    have c1:=hRw k hlk;have hx:=AP (Aa HF k hlt);have HU:Hid ((wpl l (k+1)).length=(wpl l k).length+(if 0<l.getD k 0 then 1 else 0)):=by rw[wpl,VB];unfold Hid;split<;>simp
    clear hRw;generalize l.getD k 0=x at*;generalize (wpl l k).length=u at*;obtain⟨hx1,hx2⟩:=hx
    by_cases h0:0<x
    . rw[if_pos h0]at HU;go_wp2;go_round
      case rel=>exact⟨k+1,by omega,by go_num,by rw[Aa HU];go_num⟩
      case measure=>simp[intOf];omega
    . rw[if_neg h0]at HU;go_wp2;go_round
      case rel=>exact⟨k+1,by omega,by go_num,by rw[Aa HU];rfl⟩
      case measure=>simp[intOf];omega
  . obtain rfl:k=len:=by omega
    generalize (wpl l k).length=u at*
    by_cases hlo:most<1
    . have HE:Hid (r=3):=by rw[Aa hr,if_pos (by omega)];exact rfl
      go_wp2;go_ret;exact⟨by rw[Aa HE];rfl,rfl⟩
    . by_cases hhi:15<most
      . have HE:Hid (r=3):=by rw[Aa hr,if_pos (by omega)];exact rfl
        go_wp2;go_ret;exact⟨by rw[Aa HE];rfl,rfl⟩
      . obtain⟨m,rfl⟩:=WD (show 0<=most by omega);rw[if_neg (by omega)]at hr
        have HW:Hid (wrap64 (2^m)=((2^m:Nat):Int)):=by
         have h1:2^m<=2^15:=VV (by decide) (by omega);have h2:((2:Int)^m)=((2^m:Nat):Int):=by push_cast;rfl
         unfold Hid;rw[h2];generalize 2^m=q at*;unfold wrap64;omega
        go_wp2
        . have h5:wrap64 (2^m)<(u:Int):=by assumption
          rw[Aa HW]at h5;have HE:r=11:=by rw[Aa hr,if_pos (by simp;omega)]
          go_ret;exact⟨by rw[HE];rfl,rfl⟩
        . have h5:(u:Int)<=wrap64 (2^m):=by assumption
          rw[Aa HW]at h5;have HE:r=0:=by rw[Aa hr,if_neg (by simp;omega)]
          go_ret;exact⟨by rw[HE];rfl,rfl⟩
theorem CU (a:Option Addr)(len cap:Nat)(l:List Int)(most:Int)(w:World)(hl:l.length=len)(hM:len<=9223372036854775807)(hR:RowIn .i64 w a l):
 Calls Tryz.prog 265 #[.slice a len cap,.int .i64 most] w fun e w'=>e=.returned (.int .i64 (Z19 l most))/\w'=w:=by
 by_cases hm:288<len
 . have e:Z19 l most=2:=by unfold Z19;rw[if_pos (by omega)]
   rw[e];exact O1 a len cap most w hm hM
 . rcases Rq (fun j=>okW (l.getD j 0)) len with hf|⟨j0,hj0,hbad,hf⟩
   . have hn:¬ ∃j,j<l.length/\okW (l.getD j 0)=false:=by
      rintro ⟨j,hj,e⟩;have:=hf j (by omega)
      simp only[e]at this
      cases this
     exact GJ a len cap l most w hl (by omega) hR hf _ (by unfold Z19;rw[if_neg (by omega),if_neg hn,hl];exact rfl)
   . have e:Z19 l most=3:=by unfold Z19;rw[if_neg (by omega),if_pos ⟨j0,by omega,hbad⟩]
     rw[e];exact OX a len cap l most w hl (by omega) hR j0 hj0 hbad hf
def GE (l s:List Int):Nat->Int
 |0=>0
 |k+1=>GE l s k+l.getD k 0*s.getD k 0
end Go.Proofs.YtieianhejdcgdaaGreatDoor
