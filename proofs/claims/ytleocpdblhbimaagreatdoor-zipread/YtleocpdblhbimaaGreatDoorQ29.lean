import Derived.Test.YtleocpdblhbimaaGreatDoorQ28
set_option linter.unusedSimpArgs false
set_option linter.unusedVariables false
set_option maxHeartbeats 1000000
namespace Go.Proofs.YtleocpdblhbimaaGreatDoor
open Go.RowKit
def Il (fs:List Bool):Nat->Nat
 |0=>0
 |k+1=>Il fs k+(if fs.getD k false=true then 1 else 0)
theorem P7 (E:List Bool):∀k,Il E k<=k
 |0=>VB _
 |k+1=>by
  have:=P7 E k
  rw[Il]
  split<;>omega
theorem Od (r:List (Int×Bool)):∀t,t<=r.length->Bz r t=Il (r.map Prod.snd) t
 |0,_=>by simp[Bz,Il]
 |t+1,h=>by
  have ih:=Od r t (by omega);have E:t<r.length:=by omega
  unfold Bz at*;rw[XB E,List.filter_append,VE,ih,Il];have e:(r.map Prod.snd).getD t false=r[t].2:=by simp[List.getD,E]
  rw[e]
  cases h:r[t].2<;>simp[h]
theorem Ty (v:Value)(ag:v.oneCell'=true)(F N c m:Nat)(E:List Bool)(w:World)(Z:E.length=N)(ai:m<=N)(ah:N<=2000)(I:BRow w F E):
 Calls Tryz.prog 262 #[.agg #[v,.slice (some ⟨F,0,none⟩) N c],.int .i64 m] w fun e w'=>e=.returned (.int .i64 ((Il E m:Nat):Int))/\Below w.heap.size w w':=by
 have O:=Ab I;have aa:=I.lt;clear I;go_enter Tryz.func262,Tryz.ntmps262
 go_wp2;have hb:(w.alloc (.cells #[v,.slice (some ⟨F,0,none⟩) N c] 340)).cell? ⟨w.heap.size,1,none⟩=some (.slice (some ⟨F,0,none⟩) N c):=by simp
 have Y:=Ab ((Below.refl w.heap.size w).alloc (VB _) (.cells #[v,.slice (some ⟨F,0,none⟩) N c] 340));have U:=Ab ((Aa O).alloc (.cells #[v,.slice (some ⟨F,0,none⟩) N c] 340));generalize w.alloc (.cells #[v,.slice (some ⟨F,0,none⟩) N c] 340)=W at*;go_loop [5,6,8] (fun T _ M=>∃k:Nat,k<=m/\M=.int .i64 (k:Int)/\T=.int .i64 ((Il E k:Nat):Int)) (fun _ _ M=>m-(intOf M).toNat)
 case atStart=>exact⟨0,VH _,rfl,rfl⟩
 case round=>
  obtain⟨k,aj,rfl,rfl⟩:=hrel;have ae:=P7 E k
  by_cases af:k<m
  . have c1:=((Aa U).at_ k (by omega)).1;have ac:(k:Int)<(N:Int):=by omega
    have G:Hid (Il E (k+1)=Il E k+(if E.getD k false=true then 1 else 0)):=rfl;generalize Il E k=u at*
    cases H:E.getD k false with
    |true=>
     rw[H]at c1 G;rw[if_pos rfl]at G;clear H;go_wp2;go_round
     case rel=>exact⟨k+1,by omega,by go_num,by rw[Aa G];go_num⟩
     case measure=>simp[intOf];omega
    |false=>
     rw[H]at c1 G;rw[if_neg (by simp)]at G;clear H;go_wp2;go_round
     case rel=>exact⟨k+1,by omega,by go_num,by rw[Aa G];rfl⟩
     case measure=>simp[intOf];omega
  . obtain rfl:k=m:=by omega
    go_wp2;go_ret;exact⟨rfl,Aa Y⟩
theorem Gy:∀(xs ys:List Int) (x:Int),x∈(mrg xs ys).map Prod.fst->x∈xs\/x∈ys
 | [],ys,x,h=>by
  rw[Kn]at h;simp at h
  exact .inr h
 |z::xs,[],x,h=>by
  rw[Nj,WQ,WH]at h
  rcases h with h|h
  . exact .inl (by rw[h];exact XP)
  . rcases Gy xs [] x h with h|h
    . exact .inl (WR _ h)
    . cases h
 |z::xs,y::ys,x,h=>by
  rw[Jc]at h
  split at h
  . rw[WQ,WH]at h
    rcases h with h|h
    . exact .inl (by rw[h];exact XP)
    . rcases Gy xs (y::ys) x h with h|h
      . exact .inl (WR _ h)
      . exact .inr h
  . rw[WQ,WH]at h
    rcases h with h|h
    . exact .inr (by rw[h];exact XP)
    . rcases Gy (z::xs) ys x h with h|h
      . exact .inl h
      . exact .inr (WR _ h)
termination_by xs ys=>xs.length+ys.length
theorem Xr:∀(xs:List Int) (x:Int),x∈prs xs->∃a b,a∈xs/\b∈xs/\x=a+b
 | [],x,h=>by simp[prs]at h
 | [y],x,h=>by simp[prs]at h
 |y::z::t,x,h=>by
  rw[prs,WH]at h
  rcases h with h|h
  . exact⟨y,z,by simp,by simp,h⟩
  . obtain⟨a,b,E,hb,e⟩:=Xr t x h;exact⟨a,b,by simp[E],by simp[hb],e⟩
theorem Iz (W:List Int):∀k,(rowAt W k).length<=2*W.length
 |0=>by rw[rowAt,Bo];simp;omega
 |k+1=>by
  have:=Iz W k
  rw[rowAt,Bo,Eo,WL];omega
theorem Kk (W:List Int)(M:Int)(E:∀x∈W,0<=x/\x<=M):∀k,∀x∈(rowAt W k).map Prod.fst,0<=x/\x<=M*2^k
 |0,x,h=>by
  rw[rowAt]at h
  rcases Gy W [] x h with h|h
  . have:=E x h;simpa using this
  . cases h
 |k+1,x,h=>by
  rw[rowAt]at h;have I:(0:Int)<2^k:=Int.pow_pos (by decide);rw[Int.pow_succ]
  rcases Gy _ _ x h with h|h
  . have:=E x h
    have H:0<=M:=by omega
    have F:M*1<=M*(2^k*2):=Int.mul_le_mul_of_nonneg_left (by omega) H;rw[Int.mul_one]at F;omega
  . obtain⟨a,b,G,hb,e⟩:=Xr _ x h;have O:=Kk W M E k a G;have F:=Kk W M E k b hb;rw[<-Int.mul_assoc];omega
theorem T3 (W:List Int)(F:∀x∈W,0<=x/\x<=1000000)(k:Nat)(E:k<=15)(j:Nat):0<=((rowAt W k).map Prod.fst).getD j 0/\((rowAt W k).map Prod.fst).getD j 0<=1000000000000:=by
 by_cases G:j<((rowAt W k).map Prod.fst).length
 . have h:=Kk W 1000000 F k (((rowAt W k).map Prod.fst).getD j 0) (by simp only[List.getD,VP G,YH];exact WK _);have I:(2:Nat)^k<=2^15:=VO (by decide) E;have H:((2:Int)^k)=((2^k:Nat):Int):=by push_cast;rfl
   rw[H]at h;generalize 2^k=q at*;omega
 . rw[List.getD,WJ (by omega)];decide
structure StSt (w W:World)(g m:Nat)(Ws:List Int)(k:Nat)(A B:Nat->Nat):Prop where
 glo:w.heap.size<=g
 ghi:g<W.heap.size
 fz:∀j,W.frozen? ⟨g,j,none⟩=false
 done:∀i,i<k->W.cell? ⟨g,i*2,none⟩=some (.slice (some ⟨A i,0,none⟩) (rowAt Ws i).length (rowAt Ws i).length)/\W.cell? ⟨g,i*2+1,none⟩=some (.slice (some ⟨B i,0,none⟩) (rowAt Ws i).length (rowAt Ws i).length)
 todo:∀i,k<=i->i<m->W.cell? ⟨g,i*2,none⟩=some (.slice none 0 0)/\W.cell? ⟨g,i*2+1,none⟩=some (.slice none 0 0)
 ws:∀i,i<k->w.heap.size<=A i/\A i≠g/\WRow W (A i) ((rowAt Ws i).map Prod.fst)
 fs:∀i,i<k->w.heap.size<=B i/\B i≠g/\BRow W (B i) ((rowAt Ws i).map Prod.snd)
 bel:Below w.heap.size w W
theorem StSt.below {w W W':World}{G m:Nat}{I:List Int}{k:Nat}{M B:Nat->Nat}(E:StSt w W G m I k M B)(F:Below W.heap.size W W'):StSt w W' G m I k M B:=by
 have T:w.heap.size<=W.heap.size:=E.bel.size;refine⟨E.glo,VG E.ghi F.size,fun j=> ?_,fun i hi=>⟨?_, ?_⟩,fun i O H=>⟨?_, ?_⟩,fun i hi=>⟨(E.ws i hi).1,(E.ws i hi).2.1,(E.ws i hi).2.2.below F (E.ws i hi).2.2.lt⟩,fun i hi=>⟨(E.fs i hi).1,(E.fs i hi).2.1,(E.fs i hi).2.2.below F (E.fs i hi).2.2.lt⟩,E.bel.trans (F.mono T)⟩
 . rw[F.frozen (p:=⟨G,j,none⟩) E.ghi];exact E.fz j
 . rw[F.cell (p:=⟨G,i*2,none⟩) E.ghi];exact(E.done i hi).1
 . rw[F.cell (p:=⟨G,i*2+1,none⟩) E.ghi];exact(E.done i hi).2
 . rw[F.cell (p:=⟨G,i*2,none⟩) E.ghi];exact(E.todo i O H).1
 . rw[F.cell (p:=⟨G,i*2+1,none⟩) E.ghi];exact(E.todo i O H).2
theorem StSt.next {w W:World}{E m:Nat}{I:List Int}{k:Nat}{Y B:Nat->Nat}(F:StSt w W E m I k Y B)(Z:k<m)(a b:Nat)(O:w.heap.size<=a/\a≠E)(M:w.heap.size<=b/\b≠E)(ag:WRow W a ((rowAt I k).map Prod.fst))(ae:BRow W b ((rowAt I k).map Prod.snd))(H:Nat)(af:H=(rowAt I k).length):
 StSt w ((W.setCell ⟨E,k*2,none⟩ (.slice (some ⟨a,0,none⟩) H H)).setCell ⟨E,k*2+1,none⟩ (.slice (some ⟨b,0,none⟩) H H)) E m I (k+1) (fun i=>if i=k then a else Y i) (fun i=>if i=k then b else B i):=by
 subst af
 have o:∀j x y,j≠k*2->j≠k*2+1->((W.setCell ⟨E,k*2,none⟩ x).setCell ⟨E,k*2+1,none⟩ y).cell? ⟨E,j,none⟩=W.cell? ⟨E,j,none⟩:=fun j x y ai e2=>
  (World.cell?_setCell_other _ _ _ _ (by intro F;injection F;omega)).trans (World.cell?_setCell_other _ _ _ _ (by intro F;injection F;omega))
 have aa:∀x y,((W.setCell ⟨E,k*2,none⟩ x).setCell ⟨E,k*2+1,none⟩ y).cell? ⟨E,k*2,none⟩=some x:=fun x y=>
  (World.cell?_setCell_other _ _ _ _ (by intro F;injection F;omega)).trans (World.cell?_setCell_same _ _ _ (F.todo k (VB _) Z).1)
 have ah:∀x y,((W.setCell ⟨E,k*2,none⟩ x).setCell ⟨E,k*2+1,none⟩ y).cell? ⟨E,k*2+1,none⟩=some y:=fun x y=>
  World.cell?_setCell_same _ _ _ ((World.cell?_setCell_other _ _ _ _ (by intro F;injection F;omega)).trans (F.todo k (VB _) Z).2)
 refine⟨F.glo,by simpa using F.ghi,fun j=>by simp[F.fz j],fun i hi=> ?_,fun i aj ac=> ?_,fun i hi=> ?_,fun i hi=> ?_,(F.bel.setCell (p:=⟨E,k*2,none⟩) F.glo _).setCell (p:=⟨E,k*2+1,none⟩) F.glo _⟩
 . by_cases e:i=k
   . subst e;simp only[if_true];exact⟨aa _ _,ah _ _⟩
   . simp only[if_neg e];rw[o _ _ _ (by omega) (by omega),o _ _ _ (by omega) (by omega)];exact F.done i (by omega)
 . rw[o _ _ _ (by omega) (by omega),o _ _ _ (by omega) (by omega)];exact F.todo i (by omega) ac
 . by_cases e:i=k
   . subst e;simp only[if_true];exact⟨O.1,O.2,(ag.other (a:=⟨E,i*2,none⟩) (fun e=>O.2 e.symm) _).other (a:=⟨E,i*2+1,none⟩) (fun e=>O.2 e.symm) _⟩
   . simp only[if_neg e];obtain⟨U,G,T⟩:=F.ws i (by omega);exact⟨U,G,(T.other (a:=⟨E,k*2,none⟩) (fun e=>G e.symm) _).other (a:=⟨E,k*2+1,none⟩) (fun e=>G e.symm) _⟩
 . by_cases e:i=k
   . subst e;simp only[if_true];exact⟨M.1,M.2,(ae.other (a:=⟨E,i*2,none⟩) (fun e=>M.2 e.symm) _).other (a:=⟨E,i*2+1,none⟩) (fun e=>M.2 e.symm) _⟩
   . simp only[if_neg e];obtain⟨U,G,T⟩:=F.fs i (by omega);exact⟨U,G,(T.other (a:=⟨E,k*2,none⟩) (fun e=>G e.symm) _).other (a:=⟨E,k*2+1,none⟩) (fun e=>G e.symm) _⟩
theorem Lw:∀xs ys:List Int,((mrg xs ys).filter Prod.snd).length=xs.length
 | [],ys=>by
  rw[Kn];simp
 |x::xs,[]=>by
  rw[Nj,List.filter_cons_of_pos (by simp),VJ,Lw xs []];simp
 |x::xs,y::ys=>by
  rw[Jc]
  split
  . rw[List.filter_cons_of_pos (by simp),VJ,Lw xs (y::ys)];simp
  . rw[List.filter_cons_of_neg (by simp),Lw (x::xs) ys]
termination_by xs ys=>xs.length+ys.length
theorem Gt (r:List (Int×Bool))(t:Nat):Bz r t<=(r.filter Prod.snd).length:=by
 unfold Bz;have h:=((List.take_sublist t r).filter Prod.snd).length_le;exact h
theorem Mw (r:List (Int×Bool))(t:Nat):Bz r t<=t:=by
 unfold Bz;have h:=List.length_filter_le Prod.snd (r.take t);have E:(r.take t).length<=t:=by simp;omega
 omega
theorem Ls (r:List (Int×Bool))(t:Nat)(F:t<=r.length):t-Bz r t<=r.length-(r.filter Prod.snd).length:=by
 have H:(r.filter Prod.snd).length=((r.take t).filter Prod.snd).length+((r.drop t).filter Prod.snd).length:=by
  rw[<-VE,<-List.filter_append,YW]
 have E:=List.length_filter_le Prod.snd (r.drop t);have I:(r.drop t).length=r.length-t:=by simp
 have G:=Mw r t;unfold Bz at*;omega
theorem Gw (W:List Int)(k:Nat):(rowAt W (k+1)).length=W.length+(rowAt W k).length/2:=by
 rw[rowAt,Bo,Eo,WL]
theorem Dj (W:List Int):∀k,((rowAt W k).filter Prod.snd).length=W.length
 |0=>by rw[rowAt,Lw]
 |k+1=>by rw[rowAt,Lw]
theorem Uy (W:List Int)(E:1<=W.length):∀k,2*W.length<=(rowAt W k).length+1+(W.length-1)/2^k
 |0=>by rw[rowAt,Bo];simp;omega
 |k+1=>by
  have ih:=Uy W E k;have e:(W.length-1)/2^(k+1)=(W.length-1)/2^k/2:=by rw[XC,Nat.div_div_eq_div_mul]
  rw[Gw,e];generalize (W.length-1)/2^k=x at*;omega
theorem Ux (W:List Int)(m:Nat)(E:1<=W.length)(F:1<=m)(H:W.length<=2^m):2*(W.length-1)<=(rowAt W (m-1)).length:=by
 have h:=Uy W E (m-1)
 have G:(W.length-1)/2^(m-1)<2:=by
  rw[Nat.div_lt_iff_lt_mul (Nat.pow_pos (by decide))]
  have:2*2^(m-1)=2^m:=by
   obtain⟨q,rfl⟩:∃q,m=q+1:=⟨m-1,by omega⟩
   rw[YA,XC,YF]
  omega
 omega
theorem Lg (W:List Int)(m:Nat)(G:1<=W.length)(F:1<=m)(H:W.length<=2^m):∀i,i<m->Cr W m i<=(rowAt W (m-1-i)).length
 |0,_=>by rw[Cr];exact Ux W m G F H
 |i+1,hi=>by
  have ih:=Lg W m G F H i (by omega);have I:=Ls _ _ ih;obtain⟨q,E⟩:∃q,m-1-i=q+1:=⟨m-1-i-1,by omega⟩
  have M:m-1-(i+1)=q:=by omega
  rw[Dj,E,Gw]at I;rw[Cr,M,E];omega
theorem Wh (W:List Int)(m i:Nat):Bi W m i<=W.length:=by
 have:=Gt (rowAt W (m-1-i)) (Cr W m i)
 rw[Dj]at this;exact this
theorem Oe (W:List Int)(m i:Nat):Bi W m i<=Cr W m i:=Mw _ _
theorem Qi (W:List Int)(m i:Nat):Cr W m (i+1)=2*(Cr W m i-Bi W m i):=rfl
theorem Ek (n:Nat)(P:List Nat)(W:List Int)(m:Nat):∀i,(Ez n P W m i).length=n
 |0=>by simp[Ez]
 |i+1=>by rw[Ez,Ca,Ek n P W m i]
theorem Ny (n:Nat)(P:List Nat)(W:List Int)(m:Nat)(E:P.length<=288):∀i,∀j,0<=(Ez n P W m i).getD j 0/\(Ez n P W m i).getD j 0<=288*i
 |0,j=>by
  simp only[Ez]
  by_cases h:j<n
  . simp[List.getD,h]
  . simp[List.getD,h]
 |i+1,j=>by
  have h:=Kv (P.take (Bi W m i)) (Ny n P W m E i) j;have F:(P.take (Bi W m i)).length<=288:=by simp;omega
  rw[Ez];omega
theorem RiseOf.lt {l:List Int}{P:List Nat}(E:RiseOf l P):∀p∈P,p<l.length:=fun p F=>JY l _ p (E.perm.mem_iff.1 F)
theorem RiseOf.length {l:List Int}{P:List Nat}(E:RiseOf l P):P.length=(wpl l l.length).length:=E.perm.length_eq
def Z7i:List Int->Int
 | []=>0
 |x::xs=>x+Z7i xs
theorem Wg (r:List (Int×Bool)):Bz r 0=0:=by simp[Bz]
theorem Nv (x:Int)(r:List (Int×Bool))(t:Nat):Bz ((x,true)::r) (t+1)=Bz r t+1:=by simp[Bz]
theorem Kx (x:Int)(r:List (Int×Bool))(t:Nat):Bz ((x,false)::r) (t+1)=Bz r t:=by simp[Bz]
theorem AJ (ys:List Int):∀t,Bz (ys.map fun y=>(y,false)) t=0:=by
 induction ys with
 |nil=>intro t;simp[Bz]
 |cons y ys ih=>
  intro t
  cases t with
  |zero=>exact Wg _
  |succ t=>rw[WQ,Kx,ih]
theorem Lx:∀(xs ys:List Int) (t:Nat),(((mrg xs ys).take t).map Prod.fst).Perm (xs.take (Bz (mrg xs ys) t)++ys.take (t-Bz (mrg xs ys) t))
 |xs,ys,0=>by rw[Wg];simp
 | [],ys,t+1=>by
  rw[Kn,AJ];simp[ZA]
 |x::xs,[],t+1=>by
  have ih:=Lx xs [] t;rw[Nj,XU,WQ,Nv,XU];simp only[List.take_nil,XA]at*;exact List.Perm.cons x ih
 |x::xs,y::ys,t+1=>by
  rw[Jc]
  split
  . have ih:=Lx xs (y::ys) t;rw[XU,WQ,Nv,XU,show t+1-(Bz (mrg xs (y::ys)) t+1)=t-Bz (mrg xs (y::ys)) t by omega];exact List.Perm.cons x ih
  . have ih:=Lx (x::xs) ys t;have E:=Mw (mrg (x::xs) ys) t;rw[XU,WQ,Kx,show t+1-Bz (mrg (x::xs) ys) t=(t-Bz (mrg (x::xs) ys) t)+1 by omega,XU];exact(List.Perm.cons y ih).trans List.perm_middle.symm
termination_by xs ys=>xs.length+ys.length
abbrev Up (xs:List Int):Prop:=xs.Pairwise (· <= ·)
theorem E7:∀xs ys:List Int,Up xs->Up ys->Up ((mrg xs ys).map Prod.fst)
 | [],ys,_,h=>by rw[Kn,ZU];simpa[ZA]using h
 |x::xs,[],h,h2=>by
  have h:=XH.1 h;rw[Nj,WQ];refine XH.2 ⟨fun z E=> ?_,E7 xs [] h.2 h2⟩
  rcases Gy xs [] z E with E|E
  . exact h.1 z E
  . cases E
 |x::xs,y::ys,h,h2=>by
  have H:=XH.1 h;have G:=XH.1 h2;rw[Jc]
  split
  . rename_i F
    rw[WQ];refine XH.2 ⟨fun z E=> ?_,E7 xs (y::ys) H.2 h2⟩
    rcases Gy xs (y::ys) z E with E|E
    . exact H.1 z E
    . rcases WH.1 E with rfl|E
      . exact F
      . exact Int.le_trans F (G.1 z E)
  . rename_i F
    rw[WQ];refine XH.2 ⟨fun z E=> ?_,E7 (x::xs) ys h G.2⟩;show y<=z
    rcases Gy (x::xs) ys z E with E|E
    . rcases WH.1 E with rfl|E
      . omega
      . have:=H.1 z E;omega
    . exact G.1 z E
termination_by xs ys=>xs.length+ys.length
theorem Z2i:∀xs:List Int,Up xs->Up (prs xs)
 | [],_=>by simp[prs]
 | [x],_=>by simp[prs]
 |x::y::t,h=>by
  have F:=XH.1 h;have E:=XH.1 F.2;rw[prs];refine XH.2 ⟨fun z G=> ?_,Z2i t E.2⟩;obtain⟨a,b,H,hb,rfl⟩:=Xr t z G;have I:=F.1 a (by simp[H]);have e2:=E.1 b hb;show x+y<=a+b
  omega
theorem Xj (W:List Int)(E:Up W):∀k,Up ((rowAt W k).map Prod.fst)
 |0=>by rw[rowAt];exact E7 W [] E .nil
 |k+1=>by rw[rowAt];exact E7 W _ E (Z2i _ (Xj W E k))
theorem Lm (W:List Int)(F:∀x∈W,0<x):∀k,∀x∈(rowAt W k).map Prod.fst,0<x
 |0,x,hx=>by
  rw[rowAt]at hx
  rcases Gy W [] x hx with E|E
  . exact F x E
  . cases E
 |k+1,x,hx=>by
  rw[rowAt]at hx
  rcases Gy W _ x hx with E|E
  . exact F x E
  . obtain⟨a,b,G,hb,rfl⟩:=Xr _ x E;have H:=Lm W F k a G;have e2:=Lm W F k b hb;omega
def Dl (W:List Int):Nat->List Int
 |0=> []
 |k+1=>prs ((rowAt W k).map Prod.fst)
theorem Ew (W:List Int):∀k,rowAt W k=mrg W (Dl W k)
 |0=>rfl
 |k+1=>rfl
theorem Z27 {xs:List Int}(F:Up xs){i j:Nat}(G:i<=j)(E:j<xs.length):xs.getD i 0<=xs.getD j 0:=by
 by_cases e:i=j
 . subst e;exact Int.le_refl _
 . have:=(YE.1 F) i j (by omega) E (by omega)
   simpa[List.getD,E,show i<xs.length by omega]using this
theorem Hz {xs:List Int}{i t:Nat}(E:i<t)(G:i<xs.length):xs.getD i 0∈xs.take t:=by
 have:(xs.take t).getD i 0=xs.getD i 0:=by simp[List.getD,E]
 rw[<-this];have F:i<(xs.take t).length:=by simp;omega
 simp only[List.getD,VP F,YH];exact WK _
theorem L7 (W:List Int)(M:Up W)(F:∀x∈W,0<x)(aa:2<=W.length):∀k,W.length-1<=(Dl W k).length->(Dl W k).getD (W.length-2) 0<W.getD (W.length-1) 0->False
 |0,h,_=>by simp[Dl]at h;omega
 |k+1,h,h2=>by
  have Y:(Dl W (k+1)).length=(rowAt W k).length/2:=by rw[Dl,Eo,WL]
  rw[Y]at h;have I:2*W.length-3<((rowAt W k).map Prod.fst).length:=by rw[WL];omega
  have af:(Dl W (k+1)).getD (W.length-2) 0=((rowAt W k).map Prod.fst).getD (2*(W.length-2)) 0+((rowAt W k).map Prod.fst).getD (2*(W.length-2)+1) 0:=Ow _ _ (by rw[WL];omega)
  have ak:0<((rowAt W k).map Prod.fst).getD (2*(W.length-2)) 0:=Lm W F k _ (by
   have Z:2*(W.length-2)<((rowAt W k).map Prod.fst).length:=by omega
   simp only[List.getD,VP Z,YH];exact WK _)
  have ai:((rowAt W k).map Prod.fst).getD (2*W.length-3) 0<W.getD (W.length-1) 0:=by
   rw[show 2*W.length-3=2*(W.length-2)+1 by omega];omega
  have G:∀z∈((rowAt W k).take (2*W.length-2)).map Prod.fst,z<W.getD (W.length-1) 0:=by
   intro z H;rw[List.map_take]at H;obtain⟨i,hi,rfl⟩:=XI H;have aj:i<2*W.length-2:=by simp at hi;omega
   have O:i<((rowAt W k).map Prod.fst).length:=by simp at hi;simp;omega
   have:=Z27 (Xj W M k) (i:=i) (j:=2*W.length-3) (by omega) I
   have e:((rowAt W k).map Prod.fst).getD i 0=(((rowAt W k).map Prod.fst).take (2*W.length-2))[i]:=by simp only[List.getD,VP O,YH,YN]
   rw[e]at this;omega
  have E:=Lx W (Dl W k) (2*W.length-2);rw[<-Ew]at E;have ag:Bz (rowAt W k) (2*W.length-2)<=W.length:=by have:=Gt (rowAt W k) (2*W.length-2);rw[Dj]at this;exact this
  have ac:2*W.length-2-Bz (rowAt W k) (2*W.length-2)<=(Dl W k).length:=by
   have U:=Ls (rowAt W k) (2*W.length-2) (by rw[WL]at I;omega);have ae:(rowAt W k).length=W.length+(Dl W k).length:=by rw[Ew,Bo]
   rw[Dj]at U;omega
  by_cases T:Bz (rowAt W k) (2*W.length-2)=W.length
  . have:W.getD (W.length-1) 0<W.getD (W.length-1) 0:=G _ (E.mem_iff.2 (List.mem_append_left _ (by rw[T];exact Hz (by omega) (by omega))))
    omega
  . have ah:W.length-1<=2*W.length-2-Bz (rowAt W k) (2*W.length-2):=by omega
    exact L7 W M F aa k (by omega) (G _ (E.mem_iff.2 (List.mem_append_right _ (Hz (by omega) (by omega)))))
theorem Yw:∀(xs ys:List Int) (t i j:Nat),Up xs->Bz (mrg xs ys) t<=i->i<xs.length->j<t-Bz (mrg xs ys) t->j<ys.length->ys.getD j 0<xs.getD i 0
 |xs,ys,0,i,j,_,_,_,h,_=>by omega
 | [],ys,t+1,i,j,_,_,h,_,_=>by simp at h
 |x::xs,[],t+1,i,j,_,_,_,_,h=>by simp at h
 |x::xs,y::ys,t+1,i,j,hu,h1,h2,h3,h4=>by
  have G:=XH.1 hu;rw[Jc]at h1 h3
  by_cases F:x<=y
  . rw[if_pos F,Nv]at h1 h3;obtain⟨E,rfl⟩:∃E,i=E+1:=⟨i-1,by omega⟩
    have:=Yw xs (y::ys) t E j G.2 (by omega) (by simpa using h2) (by omega) h4
    simpa using this
  . rw[if_neg F,Kx]at h1 h3
    have H:x<=(x::xs).getD i 0:=by
     cases i with
     |zero=>simp
     |succ i=>
      have hi:i<xs.length:=by simpa using h2
      have:(x::xs).getD (i+1) 0=xs[i]:=by simp[List.getD,hi]
      rw[this];exact G.1 _ (WK _)
    cases j with
    |zero=>
     have:(y::ys).getD 0 0=y:=by simp
     omega
    |succ j=>
     have I:=Mw (mrg (x::xs) ys) t;have:=Yw (x::xs) ys t i j hu h1 h2 (by omega) (by simpa using h4)
     simpa using this
termination_by xs ys=>xs.length+ys.length
theorem RU (W:List Int)(E:Up W)(F:∀x∈W,0<x)(M:2<=W.length)(k:Nat)(G:2*W.length-2<=(rowAt W k).length):Bz (rowAt W k) (2*W.length-2)=W.length:=by
 have U:Bz (rowAt W k) (2*W.length-2)<=W.length:=by have:=Gt (rowAt W k) (2*W.length-2);rw[Dj]at this;exact this
 rcases ZQ (Bz (rowAt W k) (2*W.length-2)) W.length with H|H
 . exfalso
   have T:(rowAt W k).length=W.length+(Dl W k).length:=by rw[Ew,Bo]
   have I:=Ls (rowAt W k) (2*W.length-2) G;rw[Dj]at I;have O:W.length-1<=2*W.length-2-Bz (rowAt W k) (2*W.length-2):=by omega
   exact L7 W E F M k (by omega) (Yw W (Dl W k) (2*W.length-2) (W.length-1) (W.length-2) E (by rw[<-Ew];omega) (by omega) (by rw[<-Ew];omega) (by omega))
 . omega
theorem Q7 (a:Option Addr)(E G:Nat)(F:Int)(w:World)(H:288<E)(I:E<=9223372036854775807):
 Calls Tryz.prog 257 #[.slice a E G,.int .i64 F] w fun e w'=>e=.returned (.int .i64 2)/\w'=w:=by
 have h:(288:Int)<(E:Int):=by omega
 go_enter Tryz.func257,Tryz.ntmps257
 go_wp2;go_ret;exact⟨rfl,rfl⟩
theorem QU (a:Option Addr)(F aa:Nat)(l:List Int)(Y:Int)(w:World)(Z:l.length=F)(ak:F<=288)(H:RowIn .i64 w a l)(E:Nat)(al:E<F)(T:okW (l.getD E 0)=false)(M:∀j,j<E->okW (l.getD j 0)=true):
 Calls Tryz.prog 257 #[.slice a F aa,.int .i64 Y] w fun e w'=>e=.returned (.int .i64 3)/\w'=w:=by
 obtain⟨b,o,rfl,hb,H⟩:∃b o,a=some ⟨b,o,none⟩/\b<w.heap.size/\Row .i64 w b o l:=by
  rcases H with rfl|h
  . simp at Z;omega
  . exact h
 have ag:=Ab H;have U:=Ab M;clear H M;go_enter Tryz.func257,Tryz.ntmps257
 go_wp2;go_loop [5,7,13] (fun u y i=>∃k:Nat,k<=E/\i=.int .i64 (k:Int)/\u=.int .i64 (((wpl l k).length:Nat):Int)) (fun _ _ i=>F-(intOf i).toNat)
 case atStart=>exact⟨0,VH _,rfl,rfl⟩
 case round=>
  obtain⟨k,ap,rfl,rfl⟩:=hrel;have ai:=Pt l k;have c1:=Aa ag k (by omega)
  by_cases ac:k<E
  . have af:=BX (Aa U k ac);have G:Hid ((wpl l (k+1)).length=(wpl l k).length+(if 0<l.getD k 0 then 1 else 0)):=by rw[wpl,VE];unfold Hid;split<;>simp
    generalize l.getD k 0=x at*;generalize (wpl l k).length=u at*;obtain⟨ah,ao⟩:=af
    by_cases O:0<x
    . rw[if_pos O]at G;go_wp2;go_round
      case rel=>exact⟨k+1,by omega,by go_num,by rw[Aa G];go_num⟩
      case measure=>simp[intOf];omega
    . rw[if_neg O]at G;go_wp2;go_round
      case rel=>exact⟨k+1,by omega,by go_num,by rw[Aa G];rfl⟩
      case measure=>simp[intOf];omega
  . obtain rfl:k=E:=by omega
    generalize l.getD k 0=x at*;generalize (wpl l k).length=u at*;have ae:=D6 T;have I:x<0\/1000000<x:=by omega
    clear ae T
    rcases I with I|I
    . go_wp2;go_ret;exact⟨rfl,rfl⟩
    . have aj:¬(x<0):=by omega
      go_wp2;go_ret;exact⟨rfl,rfl⟩
theorem JA (a:Option Addr)(E ae:Nat)(l:List Int)(F:Int)(w:World)(ak:l.length=E)(ap:E<=288)(Z:RowIn .i64 w a l)(O:∀j,j<E->okW (l.getD j 0)=true)(r:Int)(H:Hid (r=if ¬(1<=F/\F<=15)then 3 else if 2^F.toNat<(wpl l E).length then 11 else 0)):
 Calls Tryz.prog 257 #[.slice a E ae,.int .i64 F] w fun e w'=>e=.returned (.int .i64 r)/\w'=w:=by
 have ai:=Ab Z;have ac:=Ab O;clear Z O;go_enter Tryz.func257,Tryz.ntmps257
 go_wp2;go_loop [5,7,13] (fun u y i=>∃k:Nat,k<=E/\i=.int .i64 (k:Int)/\u=.int .i64 (((wpl l k).length:Nat):Int)) (fun _ _ i=>E-(intOf i).toNat)
 case atStart=>exact⟨0,VH _,rfl,rfl⟩
 case round=>
  obtain⟨k,au,rfl,rfl⟩:=hrel;have ao:=Pt l k
  by_cases af:k<E
  . have U:k<l.length:=by omega
    obtain⟨b,o,rfl,hb,T⟩:∃b o,a=some ⟨b,o,none⟩/\b<w.heap.size/\Row .i64 w b o l:=by
     rcases Aa ai with rfl|h
     . simp at U
     . exact h
    have c1:=T k U;have ah:=BX (Aa ac k af);have I:Hid ((wpl l (k+1)).length=(wpl l k).length+(if 0<l.getD k 0 then 1 else 0)):=by rw[wpl,VE];unfold Hid;split<;>simp
    clear T;generalize l.getD k 0=x at*;generalize (wpl l k).length=u at*;obtain⟨al,ar⟩:=ah
    by_cases Y:0<x
    . rw[if_pos Y]at I;go_wp2;go_round
      case rel=>exact⟨k+1,by omega,by go_num,by rw[Aa I];go_num⟩
      case measure=>simp[intOf];omega
    . rw[if_neg Y]at I;go_wp2;go_round
      case rel=>exact⟨k+1,by omega,by go_num,by rw[Aa I];rfl⟩
      case measure=>simp[intOf];omega
  . obtain rfl:k=E:=by omega
    generalize (wpl l k).length=u at*
    by_cases av:F<1
    . have G:Hid (r=3):=by rw[Aa H,if_pos (by omega)];exact rfl
      go_wp2;go_ret;exact⟨by rw[Aa G];rfl,rfl⟩
    . by_cases aj:15<F
      . have G:Hid (r=3):=by rw[Aa H,if_pos (by omega)];exact rfl
        go_wp2;go_ret;exact⟨by rw[Aa G];rfl,rfl⟩
      . obtain⟨m,rfl⟩:=WF (show 0<=F by omega);rw[if_neg (by omega)]at H
        have aa:Hid (wrap64 (2^m)=((2^m:Nat):Int)):=by
         have aw:2^m<=2^15:=VO (by decide) (by omega);have ag:((2:Int)^m)=((2^m:Nat):Int):=by push_cast;rfl
         unfold Hid;rw[ag];generalize 2^m=q at*;unfold wrap64;omega
        go_wp2
        . have M:wrap64 (2^m)<(u:Int):=by assumption
          rw[Aa aa]at M;have G:r=11:=by rw[Aa H,if_pos (by simp;omega)]
          go_ret;exact⟨by rw[G];rfl,rfl⟩
        . have M:(u:Int)<=wrap64 (2^m):=by assumption
          rw[Aa aa]at M;have G:r=0:=by rw[Aa H,if_neg (by simp;omega)]
          go_ret;exact⟨by rw[G];rfl,rfl⟩
theorem ED (a:Option Addr)(E H:Nat)(l:List Int)(F:Int)(w:World)(I:l.length=E)(U:E<=9223372036854775807)(O:RowIn .i64 w a l):
 Calls Tryz.prog 257 #[.slice a E H,.int .i64 F] w fun e w'=>e=.returned (.int .i64 (Z2x l F))/\w'=w:=by
 by_cases hm:288<E
 . have e:Z2x l F=2:=by unfold Z2x;rw[if_pos (by omega)]
   rw[e];exact Q7 a E H F w hm U
 . rcases Ml (fun j=>okW (l.getD j 0)) E with G|⟨M,Y,T,G⟩
   . have hn:¬ ∃j,j<l.length/\okW (l.getD j 0)=false:=by
      rintro ⟨j,Z,e⟩;have:=G j (by omega)
      simp only[e]at this
      cases this
     exact JA a E H l F w I (by omega) O G _ (by unfold Z2x;rw[if_neg (by omega),if_neg hn,I];exact rfl)
   . have e:Z2x l F=3:=by unfold Z2x;rw[if_neg (by omega),if_pos ⟨M,by omega,T⟩]
     rw[e];exact QU a E H l F w I (by omega) O M Y T G
def IW (l s:List Int):Nat->Int
 |0=>0
 |k+1=>IW l s k+l.getD k 0*s.getD k 0
theorem IV (l xs:List Int)(p:Nat)(F:p<xs.length):∀k,IW l (Tb xs p) k=IW l xs k+(if p<k then l.getD p 0 else 0)
 |0=>by simp[IW]
 |k+1=>by
  rw[IW,IW,IV l xs p F k]
  have e:(Tb xs p).getD k 0=if p=k then xs.getD p 0+1 else xs.getD k 0:=by
   unfold Tb;rw[Mg]
   by_cases h:p=k
   . rw[if_pos ⟨h,F⟩,if_pos h]
   . rw[if_neg (fun E=>h E.1),if_neg h]
  rw[e]
  by_cases h:p=k
  . subst h;rw[if_pos rfl,if_neg (by omega),if_pos (by omega),Int.mul_add,Int.mul_one];omega
  . rw[if_neg h]
    by_cases E:p<k
    . rw[if_pos E,if_pos (by omega)];omega
    . rw[if_neg E,if_neg (by omega)];omega
def Z66 (W:List Int)(m:Nat):Nat->Int
 |0=>0
 |i+1=>Z66 W m i+Z7i (W.take (Bi W m i))
def Z94 (W:List Int)(k t:Nat):Int:=Z7i (((rowAt W k).take t).map Prod.fst)
def least (W:List Int)(m:Nat):Int:=if W.length<2 then Z7i W else Z94 W (m-1) (2*(W.length-1))
theorem Nu (p:Nat):∀(E:List Nat) (xs:List Int),E.Nodup->(∀q∈E,q<xs.length)->(Cq xs E).getD p 0=xs.getD p 0+(if p∈E then 1 else 0)
 | [],xs,_,_=>by simp[Cq]
 |q::E,xs,hn,h=>by
  have F:=List.nodup_cons.1 hn;have ih:=Nu p E (Tb xs q) F.2 (fun r hr=>by rw[Kw];exact h r (WR _ hr));show (Cq (Tb xs q) E).getD p 0=_
  rw[ih];unfold Tb;rw[Mg];have G:=h q XP
  by_cases e:q=p
  . subst e;rw[if_pos ⟨rfl,G⟩,if_neg F.1,if_pos XP];omega
  . rw[if_neg (fun H=>e H.1)]
    have:(p∈q::E)↔p∈E:=by
     rw[WH];exact⟨fun h=>h.resolve_left (fun h=>e h.symm),.inr⟩
    simp only[this]
theorem RiseOf.nodup {l:List Int}{P:List Nat}(E:RiseOf l P):P.Nodup:=by
 refine E.srt.imp ?_;intro a b F e;subst e;omega
theorem RiseOf.mem {l:List Int}{P:List Nat}(E:RiseOf l P)(p:Nat):p∈P↔p<l.length/\0<l.getD p 0:=by rw[E.perm.mem_iff,X6]
theorem RiseOf.up {l:List Int}{P:List Nat}(E:RiseOf l P):Up (P.map fun p=>l.getD p 0):=by
 rw[Up,List.pairwise_map];exact E.srt.imp (fun {a b} hab=>by omega)
theorem RiseOf.pos {l:List Int}{P:List Nat}(E:RiseOf l P):∀x∈(P.map fun p=>l.getD p 0),0<x:=by
 intro x G;obtain⟨p,F,rfl⟩:=XG.1 G;exact((E.mem p).1 F).2
def J1 (P:List Nat)(W:List Int)(m p:Nat):Nat->Nat
 |0=>0
 |i+1=>J1 P W m p i+(if p∈P.take (Bi W m i)then 1 else 0)
theorem OT (P:List Nat)(W:List Int)(m p:Nat):∀i,J1 P W m p i<=i
 |0=>VB _
 |i+1=>by
  have:=OT P W m p i
  rw[J1]
  split<;>omega
theorem J0 (P:List Nat)(W:List Int)(m p:Nat)(E:p ∉ P):∀i,J1 P W m p i=0
 |0=>rfl
 |i+1=>by rw[J1,J0 P W m p E i,if_neg (fun F=>E (VR F))]
theorem CQ (P:List Nat)(W:List Int)(m p:Nat)(E:p∈P.take (Bi W m 0)):∀i,1<=i->1<=J1 P W m p i
 |0,h0=>by omega
 |1,_=>by rw[J1,J1,if_pos E];omega
 |i+2,_=>by
  have:=CQ P W m p E (i+1) (by omega)
  rw[J1];omega
theorem Kq (n:Nat)(P:List Nat)(W:List Int)(m p:Nat)(F:P.Nodup)(G:∀q∈P,q<n):∀i,(Ez n P W m i).getD p 0=(E P W m p i:Nat)
 |0=>by
  simp only[Ez,E]
  by_cases h:p<n<;>simp[List.getD,h]
 |i+1=>by
  rw[Ez,Nu p _ _ (F.sublist (List.take_sublist _ _)) (fun q H=>by rw[Ek];exact G q (VR H)),Kq n P W m p F G i,E]
  split<;>simp
theorem P8 {W:List Int}{m:Nat}(G:Up W)(E:∀x∈W,0<x)(I:2<=W.length)(F:1<=m)(H:W.length<=2^m):Bi W m 0=W.length:=by
 have h:=Ux W m (by omega) F H;unfold Bi;rw[Cr,show m-1-0=m-1 by omega,show 2*(W.length-1)=2*W.length-2 by omega];exact RU W G E I (m-1) (by omega)
theorem Xt {l:List Int}{P:List Nat}{m:Nat}(I:GoodW l m)(F:RiseOf l P)(p:Nat):0<=(Cs l P m).getD p 0/\(Cs l P m).getD p 0<=m/\(0<(Cs l P m).getD p 0↔p∈P):=by
 have G:=I.lo;have H:(P.map fun p=>l.getD p 0).length=P.length:=by simp
 unfold Cs
 by_cases h:P.length<2
 . rw[if_pos h,Nu p P _ F.nodup (fun q M=>by simpa using F.lt q M)];have e:(List.replicate l.length (0:Int)).getD p 0=0:=by by_cases h:p<l.length<;>simp[List.getD,h]
   rw[e]
   by_cases E:p∈P
   . simp[E];omega
   . simp[E]
 . rw[if_neg h,Kq _ _ _ _ _ F.nodup F.lt];have T:=OT P (P.map fun p=>l.getD p 0) m p m;refine⟨by omega,by omega, ?_⟩
   by_cases E:p∈P
   . have O:=CQ P (P.map fun p=>l.getD p 0) m p (by rw[P8 F.up F.pos (by omega) G (by rw[H,F.length];exact I.room),H,ZK];exact E) m G;exact⟨fun _=>E,fun _=>by omega⟩
   . rw[J0 P _ m p E];simp[E]
theorem Ia (l:List Int)(P:List Nat)(m:Nat):(Cs l P m).length=l.length:=by
 unfold Cs
 split
 . rw[Ca];simp
 . exact Ek _ _ _ _ _
end Go.Proofs.YtleocpdblhbimaaGreatDoor
