import Derived.Test.YtleocpdblhbimaaGreatDoorQ28
set_option linter.unusedSimpArgs false
set_option linter.unusedVariables false
set_option maxHeartbeats 1000000
namespace Go.Proofs.YtleocpdblhbimaaGreatDoor
open Go.RowKit
def Il (fs:List Bool):Nat->Nat
 |0=>0
 |k+1=>Il fs k+(if fs.getD k false=true then 1 else 0)
theorem P7 (E:List Bool):∀k,Il E k<=k
 |0=>VB _
 |k+1=>by have:=P7 E k;rw[Il];split<;>omega
theorem Od (r:List (Int×Bool)):∀t,t<=r.length->Bz r t=Il (r.map Prod.snd) t
 |0,_=>by simp[Bz,Il]
 |t+1,h=>by have ih:=Od r t om;have E:t<r.length:=om;unfold Bz at*;rw[XB E,List.filter_append,VE,ih,Il];(have e:(r.map Prod.snd).getD t false=r[t].2:=by simp[List.getD,E]);rw[e];cases h:r[t].2<;>simp[h]
theorem Ty (v:Value)(af:v.oneCell'=true)(F N c m:Nat)(E:List Bool)(w:World)(ac:E.length=N)(ae:m<=N)(aa:N<=2000)(M:BRow w F E):Calls Tryz.prog 262 #[.agg #[v,.slice (some ⟨F,0,none⟩) N c],.int .i64 m] w fun e w'=>e=.returned (.int .i64 ((Il E m:Nat):Int))/\Below w.heap.size w w':=by
 have T:=Ab M;have aj:=M.lt;clear M;go_enter Tryz.func262,Tryz.ntmps262;go_wp2;have hb:(w.alloc (.cells #[v,.slice (some ⟨F,0,none⟩) N c] 340)).cell? ⟨w.heap.size,1,none⟩=some (.slice (some ⟨F,0,none⟩) N c):=oS;have Y:=Ab ((Below.refl w.heap.size w).alloc (VB _) (.cells #[v,.slice (some ⟨F,0,none⟩) N c] 340));have O:=Ab ((Aa T).alloc (.cells #[v,.slice (some ⟨F,0,none⟩) N c] 340));generalize w.alloc (.cells #[v,.slice (some ⟨F,0,none⟩) N c] 340)=W at*;go_loop [5,6,8] (fun U _ I=>∃k:Nat,k<=m/\I=.int .i64 (k:Int)/\U=.int .i64 ((Il E k:Nat):Int)) (fun _ _ I=>m-(intOf I).toNat);case atStart=>exact⟨0,VH _,rfl,rfl⟩
 case round=>
  obtain⟨k,ai,rfl,rfl⟩:=hrel;have Z:=P7 E k;by_cases ah:k<m
  . have c1:=((Aa O).at_ k om).1;have ag:(k:Int)<(N:Int):=om;have G:Hid (Il E (k+1)=Il E k+(if E.getD k false=true then 1 else 0)):=rfl;generalize Il E k=u at*
    cases H:E.getD k false with
    |true=>rw[H]at c1 G;rw[if_pos rfl]at G;clear H;go_wp2;go_round;(case rel=>exact⟨k+1,om,by go_num,by rw[Aa G];go_num⟩);case measure=>simp[intOf];omega
    |false=>rw[H]at c1 G;rw[if_neg oS]at G;clear H;go_wp2;go_round;(case rel=>exact⟨k+1,om,by go_num,by rw[Aa G];rfl⟩);case measure=>simp[intOf];omega
  . obtain rfl:k=m:=om;go_wp2;go_ret;exact⟨rfl,Aa Y⟩
theorem Gy:∀(xs ys:List Int) (x:Int),x∈(mrg xs ys).map Prod.fst->x∈xs\/x∈ys
 | [],ys,x,h=>by
  rw[Kn]at h
  simp at h
  exact .inr h
 |z::xs,[],x,h=>by
  rw[Nj,WQ,WH]at h
  rcases h with h|h
  . exact .inl (by rw[h];exact XP)
  . rcases Gy xs [] x h with h|h
    . exact .inl (WR _ h)
    . cases h
 |z::xs,y::ys,x,h=>by
  rw[Jc]at h
  split at h
  . rw[WQ,WH]at h
    rcases h with h|h
    . exact .inl (by rw[h];exact XP)
    . rcases Gy xs (y::ys) x h with h|h
      . exact .inl (WR _ h)
      . exact .inr h
  . rw[WQ,WH]at h
    rcases h with h|h
    . exact .inr (by rw[h];exact XP)
    . rcases Gy (z::xs) ys x h with h|h
      . exact .inl h
      . exact .inr (WR _ h)
termination_by xs ys=>xs.length+ys.length
theorem Xr:∀(xs:List Int) (x:Int),x∈prs xs->∃a b,a∈xs/\b∈xs/\x=a+b
 | [],x,h=>by simp[prs]at h
 | [y],x,h=>by simp[prs]at h
 |y::z::t,x,h=>by rw[prs,WH]at h;rcases h with h|h;exact⟨y,z,oS,oS,h⟩;obtain⟨a,b,E,hb,e⟩:=Xr t x h;exact⟨a,b,by simp[E],by simp[hb],e⟩
theorem Iz (W:List Int):∀k,(rowAt W k).length<=2*W.length
 |0=>by rw[rowAt,Bo];simp;omega
 |k+1=>by have:=Iz W k;rw[rowAt,Bo,Eo,WL];omega
theorem Kk (W:List Int)(M:Int)(E:∀x∈W,0<=x/\x<=M):∀k,∀x∈(rowAt W k).map Prod.fst,0<=x/\x<=M*2^k
 |0,x,h=>by rw[rowAt]at h;rcases Gy W [] x h with h|h;have:=E x h;simpa using this;. cases h
 |k+1,x,h=>by rw[rowAt]at h;have O:(0:Int)<2^k:=Int.pow_pos od;rw[Int.pow_succ];rcases Gy _ _ x h with h|h;have:=E x h;have H:0<=M:=om;have F:M*1<=M*(2^k*2):=Int.mul_le_mul_of_nonneg_left om H;rw[Int.mul_one]at F;omega;obtain⟨a,b,G,hb,e⟩:=Xr _ x h;have I:=Kk W M E k a G;have F:=Kk W M E k b hb;rw[<-Int.mul_assoc];omega
theorem T3 (W:List Int)(G:∀x∈W,0<=x/\x<=1000000)(k:Nat)(F:k<=15)(j:Nat):0<=((rowAt W k).map Prod.fst).getD j 0/\((rowAt W k).map Prod.fst).getD j 0<=1000000000000:=by by_cases H:j<((rowAt W k).map Prod.fst).length;(. have h:=Kk W 1000000 G k (((rowAt W k).map Prod.fst).getD j 0) (by simp only[List.getD,VP H,YH];exact WK _);have I:(2:Nat)^k<=2^15:=VO od F;(have E:((2:Int)^k)=((2^k:Nat):Int):=by push_cast;rfl);rw[E]at h;generalize 2^k=q at*;omega);rw[List.getD,WJ om];decide
structure StSt (w W:World)(g m:Nat)(Ws:List Int)(k:Nat)(A B:Nat->Nat):Prop where
 glo:w.heap.size<=g
 ghi:g<W.heap.size
 fz:∀j,W.frozen? ⟨g,j,none⟩=false
 done:∀i,i<k->W.cell? ⟨g,i*2,none⟩=some (.slice (some ⟨A i,0,none⟩) (rowAt Ws i).length (rowAt Ws i).length)/\W.cell? ⟨g,i*2+1,none⟩=some (.slice (some ⟨B i,0,none⟩) (rowAt Ws i).length (rowAt Ws i).length)
 todo:∀i,k<=i->i<m->W.cell? ⟨g,i*2,none⟩=some (.slice none 0 0)/\W.cell? ⟨g,i*2+1,none⟩=some (.slice none 0 0)
 ws:∀i,i<k->w.heap.size<=A i/\A i≠g/\WRow W (A i) ((rowAt Ws i).map Prod.fst)
 fs:∀i,i<k->w.heap.size<=B i/\B i≠g/\BRow W (B i) ((rowAt Ws i).map Prod.snd)
 bel:Below w.heap.size w W
theorem StSt.below {w W W':World}{G m:Nat}{M:List Int}{k:Nat}{O B:Nat->Nat}(E:StSt w W G m M k O B)(F:Below W.heap.size W W'):StSt w W' G m M k O B:=by have T:w.heap.size<=W.heap.size:=E.bel.size;refine⟨E.glo,VG E.ghi F.size,fun j=> ?_,fun i hi=>⟨?_, ?_⟩,fun i I H=>⟨?_, ?_⟩,fun i hi=>⟨(E.ws i hi).1,(E.ws i hi).2.1,(E.ws i hi).2.2.below F (E.ws i hi).2.2.lt⟩,fun i hi=>⟨(E.fs i hi).1,(E.fs i hi).2.1,(E.fs i hi).2.2.below F (E.fs i hi).2.2.lt⟩,E.bel.trans (F.mono T)⟩;rw[F.frozen (p:=⟨G,j,none⟩) E.ghi];exact E.fz j;rw[F.cell (p:=⟨G,i*2,none⟩) E.ghi];exact(E.done i hi).1;rw[F.cell (p:=⟨G,i*2+1,none⟩) E.ghi];exact(E.done i hi).2;rw[F.cell (p:=⟨G,i*2,none⟩) E.ghi];exact(E.todo i I H).1;rw[F.cell (p:=⟨G,i*2+1,none⟩) E.ghi];exact(E.todo i I H).2
theorem StSt.next {w W:World}{E m:Nat}{I:List Int}{k:Nat}{Y B:Nat->Nat}(F:StSt w W E m I k Y B)(Z:k<m)(a b:Nat)(O:w.heap.size<=a/\a≠E)(M:w.heap.size<=b/\b≠E)(af:WRow W a ((rowAt I k).map Prod.fst))(aa:BRow W b ((rowAt I k).map Prod.snd))(H:Nat)(ah:H=(rowAt I k).length):StSt w ((W.setCell ⟨E,k*2,none⟩ (.slice (some ⟨a,0,none⟩) H H)).setCell ⟨E,k*2+1,none⟩ (.slice (some ⟨b,0,none⟩) H H)) E m I (k+1) (fun i=>if i=k then a else Y i) (fun i=>if i=k then b else B i):=by
 subst ah
 have o:∀j x y,j≠k*2->j≠k*2+1->((W.setCell ⟨E,k*2,none⟩ x).setCell ⟨E,k*2+1,none⟩ y).cell? ⟨E,j,none⟩=W.cell? ⟨E,j,none⟩:=fun j x y aj e2=>
  (World.cell?_setCell_other _ _ _ _ (by intro F;injection F;omega)).trans (World.cell?_setCell_other _ _ _ _ (by intro F;injection F;omega))
 have ag:∀x y,((W.setCell ⟨E,k*2,none⟩ x).setCell ⟨E,k*2+1,none⟩ y).cell? ⟨E,k*2,none⟩=some x:=fun x y=>
  (World.cell?_setCell_other _ _ _ _ (by intro F;injection F;omega)).trans (World.cell?_setCell_same _ _ _ (F.todo k (VB _) Z).1)
 have ac:∀x y,((W.setCell ⟨E,k*2,none⟩ x).setCell ⟨E,k*2+1,none⟩ y).cell? ⟨E,k*2+1,none⟩=some y:=fun x y=>
  World.cell?_setCell_same _ _ _ ((World.cell?_setCell_other _ _ _ _ (by intro F;injection F;omega)).trans (F.todo k (VB _) Z).2)
 refine⟨F.glo,by simpa using F.ghi,fun j=>by simp[F.fz j],fun i hi=> ?_,fun i ai ae=> ?_,fun i hi=> ?_,fun i hi=> ?_,(F.bel.setCell (p:=⟨E,k*2,none⟩) F.glo _).setCell (p:=⟨E,k*2+1,none⟩) F.glo _⟩;by_cases e:i=k;subst e;simp only[if_true];exact⟨ag _ _,ac _ _⟩;simp only[if_neg e];rw[o _ _ _ om om,o _ _ _ om om];exact F.done i om;rw[o _ _ _ om om,o _ _ _ om om];exact F.todo i om ae;by_cases e:i=k;subst e;simp only[if_true];exact⟨O.1,O.2,(af.other (a:=⟨E,i*2,none⟩) (fun e=>O.2 e.symm) _).other (a:=⟨E,i*2+1,none⟩) (fun e=>O.2 e.symm) _⟩;simp only[if_neg e];obtain⟨T,G,U⟩:=F.ws i om;exact⟨T,G,(U.other (a:=⟨E,k*2,none⟩) (fun e=>G e.symm) _).other (a:=⟨E,k*2+1,none⟩) (fun e=>G e.symm) _⟩;by_cases e:i=k;subst e;simp only[if_true];exact⟨M.1,M.2,(aa.other (a:=⟨E,i*2,none⟩) (fun e=>M.2 e.symm) _).other (a:=⟨E,i*2+1,none⟩) (fun e=>M.2 e.symm) _⟩;simp only[if_neg e];obtain⟨T,G,U⟩:=F.fs i om;exact⟨T,G,(U.other (a:=⟨E,k*2,none⟩) (fun e=>G e.symm) _).other (a:=⟨E,k*2+1,none⟩) (fun e=>G e.symm) _⟩
theorem Lw:∀xs ys:List Int,((mrg xs ys).filter Prod.snd).length=xs.length
 | [],ys=>by
  rw[Kn]
  simp
 |x::xs,[]=>by
  rw[Nj,List.filter_cons_of_pos oS,VJ,Lw xs []]
  simp
 |x::xs,y::ys=>by
  rw[Jc]
  split
  . rw[List.filter_cons_of_pos oS,VJ,Lw xs (y::ys)];simp
  . rw[List.filter_cons_of_neg oS,Lw (x::xs) ys]
termination_by xs ys=>xs.length+ys.length
theorem Gt (r:List (Int×Bool))(t:Nat):Bz r t<=(r.filter Prod.snd).length:=by unfold Bz;have h:=((List.take_sublist t r).filter Prod.snd).length_le;exact h
theorem Mw (r:List (Int×Bool))(t:Nat):Bz r t<=t:=by unfold Bz;have h:=List.length_filter_le Prod.snd (r.take t);have E:(r.take t).length<=t:=oO;omega
theorem Ls (r:List (Int×Bool))(t:Nat)(I:t<=r.length):t-Bz r t<=r.length-(r.filter Prod.snd).length:=by(have H:(r.filter Prod.snd).length=((r.take t).filter Prod.snd).length+((r.drop t).filter Prod.snd).length:=by rw[<-VE,<-List.filter_append,YW]);have E:=List.length_filter_le Prod.snd (r.drop t);have G:(r.drop t).length=r.length-t:=oS;have F:=Mw r t;unfold Bz at*;omega
theorem Gw (W:List Int)(k:Nat):(rowAt W (k+1)).length=W.length+(rowAt W k).length/2:=by rw[rowAt,Bo,Eo,WL]
theorem Dj (W:List Int):∀k,((rowAt W k).filter Prod.snd).length=W.length
 |0=>by rw[rowAt,Lw]
 |k+1=>by rw[rowAt,Lw]
theorem Uy (W:List Int)(E:1<=W.length):∀k,2*W.length<=(rowAt W k).length+1+(W.length-1)/2^k
 |0=>by rw[rowAt,Bo];simp;omega
 |k+1=>by have ih:=Uy W E k;(have e:(W.length-1)/2^(k+1)=(W.length-1)/2^k/2:=by rw[XC,Nat.div_div_eq_div_mul]);rw[Gw,e];generalize (W.length-1)/2^k=x at*;omega
theorem Ux (W:List Int)(m:Nat)(E:1<=W.length)(H:1<=m)(G:W.length<=2^m):2*(W.length-1)<=(rowAt W (m-1)).length:=by have h:=Uy W E (m-1);(have F:(W.length-1)/2^(m-1)<2:=by rw[Nat.div_lt_iff_lt_mul (Nat.pow_pos od)];(have:2*2^(m-1)=2^m:=by obtain⟨q,rfl⟩:∃q,m=q+1:=⟨m-1,om⟩;rw[YA,XC,YF]);omega);omega
theorem Lg (W:List Int)(m:Nat)(G:1<=W.length)(F:1<=m)(H:W.length<=2^m):∀i,i<m->Cr W m i<=(rowAt W (m-1-i)).length
 |0,_=>by rw[Cr];exact Ux W m G F H
 |i+1,hi=>by have ih:=Lg W m G F H i om;have I:=Ls _ _ ih;obtain⟨q,E⟩:∃q,m-1-i=q+1:=⟨m-1-i-1,om⟩;have M:m-1-(i+1)=q:=om;rw[Dj,E,Gw]at I;rw[Cr,M,E];omega
theorem Wh (W:List Int)(m i:Nat):Bi W m i<=W.length:=by have:=Gt (rowAt W (m-1-i)) (Cr W m i);rw[Dj]at this;exact this
theorem Oe (W:List Int)(m i:Nat):Bi W m i<=Cr W m i:=Mw _ _
theorem Qi (W:List Int)(m i:Nat):Cr W m (i+1)=2*(Cr W m i-Bi W m i):=rfl
theorem Ek (n:Nat)(P:List Nat)(W:List Int)(m:Nat):∀i,(Ez n P W m i).length=n
 |0=>by simp[Ez]
 |i+1=>by rw[Ez,Ca,Ek n P W m i]
theorem Ny (n:Nat)(P:List Nat)(W:List Int)(m:Nat)(E:P.length<=288):∀i,∀j,0<=(Ez n P W m i).getD j 0/\(Ez n P W m i).getD j 0<=288*i
 |0,j=>by simp only[Ez];by_cases h:j<n;simp[List.getD,h];simp[List.getD,h]
 |i+1,j=>by have h:=Kv (P.take (Bi W m i)) (Ny n P W m E i) j;have F:(P.take (Bi W m i)).length<=288:=oO;rw[Ez];omega
theorem RiseOf.lt {l:List Int}{P:List Nat}(E:RiseOf l P):∀p∈P,p<l.length:=fun p F=>JY l _ p (E.perm.mem_iff.1 F)
theorem RiseOf.length {l:List Int}{P:List Nat}(E:RiseOf l P):P.length=(wpl l l.length).length:=E.perm.length_eq
def Z7i:List Int->Int
 | []=>0
 |x::xs=>x+Z7i xs
theorem Wg (r:List (Int×Bool)):Bz r 0=0:=by simp[Bz]
theorem Nv (x:Int)(r:List (Int×Bool))(t:Nat):Bz ((x,true)::r) (t+1)=Bz r t+1:=by simp[Bz]
theorem Kx (x:Int)(r:List (Int×Bool))(t:Nat):Bz ((x,false)::r) (t+1)=Bz r t:=by simp[Bz]
theorem AJ (ys:List Int):∀t,Bz (ys.map fun y=>(y,false)) t=0:=by
 induction ys with
 |nil=>intro t;simp[Bz]
 |cons y ys ih=>
  intro t
  cases t with
  |zero=>exact Wg _
  |succ t=>rw[WQ,Kx,ih]
theorem Lx:∀(xs ys:List Int) (t:Nat),(((mrg xs ys).take t).map Prod.fst).Perm (xs.take (Bz (mrg xs ys) t)++ys.take (t-Bz (mrg xs ys) t))
 |xs,ys,0=>by rw[Wg];simp
 | [],ys,t+1=>by
  rw[Kn,AJ]
  simp[ZA]
 |x::xs,[],t+1=>by
  have ih:=Lx xs [] t
  rw[Nj,XU,WQ,Nv,XU]
  simp only[List.take_nil,XA]at*
  exact List.Perm.cons x ih
 |x::xs,y::ys,t+1=>by
  rw[Jc]
  split
  . have ih:=Lx xs (y::ys) t
    rw[XU,WQ,Nv,XU,show t+1-(Bz (mrg xs (y::ys)) t+1)=t-Bz (mrg xs (y::ys)) t by omega]
    exact List.Perm.cons x ih
  . have ih:=Lx (x::xs) ys t
    have E:=Mw (mrg (x::xs) ys) t
    rw[XU,WQ,Kx,show t+1-Bz (mrg (x::xs) ys) t=(t-Bz (mrg (x::xs) ys) t)+1 by omega,XU]
    exact(List.Perm.cons y ih).trans List.perm_middle.symm
termination_by xs ys=>xs.length+ys.length
abbrev Up (xs:List Int):Prop:=xs.Pairwise (· <= ·)
theorem E7:∀xs ys:List Int,Up xs->Up ys->Up ((mrg xs ys).map Prod.fst)
 | [],ys,_,h=>by rw[Kn,ZU];simpa[ZA]using h
 |x::xs,[],h,h2=>by
  have h:=XH.1 h
  rw[Nj,WQ]
  refine XH.2 ⟨fun z E=> ?_,E7 xs [] h.2 h2⟩
  rcases Gy xs [] z E with E|E
  . exact h.1 z E
  . cases E
 |x::xs,y::ys,h,h2=>by
  have G:=XH.1 h
  have H:=XH.1 h2
  rw[Jc]
  split
  . rename_i F
    rw[WQ]
    refine XH.2 ⟨fun z E=> ?_,E7 xs (y::ys) G.2 h2⟩
    rcases Gy xs (y::ys) z E with E|E
    . exact G.1 z E
    . rcases WH.1 E with rfl|E
      . exact F
      . exact Int.le_trans F (H.1 z E)
  . rename_i F
    rw[WQ]
    refine XH.2 ⟨fun z E=> ?_,E7 (x::xs) ys h H.2⟩
    show y<=z
    rcases Gy (x::xs) ys z E with E|E
    . rcases WH.1 E with rfl|E
      . omega
      . have:=G.1 z E;omega
    . exact H.1 z E
termination_by xs ys=>xs.length+ys.length
theorem Z2i:∀xs:List Int,Up xs->Up (prs xs)
 | [],_=>by simp[prs]
 | [x],_=>by simp[prs]
 |x::y::t,h=>by have F:=XH.1 h;have E:=XH.1 F.2;rw[prs];refine XH.2 ⟨fun z G=> ?_,Z2i t E.2⟩;obtain⟨a,b,H,hb,rfl⟩:=Xr t z G;have I:=F.1 a (by simp[H]);have e2:=E.1 b hb;show x+y<=a+b;omega
theorem Xj (W:List Int)(E:Up W):∀k,Up ((rowAt W k).map Prod.fst)
 |0=>by rw[rowAt];exact E7 W [] E .nil
 |k+1=>by rw[rowAt];exact E7 W _ E (Z2i _ (Xj W E k))
theorem Lm (W:List Int)(F:∀x∈W,0<x):∀k,∀x∈(rowAt W k).map Prod.fst,0<x
 |0,x,hx=>by rw[rowAt]at hx;rcases Gy W [] x hx with E|E;exact F x E;. cases E
 |k+1,x,hx=>by rw[rowAt]at hx;rcases Gy W _ x hx with E|E;exact F x E;obtain⟨a,b,G,hb,rfl⟩:=Xr _ x E;have H:=Lm W F k a G;have e2:=Lm W F k b hb;omega
def Dl (W:List Int):Nat->List Int
 |0=> []
 |k+1=>prs ((rowAt W k).map Prod.fst)
theorem Ew (W:List Int):∀k,rowAt W k=mrg W (Dl W k)
 |0=>rfl
 |k+1=>rfl
theorem Z27 {xs:List Int}(F:Up xs){i j:Nat}(G:i<=j)(E:j<xs.length):xs.getD i 0<=xs.getD j 0:=by by_cases e:i=j;subst e;exact Int.le_refl _;have:=(YE.1 F) i j om E om;simpa[List.getD,E,show i<xs.length by omega]using this
theorem Hz {xs:List Int}{i t:Nat}(F:i<t)(G:i<xs.length):xs.getD i 0∈xs.take t:=by(have:(xs.take t).getD i 0=xs.getD i 0:=by simp[List.getD,F]);rw[<-this];have E:i<(xs.take t).length:=oO;simp only[List.getD,VP E,YH];exact WK _
theorem L7 (W:List Int)(H:Up W)(F:∀x∈W,0<x)(aa:2<=W.length):∀k,W.length-1<=(Dl W k).length->(Dl W k).getD (W.length-2) 0<W.getD (W.length-1) 0->False
 |0,h,_=>by simp[Dl]at h;omega
 |k+1,h,h2=>by(have Z:(Dl W (k+1)).length=(rowAt W k).length/2:=by rw[Dl,Eo,WL]);rw[Z]at h;(have M:2*W.length-3<((rowAt W k).map Prod.fst).length:=by rw[WL];omega);have ai:(Dl W (k+1)).getD (W.length-2) 0=((rowAt W k).map Prod.fst).getD (2*(W.length-2)) 0+((rowAt W k).map Prod.fst).getD (2*(W.length-2)+1) 0:=Ow _ _ (by rw[WL];omega);have ag:0<((rowAt W k).map Prod.fst).getD (2*(W.length-2)) 0:=Lm W F k _ (by have T:2*(W.length-2)<((rowAt W k).map Prod.fst).length:=om;simp only[List.getD,VP T,YH];exact WK _);(have af:((rowAt W k).map Prod.fst).getD (2*W.length-3) 0<W.getD (W.length-1) 0:=by rw[show 2*W.length-3=2*(W.length-2)+1 by omega];omega);(have G:∀z∈((rowAt W k).take (2*W.length-2)).map Prod.fst,z<W.getD (W.length-1) 0:=by intro z I;rw[List.map_take]at I;obtain⟨i,hi,rfl⟩:=XI I;(have ae:i<2*W.length-2:=by simp at hi;omega);(have Y:i<((rowAt W k).map Prod.fst).length:=by simp at hi;simp;omega);have:=Z27 (Xj W H k) (i:=i) (j:=2*W.length-3) om M;(have e:((rowAt W k).map Prod.fst).getD i 0=(((rowAt W k).map Prod.fst).take (2*W.length-2))[i]:=by simp only[List.getD,VP Y,YH,YN]);rw[e]at this;omega);have E:=Lx W (Dl W k) (2*W.length-2);rw[<-Ew]at E;(have ac:Bz (rowAt W k) (2*W.length-2)<=W.length:=by have:=Gt (rowAt W k) (2*W.length-2);rw[Dj]at this;exact this);(have ak:2*W.length-2-Bz (rowAt W k) (2*W.length-2)<=(Dl W k).length:=by have O:=Ls (rowAt W k) (2*W.length-2) (by rw[WL]at M;omega);(have aj:(rowAt W k).length=W.length+(Dl W k).length:=by rw[Ew,Bo]);rw[Dj]at O;omega);by_cases U:Bz (rowAt W k) (2*W.length-2)=W.length;have:W.getD (W.length-1) 0<W.getD (W.length-1) 0:=G _ (E.mem_iff.2 (List.mem_append_left _ (by rw[U];exact Hz om om)));omega;have ah:W.length-1<=2*W.length-2-Bz (rowAt W k) (2*W.length-2):=om;exact L7 W H F aa k om (G _ (E.mem_iff.2 (List.mem_append_right _ (Hz om om))))
theorem Yw:∀(xs ys:List Int) (t i j:Nat),Up xs->Bz (mrg xs ys) t<=i->i<xs.length->j<t-Bz (mrg xs ys) t->j<ys.length->ys.getD j 0<xs.getD i 0
 |xs,ys,0,i,j,_,_,_,h,_=>om
 | [],ys,t+1,i,j,_,_,h,_,_=>by simp at h
 |x::xs,[],t+1,i,j,_,_,_,_,h=>by simp at h
 |x::xs,y::ys,t+1,i,j,hu,h1,h2,h3,h4=>by
  have F:=XH.1 hu
  rw[Jc]at h1 h3
  by_cases G:x<=y
  . rw[if_pos G,Nv]at h1 h3
    obtain⟨E,rfl⟩:∃E,i=E+1:=⟨i-1,om⟩
    have:=Yw xs (y::ys) t E j F.2 om (by simpa using h2) om h4
    simpa using this
  . rw[if_neg G,Kx]at h1 h3
    have I:x<=(x::xs).getD i 0:=by
     cases i with
     |zero=>simp
     |succ i=>
      have hi:i<xs.length:=by simpa using h2
      have:(x::xs).getD (i+1) 0=xs[i]:=by simp[List.getD,hi]
      rw[this]
      exact F.1 _ (WK _)
    cases j with
    |zero=>
     have:(y::ys).getD 0 0=y:=oS
     omega
    |succ j=>
     have H:=Mw (mrg (x::xs) ys) t
     have:=Yw (x::xs) ys t i j hu h1 h2 om (by simpa using h4)
     simpa using this
termination_by xs ys=>xs.length+ys.length
theorem RU (W:List Int)(E:Up W)(H:∀x∈W,0<x)(G:2<=W.length)(k:Nat)(I:2*W.length-2<=(rowAt W k).length):Bz (rowAt W k) (2*W.length-2)=W.length:=by(have T:Bz (rowAt W k) (2*W.length-2)<=W.length:=by have:=Gt (rowAt W k) (2*W.length-2);rw[Dj]at this;exact this);rcases ZQ (Bz (rowAt W k) (2*W.length-2)) W.length with M|M;exfalso;(have U:(rowAt W k).length=W.length+(Dl W k).length:=by rw[Ew,Bo]);have F:=Ls (rowAt W k) (2*W.length-2) I;rw[Dj]at F;have O:W.length-1<=2*W.length-2-Bz (rowAt W k) (2*W.length-2):=om;exact L7 W E H G k om (Yw W (Dl W k) (2*W.length-2) (W.length-1) (W.length-2) E (by rw[<-Ew];omega) om (by rw[<-Ew];omega) om);omega
theorem Q7 (a:Option Addr)(E G:Nat)(F:Int)(w:World)(I:288<E)(H:E<=9223372036854775807):Calls Tryz.prog 257 #[.slice a E G,.int .i64 F] w fun e w'=>e=.returned (.int .i64 2)/\w'=w:=by have h:(288:Int)<(E:Int):=om;go_enter Tryz.func257,Tryz.ntmps257;go_wp2;go_ret;exact⟨rfl,rfl⟩
theorem QU (a:Option Addr)(F ae:Nat)(l:List Int)(ac:Int)(w:World)(Y:l.length=F)(ai:F<=288)(G:RowIn .i64 w a l)(E:Nat)(aj:E<F)(O:okW (l.getD E 0)=false)(T:∀j,j<E->okW (l.getD j 0)=true):Calls Tryz.prog 257 #[.slice a F ae,.int .i64 ac] w fun e w'=>e=.returned (.int .i64 3)/\w'=w:=by(obtain⟨b,o,rfl,hb,G⟩:∃b o,a=some ⟨b,o,none⟩/\b<w.heap.size/\Row .i64 w b o l:=by rcases G with rfl|h;simp at Y;omega;exact h);have U:=Ab G;have Z:=Ab T;clear G T;go_enter Tryz.func257,Tryz.ntmps257;go_wp2;go_loop [5,7,13] (fun u y i=>∃k:Nat,k<=E/\i=.int .i64 (k:Int)/\u=.int .i64 (((wpl l k).length:Nat):Int)) (fun _ _ i=>F-(intOf i).toNat);(case atStart=>exact⟨0,VH _,rfl,rfl⟩);case round=>obtain⟨k,ap,rfl,rfl⟩:=hrel;have ah:=Pt l k;have c1:=Aa U k om;by_cases af:k<E;(. have aa:=BX (Aa Z k af);(have H:Hid ((wpl l (k+1)).length=(wpl l k).length+(if 0<l.getD k 0 then 1 else 0)):=by rw[wpl,VE];unfold Hid;split<;>simp);generalize l.getD k 0=x at*;generalize (wpl l k).length=u at*;obtain⟨al,ao⟩:=aa;by_cases M:0<x;(. rw[if_pos M]at H;go_wp2;go_round;(case rel=>exact⟨k+1,om,by go_num,by rw[Aa H];go_num⟩);case measure=>simp[intOf];omega);. rw[if_neg M]at H;go_wp2;go_round;(case rel=>exact⟨k+1,om,by go_num,by rw[Aa H];rfl⟩);case measure=>simp[intOf];omega);. obtain rfl:k=E:=om;generalize l.getD k 0=x at*;generalize (wpl l k).length=u at*;have ag:=D6 O;have I:x<0\/1000000<x:=om;clear ag O;rcases I with I|I;(. go_wp2;go_ret;exact⟨rfl,rfl⟩);. have ak:¬(x<0):=om;go_wp2;go_ret;exact⟨rfl,rfl⟩
theorem JA (a:Option Addr)(E ah:Nat)(l:List Int)(F:Int)(w:World)(ak:l.length=E)(ao:E<=288)(Y:RowIn .i64 w a l)(aa:∀j,j<E->okW (l.getD j 0)=true)(r:Int)(H:Hid (r=if ¬(1<=F/\F<=15)then 3 else if 2^F.toNat<(wpl l E).length then 11 else 0)):Calls Tryz.prog 257 #[.slice a E ah,.int .i64 F] w fun e w'=>e=.returned (.int .i64 r)/\w'=w:=by have ac:=Ab Y;have ae:=Ab aa;clear Y aa;go_enter Tryz.func257,Tryz.ntmps257;go_wp2;go_loop [5,7,13] (fun u y i=>∃k:Nat,k<=E/\i=.int .i64 (k:Int)/\u=.int .i64 (((wpl l k).length:Nat):Int)) (fun _ _ i=>E-(intOf i).toNat);(case atStart=>exact⟨0,VH _,rfl,rfl⟩);case round=>obtain⟨k,aw,rfl,rfl⟩:=hrel;have aj:=Pt l k;by_cases ai:k<E;(. have T:k<l.length:=om;(obtain⟨b,o,rfl,hb,O⟩:∃b o,a=some ⟨b,o,none⟩/\b<w.heap.size/\Row .i64 w b o l:=by rcases Aa ac with rfl|h;simp at T;exact h);have c1:=O k T;have ag:=BX (Aa ae k ai);(have I:Hid ((wpl l (k+1)).length=(wpl l k).length+(if 0<l.getD k 0 then 1 else 0)):=by rw[wpl,VE];unfold Hid;split<;>simp);clear O;generalize l.getD k 0=x at*;generalize (wpl l k).length=u at*;obtain⟨au,av⟩:=ag;by_cases Z:0<x;(. rw[if_pos Z]at I;go_wp2;go_round;(case rel=>exact⟨k+1,om,by go_num,by rw[Aa I];go_num⟩);case measure=>simp[intOf];omega);. rw[if_neg Z]at I;go_wp2;go_round;(case rel=>exact⟨k+1,om,by go_num,by rw[Aa I];rfl⟩);case measure=>simp[intOf];omega);. obtain rfl:k=E:=om;generalize (wpl l k).length=u at*;by_cases al:F<1;(. (have G:Hid (r=3):=by rw[Aa H,if_pos om];exact rfl);go_wp2;go_ret;exact⟨by rw[Aa G];rfl,rfl⟩);. by_cases ar:15<F;(. (have G:Hid (r=3):=by rw[Aa H,if_pos om];exact rfl);go_wp2;go_ret;exact⟨by rw[Aa G];rfl,rfl⟩);. obtain⟨m,rfl⟩:=WF (show 0<=F by omega);rw[if_neg om]at H;(have U:Hid (wrap64 (2^m)=((2^m:Nat):Int)):=by have ap:2^m<=2^15:=VO od om;(have af:((2:Int)^m)=((2^m:Nat):Int):=by push_cast;rfl);unfold Hid;rw[af];generalize 2^m=q at*;unfold wrap64;omega);go_wp2;(. (have M:wrap64 (2^m)<(u:Int):=by assumption);rw[Aa U]at M;(have G:r=11:=by rw[Aa H,if_pos oO]);go_ret;exact⟨by rw[G];rfl,rfl⟩);. (have M:(u:Int)<=wrap64 (2^m):=by assumption);rw[Aa U]at M;(have G:r=0:=by rw[Aa H,if_neg oO]);go_ret;exact⟨by rw[G];rfl,rfl⟩
theorem ED (a:Option Addr)(E H:Nat)(l:List Int)(F:Int)(w:World)(I:l.length=E)(U:E<=9223372036854775807)(T:RowIn .i64 w a l):Calls Tryz.prog 257 #[.slice a E H,.int .i64 F] w fun e w'=>e=.returned (.int .i64 (Z2x l F))/\w'=w:=by by_cases hm:288<E;(have e:Z2x l F=2:=by unfold Z2x;rw[if_pos om]);rw[e];exact Q7 a E H F w hm U;rcases Ml (fun j=>okW (l.getD j 0)) E with G|⟨O,Y,M,G⟩;(have hn:¬ ∃j,j<l.length/\okW (l.getD j 0)=false:=by rintro ⟨j,Z,e⟩;have:=G j om;simp only[e]at this;cases this);exact JA a E H l F w I om T G _ (by unfold Z2x;rw[if_neg om,if_neg hn,I];exact rfl);(have e:Z2x l F=3:=by unfold Z2x;rw[if_neg om,if_pos ⟨O,om,M⟩]);rw[e];exact QU a E H l F w I om T O Y M G
def IW (l s:List Int):Nat->Int
 |0=>0
 |k+1=>IW l s k+l.getD k 0*s.getD k 0
theorem IV (l xs:List Int)(p:Nat)(F:p<xs.length):∀k,IW l (Tb xs p) k=IW l xs k+(if p<k then l.getD p 0 else 0)
 |0=>by simp[IW]
 |k+1=>by rw[IW,IW,IV l xs p F k];(have e:(Tb xs p).getD k 0=if p=k then xs.getD p 0+1 else xs.getD k 0:=by unfold Tb;rw[Mg];by_cases h:p=k;rw[if_pos ⟨h,F⟩,if_pos h];rw[if_neg (fun E=>h E.1),if_neg h]);rw[e];by_cases h:p=k;subst h;rw[if_pos rfl,if_neg om,if_pos om,Int.mul_add,Int.mul_one];omega;rw[if_neg h];by_cases E:p<k;rw[if_pos E,if_pos om];omega;rw[if_neg E,if_neg om];omega
def Z66 (W:List Int)(m:Nat):Nat->Int
 |0=>0
 |i+1=>Z66 W m i+Z7i (W.take (Bi W m i))
def Z94 (W:List Int)(k t:Nat):Int:=Z7i (((rowAt W k).take t).map Prod.fst)
def least (W:List Int)(m:Nat):Int:=if W.length<2 then Z7i W else Z94 W (m-1) (2*(W.length-1))
theorem Nu (p:Nat):∀(E:List Nat) (xs:List Int),E.Nodup->(∀q∈E,q<xs.length)->(Cq xs E).getD p 0=xs.getD p 0+(if p∈E then 1 else 0)
 | [],xs,_,_=>by simp[Cq]
 |q::E,xs,hn,h=>by have F:=List.nodup_cons.1 hn;have ih:=Nu p E (Tb xs q) F.2 (fun r hr=>by rw[Kw];exact h r (WR _ hr));show (Cq (Tb xs q) E).getD p 0=_;rw[ih];unfold Tb;rw[Mg];have G:=h q XP;by_cases e:q=p;subst e;rw[if_pos ⟨rfl,G⟩,if_neg F.1,if_pos XP];omega;rw[if_neg (fun H=>e H.1)];(have:(p∈q::E)↔p∈E:=by rw[WH];exact⟨fun h=>h.resolve_left (fun h=>e h.symm),.inr⟩);simp only[this]
theorem RiseOf.nodup {l:List Int}{P:List Nat}(E:RiseOf l P):P.Nodup:=by refine E.srt.imp ?_;intro a b F e;subst e;omega
theorem RiseOf.mem {l:List Int}{P:List Nat}(E:RiseOf l P)(p:Nat):p∈P↔p<l.length/\0<l.getD p 0:=by rw[E.perm.mem_iff,X6]
theorem RiseOf.up {l:List Int}{P:List Nat}(E:RiseOf l P):Up (P.map fun p=>l.getD p 0):=by rw[Up,List.pairwise_map];exact E.srt.imp (fun {a b} hab=>om)
theorem RiseOf.pos {l:List Int}{P:List Nat}(F:RiseOf l P):∀x∈(P.map fun p=>l.getD p 0),0<x:=by intro x E;obtain⟨p,G,rfl⟩:=XG.1 E;exact((F.mem p).1 G).2
def J1 (P:List Nat)(W:List Int)(m p:Nat):Nat->Nat
 |0=>0
 |i+1=>J1 P W m p i+(if p∈P.take (Bi W m i)then 1 else 0)
theorem OT (P:List Nat)(W:List Int)(m p:Nat):∀i,J1 P W m p i<=i
 |0=>VB _
 |i+1=>by have:=OT P W m p i;rw[J1];split<;>omega
theorem J0 (P:List Nat)(W:List Int)(m p:Nat)(E:p ∉ P):∀i,J1 P W m p i=0
 |0=>rfl
 |i+1=>by rw[J1,J0 P W m p E i,if_neg (fun F=>E (VR F))]
theorem CQ (P:List Nat)(W:List Int)(m p:Nat)(E:p∈P.take (Bi W m 0)):∀i,1<=i->1<=J1 P W m p i
 |0,h0=>om
 |1,_=>by rw[J1,J1,if_pos E];omega
 |i+2,_=>by have:=CQ P W m p E (i+1) om;rw[J1];omega
theorem Kq (n:Nat)(P:List Nat)(W:List Int)(m p:Nat)(G:P.Nodup)(F:∀q∈P,q<n):∀i,(Ez n P W m i).getD p 0=(J1 P W m p i:Nat)
 |0=>by simp only[Ez,J1];by_cases h:p<n<;>simp[List.getD,h]
 |i+1=>by rw[Ez,Nu p _ _ (G.sublist (List.take_sublist _ _)) (fun q H=>by rw[Ek];exact F q (VR H)),Kq n P W m p G F i,J1];split<;>simp
theorem P8 {W:List Int}{m:Nat}(H:Up W)(G:∀x∈W,0<x)(F:2<=W.length)(E:1<=m)(I:W.length<=2^m):Bi W m 0=W.length:=by have h:=Ux W m om E I;unfold Bi;rw[Cr,show m-1-0=m-1 by omega,show 2*(W.length-1)=2*W.length-2 by omega];exact RU W H G F (m-1) om
theorem Xt {l:List Int}{P:List Nat}{m:Nat}(I:GoodW l m)(F:RiseOf l P)(p:Nat):0<=(Cs l P m).getD p 0/\(Cs l P m).getD p 0<=m/\(0<(Cs l P m).getD p 0↔p∈P):=by have G:=I.lo;have H:(P.map fun p=>l.getD p 0).length=P.length:=oS;unfold Cs;by_cases h:P.length<2;rw[if_pos h,Nu p P _ F.nodup (fun q M=>by simpa using F.lt q M)];(have e:(List.replicate l.length (0:Int)).getD p 0=0:=by by_cases h:p<l.length<;>simp[List.getD,h]);rw[e];by_cases E:p∈P;simp[E];omega;simp[E];rw[if_neg h,Kq _ _ _ _ _ F.nodup F.lt];have T:=OT P (P.map fun p=>l.getD p 0) m p m;refine⟨om,om, ?_⟩;by_cases E:p∈P;have O:=CQ P (P.map fun p=>l.getD p 0) m p (by rw[P8 F.up F.pos om G (by rw[H,F.length];exact I.room),H,ZK];exact E) m G;exact⟨fun _=>E,fun _=>om⟩;rw[J0 P _ m p E];simp[E]
theorem Ia (l:List Int)(P:List Nat)(m:Nat):(Cs l P m).length=l.length:=by unfold Cs;split;rw[Ca];simp;exact Ek _ _ _ _ _
end Go.Proofs.YtleocpdblhbimaaGreatDoor
