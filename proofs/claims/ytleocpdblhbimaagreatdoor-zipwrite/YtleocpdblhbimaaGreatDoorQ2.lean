import Derived.Test.YtleocpdblhbimaaGreatDoorQ1
set_option linter.unusedSimpArgs false
namespace Go.Proofs.YtleocpdblhbimaaGreatDoor
set_option linter.unusedVariables false
def Qt (n:Int):Bool:=decide (0<=n/\n<=15)
theorem Dk {n:Int}(h:Qt n=true):0<=n/\n<=15:=of_decide_eq_true h
theorem Kg {n:Int}(h:Qt n=false):¬(0<=n/\n<=15):=of_decide_eq_false h
theorem Hv (l:List Int){k n:Nat}(hk:k<l.length)(hx:l.getD k 0=(n:Int)):upd (cnt (l.take k)) n (cnt (l.take k) n+1)=cnt (l.take (k+1)):=by
 funext m
 have e:l[k]=(n:Int):=by simpa[List.getD,hk]using hx
 simp only[upd,cnt];rw[WR hk,List.count_append,e]
 by_cases h:m=n
 . subst h;simp
 . have:((n:Int)==(m:Int))=false:=by rw[beq_eq_false_iff_ne];omega
   simp[h,List.count_cons,this]
def errL (l:List Int):Int:=if 288<l.length then 2 else if ∃j,j<l.length/\Qt (l.getD j 0)=false then 3 else if 32768<takenN (cnt l) 15 then 8 else 0
def SE (l:List Int):Nat->Nat:=if errL l=0 then cnt l else fun _=>0
structure Good (l:List Int):Prop where
 len:l.length<=288
 ok:∀j,j<l.length->0<=l.getD j 0/\l.getD j 0<=15
 room:takenN (cnt l) 15<=32768
theorem Cn {l:List Int}(h:errL l=0):Good l:=by
 unfold errL at h
 split at h
 . cases h
 . split at h
   . cases h
   . split at h
     . cases h
     . rename_i h1 h2 h3
       refine⟨by omega,fun j hj=> ?_,by omega⟩
       cases e:Qt (l.getD j 0)with
       |true=>exact Dk e
       |false=>exact absurd ⟨j,hj,e⟩ h2
theorem Iz {l:List Int}(h:Good l):errL l=0:=by
 unfold errL;rw[if_neg (by have:=h.len;omega),if_neg,if_neg (by have:=h.room;omega)];rintro ⟨j,hj,e⟩;exact Kg e (h.ok j hj)
def codeN (l:List Int)(i:Nat):Nat:=if (l.getD i 0).toNat=0 then 0 else Ay (cnt l) (l.getD i 0).toNat+cnt (l.take i) (l.getD i 0).toNat
def Td (l:List Int):Nat->List Nat
 |0=>List.replicate l.length 0
 |k+1=>(Td l k).set k (codeN l k)
theorem Ed (l:List Int):∀k,(Td l k).length=l.length
 |0=>by simp[Td]
 |k+1=>by rw[Td,YD,Ed l k]
theorem Q7 (l:List Int){j:Nat}(hj:j<l.length):∀k,(Td l k).getD j 0=if j<k then codeN l j else 0
 |0=>by simp[Td,List.getD,hj]
 |k+1=>by
  have ih:=Q7 l hj k;simp only[Td,WY,YJ,Ed]at ih ⊢
  by_cases e:k=j
  . subst e;simp[hj]
  . rw[if_neg e,ih]
    by_cases h:j<k
    . have:j<k+1:=by omega
      simp[h,this]
    . have:¬j<k+1:=by omega
      simp[h,this]
theorem MO (l:List Int)(k:Nat)(h:codeN l k=0):Td l (k+1)=Td l k:=by
 rw[Td,h]
 by_cases hk:k<l.length
 . have e:=Q7 l hk k;rw[if_neg (by omega)]at e;have hk2:k<(Td l k).length:=by rw[Ed];exact hk
   have e2:(Td l k)[k]=0:=by simpa[List.getD,hk2]using e
   apply List.ext_getElem?
   intro i;rw[YJ]
   by_cases hi:k=i
   . subst hi;simp[hk2,e2]
   . simp[hi]
 . rw[List.set_eq_of_length_le (by rw[Ed];omega)]
def nxt (l:List Int)(k:Nat):Nat->Nat:=fun n=>if n=0 then 0 else Ay (cnt l) n+cnt (l.take k) n
theorem QI (l:List Int)(n:Nat):nxt l 0 n=Ay (cnt l) n:=by
 unfold nxt
 by_cases e:n=0
 . subst e;rfl
 . simp[e,cnt]
theorem QJ (l:List Int){k n:Nat}(hk:k<l.length)(hx:l.getD k 0=(n:Int))(hn:0<n):upd (nxt l k) n (nxt l k n+1)=nxt l (k+1):=by
 have h:=Hv l hk hx
 funext m
 have hm:=congrFun h m;simp only[upd,nxt]at hm ⊢
 by_cases e:m=n
 . subst e;have:¬m=0:=by omega
   simp[this]at hm ⊢;omega
 . simp[e]at hm ⊢
   rw[hm]
theorem QK (l:List Int){k:Nat}(hk:k<l.length)(hx:l.getD k 0=((0:Nat):Int)):nxt l k=nxt l (k+1):=by
 have h:=Hv l hk hx
 funext m
 have hm:=congrFun h m;simp only[upd,nxt]at hm ⊢
 by_cases e:m=0
 . simp[e]
 . simp[e]at hm ⊢
   rw[hm]
theorem Fy (l:List Int){k n:Nat}(hx:l.getD k 0=(n:Int)):codeN l k=nxt l k n:=by
 unfold codeN nxt;rw[hx,WD]
theorem MQ {l:List Int}(h:Good l):SE l=cnt l:=by unfold SE;rw[Iz h];rfl
theorem Q8 (l:List Int){k n:Nat}(hk:k<l.length)(hx:l.getD k 0=(n:Int)):cnt (l.take k) n<cnt l n:=by
 have h:=congrFun (Hv l hk hx) n;simp only[upd,if_pos]at h
 have h2:cnt (l.take (k+1)) n<=cnt l n:=by
  unfold cnt;exact List.Sublist.count_le _ (List.take_sublist _ _)
 omega
theorem Gr (l:List Int)(h:Good l){k n:Nat}(hk:k<l.length)(hx:l.getD k 0=(n:Int))(hn:0<n):Ay (cnt l) n<=codeN l k/\codeN l k<Ay (cnt l) n+cnt l n/\codeN l k<2^n:=by
 have h1:=Fy l hx;have h2:=Q8 l hk hx;have h3:n<=15:=by have:=(h.ok k hk).2;omega
 have h4:=DX (cnt l) h.room (n:=n) (by omega) h3;unfold nxt at h1;rw[if_neg (by omega)]at h1;omega
def Qp (l:List Int)(m:Nat):Nat->List Nat
 |0=> []
 |k+1=>Qp l m k++(if l.getD k 0=(m:Int)then [k]else [])
theorem Hm (l:List Int)(m:Nat):∀k,k<=l.length->(Qp l m k).length=cnt (l.take k) m
 |0,_=>by simp[Qp,cnt]
 |k+1,hk=>by
  have ih:=Hm l m k (by omega);have hk':k<l.length:=by omega
  rw[Qp,VB,ih,cnt,cnt,WR hk',List.count_append];have e:l.getD k 0=l[k]:=by simp[List.getD,hk']
  rw[e]
  by_cases h:l[k]=(m:Int)
  . simp[h]
  . simp[h]
theorem Y0 (l:List Int)(m:Nat):∀k d,∃r,Qp l m (k+d)=Qp l m k++r
 |k,0=>⟨[],by simp⟩
 |k,d+1=>by
  obtain⟨r,hr⟩:=Y0 l m k d;refine⟨r++(if l.getD (k+d) 0=(m:Int)then [k+d]else []), ?_⟩;rw[<-WH,Qp,hr,VH]
theorem M5 (l:List Int){m p:Nat}(hp:p<l.length)(hx:l.getD p 0=(m:Int)):(Qp l m l.length)[cnt (l.take p) m]? =some p:=by
 obtain⟨r,hr⟩:=Y0 l m (p+1) (l.length-(p+1));rw[show p+1+(l.length-(p+1))=l.length by omega]at hr;rw[hr,Qp,if_pos hx];have h:=Hm l m p (by omega);rw[VH,VS (by omega),h];simp
def Z49 (bs:List Nat)(p:Nat):Nat:=bs.getD (p/8) 0/2^(p%8)%2
def Bw (bs:List Nat)(p:Nat):Nat->Nat
 |0=>0
 |k+1=>2*Bw bs p k+Z49 bs (p+k)
theorem NJ (bs:List Nat)(p:Nat):Z49 bs p<2:=Nat.mod_lt _ (by decide)
theorem Sf (bs:List Nat)(p:Nat):∀k,Bw bs p k<2^k
 |0=>by simp[Bw]
 |k+1=>by
  have h1:=Sf bs p k;have h2:=NJ bs (p+k);rw[Bw,XE];omega
def Hit (l:List Int)(bs:List Nat)(p k:Nat):Prop:=Ay (cnt l) k<=Bw bs p k/\Bw bs p k<Ay (cnt l) k+cnt l k
def Sm (l:List Int)(bs:List Nat)(p x:Nat)(err:Int)(p':Nat):Prop:=
 (∃k,1<=k/\k<=15/\(∀j,1<=j->j<k->¬Hit l bs p j)/\p+k<=8*bs.length/\Hit l bs p k/\p'=p+k/\err=0/\(Qp l k l.length)[Bw bs p k-Ay (cnt l) k]? =some x)\/
 (∃k,k<15/\(∀j,1<=j->j<=k->¬Hit l bs p j)/\p+k=8*bs.length/\p'=p+k/\err=7/\x=0)\/
 ((∀j,1<=j->j<=15->¬Hit l bs p j)/\p+15<=8*bs.length/\p'=p+15/\err=8/\x=0)
theorem PV (l:List Int){k i:Nat}(hi:i<cnt l k):∃x,(Qp l k l.length)[i]? =some x:=by
 have hl:=Hm l k l.length (VC _);rw[YT]at hl;exact⟨(Qp l k l.length)[i],by simp⟩
theorem K6 (c i:Nat):(c.testBit i).toNat=c/2^i%2:=by
 rw[Nat.testBit_eq_decide_div_mod_eq];have:=Nat.mod_lt (c/2^i) (show 0<2 by decide)
 by_cases h:c/2^i%2=1
 . simp[h]
 . have h0:c/2^i%2=0:=by omega
   simp[h0]
theorem Z2p (bs:List Nat)(q:Nat):Z49 bs q=(H7 bs q).toNat:=by unfold Z49 H7;rw[K6]
theorem Qo (l:List Int)(hG:Good l){i k m n:Nat}(hi:i<l.length)(hk:k<l.length)(hm:l.getD i 0=(m:Int))(hn:l.getD k 0=(n:Int))(hik:i≠k)(h0:0<m)(hmn:m<=n):codeN l k/2^(n-m)≠codeN l i:=by
 obtain⟨a1,a2,a3⟩:=Gr l hG hi hm h0;obtain⟨b1,b2,b3⟩:=Gr l hG hk hn (by omega)
 by_cases e:m=n
 . subst e;rw[XM,Nat.pow_zero,Nat.div_one];intro h;have e1:=M5 l hi hm;have e2:=M5 l hk hn;have d1:=Fy l hm;have d2:=Fy l hn;unfold nxt at d1 d2;rw[if_neg (by omega)]at d1 d2;have:cnt (l.take i) m=cnt (l.take k) m:=by omega
   rw[this,e2]at e1;exact hik (VQ e1).symm
 . have hf:=C5 (cnt l) m (by omega) (n-m) (by omega);rw[show m+(n-m)=n by omega]at hf;have h4:Ay (cnt l) m+cnt l m<=codeN l k/2^(n-m):=(Nat.le_div_iff_mul_le (Nat.pow_pos (by decide))).2 (by omega);omega
end Go.Proofs.YtleocpdblhbimaaGreatDoor
namespace Go.Proofs.YtleocpdblhbimaaGreatDoor
open Go.RowKit
set_option linter.unusedVariables false
def hb (c:Nat):Nat->List Bool
 |0=> []
 |n+1=>hb (c/2) n++ [decide (c%2=1)]
theorem Az:∀n c,(hb c n).length=n
 |0,_=>rfl
 |n+1,c=>by simp[hb,Az n]
theorem KY:∀n,hb 0 n=List.replicate n false
 |0=>rfl
 |n+1=>by rw[hb,Nat.zero_div,KY n,List.replicate_succ'];rfl
theorem TS (c n:Nat):∀d,hb (c*2^d) (n+d)=hb c n++List.replicate d false
 |0=>by simp
 |d+1=>by
  have e:c*2^(d+1)=2*(c*2^d):=by rw[XE];rw[<-XS,YC]
  rw[show n+(d+1)=(n+d)+1 by omega,hb,e];have e1:2*(c*2^d)/2=c*2^d:=by omega
  have e2:2*(c*2^d)%2=0:=by omega
  rw[e1,e2,TS c n d,List.replicate_succ',VH];rfl
theorem TT:∀n c,c+1<2^n->∃a t,hb c n=a++false::List.replicate t true/\hb (c+1) n=a++true::List.replicate t false
 |0,c,h=>by simp at h
 |n+1,c,h=>by
  rw[XE]at h
  by_cases hc:c%2=0
  . refine⟨hb (c/2) n,0, ?_, ?_⟩
    . rw[hb,hc];rfl
    . rw[hb,show (c+1)/2=c/2 by omega,show (c+1)%2=1 by omega];rfl
  . obtain⟨a,t,h1,h2⟩:=TT n (c/2) (by omega);refine⟨a,t+1, ?_, ?_⟩
    . rw[hb,h1,show c%2=1 by omega,List.replicate_succ',VH];rfl
    . rw[hb,show (c+1)/2=c/2+1 by omega,h2,show (c+1)%2=0 by omega,List.replicate_succ',VH];rfl
def Bn (l:List Int):Nat->List (Int×Int)
 |0=> []
 |k+1=>Bn l k++(if 0<l.getD k 0 then [(l.getD k 0,(k:Int))]else [])
def wt (x:Int×Int):Nat:=2^(15-x.1.toNat)
instance (x y:Int×Int):Decidable (Stab.lx x y):=by unfold Stab.lx;infer_instance
def Oi (p:Int×Int):List (Int×Int)->Nat
 | []=>0
 |x::r=>(if Stab.lx x p then wt x else 0)+Oi p r
theorem Ee (p:Int×Int):∀xs ys,Oi p (xs++ys)=Oi p xs+Oi p ys
 | [],ys=>by simp[Oi]
 |x::r,ys=>by simp only[XH,Oi,Ee p r ys];omega
theorem NF (p:Int×Int){xs ys:List (Int×Int)}(h:xs.Perm ys):Oi p xs=Oi p ys:=by
 induction h with
 |nil=>rfl
 |cons x _ ih=>simp only[Oi,ih]
 |swap x y l=>simp only[Oi];omega
 |trans _ _ h1 h2=>exact h1.trans h2
theorem Py (c:Nat->Nat)(m:Nat)(hm:1<=m)(h15:m<=15):∀j,j<=15->takenN (upd c m (c m+1)) j=takenN c j+(if m<=j then 2^(15-m)else 0)
 |0,_=>by simp[takenN];omega
 |j+1,h=>by
  have ih:=Py c m hm h15 j (by omega);rw[takenN,takenN,ih]
  by_cases e:j+1=m
  . subst e;have h1:¬(j+1<=j):=by omega
    have h2:15-(j+1)=14-j:=by omega
    simp only[upd,if_pos,h1,if_false,VC,h2,ZP,Nat.one_mul];omega
  . simp only[upd,if_neg e]
    by_cases h1:m<=j
    . have h2:m<=j+1:=by omega
      simp[h1,h2];omega
    . have h2:¬m<=j+1:=by omega
      simp[h1,h2]
theorem Mu (c:Nat->Nat)(x:Nat):∀j,takenN (upd c 0 x) j=takenN c j
 |0=>rfl
 |j+1=>by rw[takenN,takenN,Mu c x j];simp[upd]
theorem F8 (l:List Int)(hG:Good l)(n q:Nat)(hn:1<=n)(hn15:n<=15):∀k,k<=l.length->Oi ((n:Int),(q:Int)) (Bn l k)=takenN (cnt (l.take k)) (n-1)+cnt (l.take (min k q)) n*2^(15-n)
 |0,_=>by
  have e:∀j,takenN (cnt []) j=0:=fun j=>by
   induction j with
   |zero=>rfl
   |succ j ih=>rw[takenN,ih];simp[cnt]
  simp[Bn,Oi,e,cnt]
 |k+1,hk=>by
  have ih:=F8 l hG n q hn hn15 k (by omega);have hkl:k<l.length:=by omega
  have hok:=hG.ok k hkl;obtain⟨m,hm⟩:=VW hok.1;have hc:=Hv l hkl hm
  have hcm:cnt (l.take (k+1)) n=cnt (l.take k) n+(if n=m then 1 else 0):=by
   rw[<-hc];simp only[upd]
   by_cases e:n=m
   . subst e;simp
   . simp[e]
  have hmin:cnt (l.take (min (k+1) q)) n=cnt (l.take (min k q)) n+(if k<q/\n=m then 1 else 0):=by
   by_cases hkq:k<q
   . rw[YM (by omega),YM (by omega),hcm];simp[hkq]
   . rw[YG (by omega),YG (by omega)];simp[hkq]
  rw[Bn,Ee,ih,hmin,<-hc,hm];have h15:m<=15:=by rw[hm]at hok;omega
  by_cases h0:m=0
  . subst h0;rw[Mu];have:¬n=0:=by omega
    simp[Oi,this]
  . rw[Py _ m (by omega) h15 (n-1) (by omega)];have hpos:(0:Int)<(m:Int):=by omega
    rw[if_pos hpos];simp only[Oi,wt,WD,XL];have hlx:Stab.lx ((m:Int),(k:Int)) ((n:Int),(q:Int))↔(m<=n-1\/ (n=m/\k<q)):=by unfold Stab.lx;constructor<;>intro h<;>omega
    by_cases h1:m<=n-1
    . have h2:¬(k<q/\n=m):=by omega
      rw[if_pos (hlx.2 (.inl h1)),if_pos h1,if_neg h2,XL];omega
    . by_cases h2:k<q/\n=m
      . rw[if_pos (hlx.2 (.inr ⟨h2.2,h2.1⟩)),if_neg h1,if_pos h2,ZP,Nat.one_mul,h2.2];omega
      . rw[if_neg (fun h=>by have:=hlx.1 h;omega),if_neg h1,if_neg h2,XL,XL,XL]
theorem NG (l:List Int)(hG:Good l){n q:Nat}(hq:q<l.length)(hx:l.getD q 0=(n:Int))(hn:0<n):Oi ((n:Int),(q:Int)) (Bn l l.length)=codeN l q*2^(15-n):=by
 have hn15:n<=15:=by have:=(hG.ok q hq).2;omega
 rw[F8 l hG n q (by omega) hn15 l.length (VC _),YT,YG (by omega)];have h:=Km (cnt l) (n-1) (by omega);have e:=Fy l hx;unfold nxt at e;rw[if_neg (by omega)]at e;rw[e,ZP,<-h,show n-1+1=n by omega,show 14-(n-1)=15-n by omega]
def vsum (d:Nat->Int×Int):Nat->Nat
 |0=>0
 |i+1=>vsum d i+wt (d i)
theorem SI (d:Nat->Int×Int)(p:Int×Int):∀a b,Oi p (Stab.seg d a (a+b))=(List.range b).foldl (fun s i=>s+if Stab.lx (d (a+i)) p then wt (d (a+i))else 0) 0
 |a,0=>by simp[Stab.seg,Oi]
 |a,b+1=>by
  rw[Stab.seg_split d a (a+b) (a+(b+1)) (by omega) (by omega),Ee,SI d p a b,List.range_succ,List.foldl_append]
  have:Stab.seg d (a+b) (a+(b+1))= [d (a+b)]:=by
   unfold Stab.seg;rw[show a+(b+1)-(a+b)=1 by omega];simp
  rw[this];simp[Oi]
theorem Uz (d:Nat->Int×Int)(p:Int×Int):∀i,(∀j,j<i->Stab.lx (d j) p)->Oi p (Stab.seg d 0 i)=vsum d i
 |0,_=>by simp[Stab.seg,Oi,vsum]
 |i+1,h=>by
  rw[Stab.seg_split d 0 i (i+1) (by omega) (by omega),Ee,Uz d p i (fun j hj=>h j (by omega)),vsum]
  have:Stab.seg d i (i+1)= [d i]:=by
   unfold Stab.seg;rw[show i+1-i=1 by omega];simp
  rw[this];simp[Oi,h i (by omega)]
theorem Vb (d:Nat->Int×Int)(p:Int×Int)(a:Nat):∀b,(∀j,a<=j->j<a+b->¬Stab.lx (d j) p)->Oi p (Stab.seg d a (a+b))=0
 |0,_=>by simp[Stab.seg,Oi]
 |b+1,h=>by
  rw[Stab.seg_split d a (a+b) (a+(b+1)) (by omega) (by omega),Ee,Vb d p a b (fun j h1 h2=>h j h1 (by omega))]
  have:Stab.seg d (a+b) (a+(b+1))= [d (a+b)]:=by
   unfold Stab.seg;rw[show a+(b+1)-(a+b)=1 by omega];simp
  rw[this];simp[Oi,h (a+b) (by omega) (by omega)]
theorem Z3o (x:Int×Int):¬Stab.lx x x:=by unfold Stab.lx;omega
theorem QV {x y:Int×Int}(h:Stab.lx x y):¬Stab.lx y x:=by unfold Stab.lx at*;omega
theorem R3 (d:Nat->Int×Int)(N:Nat)(hs:Stab.Srt Stab.lx d 0 N){i:Nat}(hi:i<N):Oi (d i) (Stab.seg d 0 N)=vsum d i:=by
 rw[Stab.seg_split d 0 i N (by omega) (by omega),Ee,Uz d (d i) i (fun j hj=>hs j i (VK _) hj hi)]
 have:=Vb d (d i) i (N-i) (fun j h1 h2=>by
  by_cases e:j=i
  . subst e;exact Z3o _
  . exact QV (hs i j (VK _) (by omega) (by omega)))
 rw[show i+(N-i)=N by omega]at this;rw[this,XL]
def codeT (l:List Int)(q:Nat):List Bool:=hb (codeN l q) (l.getD q 0).toNat
end Go.Proofs.YtleocpdblhbimaaGreatDoor
namespace Go.Proofs.YtleocpdblhbimaaGreatDoor
open Go.RowKit
set_option linter.unusedVariables false
set_option maxRecDepth 100000
def Ah (n:Nat):Nat->List Bool
 |0=> []
 |k+1=>Ah n k++ [n.testBit k]
theorem Ae (n:Nat):∀k,(Ah n k).length=k
 |0=>rfl
 |k+1=>by rw[Ah,VB,Ae n k];rfl
theorem NI (n k:Nat):n/2^k%2=if n.testBit k then 1 else 0:=by
 have h:=Nat.testBit_eq_decide_div_mod_eq (x:=n) (i:=k);rw[h]
 rcases XD (n/2^k)with e|e<;>simp[e]
theorem Iq (n:Nat):∀s i,(Ah n s).getD i false=(decide (i<s)&&n.testBit i)
 |0,i=>by simp[Ah]
 |s+1,i=>by
  rw[Ah,WY]
  by_cases h:i<s
  . rw[WL (by rw[Ae];exact h),<-WY,Iq n s i];simp[h,Nat.lt_succ_of_lt h]
  . rw[VS (by rw[Ae];omega),Ae]
    by_cases e:i=s
    . subst e;simp
    . have h1:¬i<s+1:=by omega
      have h2: [n.testBit s][i-s]? =none:=WN (by simp;omega);rw[h2];simp[h1]
def El:List Bool->Nat
 | []=>0
 |b::r=>(if b then 1 else 0)+2*El r
theorem Oy:∀l,El l<2^l.length
 | []=>by simp[El]
 |b::r=>by
  have:=Oy r
  rw[El,VJ,XE]
  split<;>omega
theorem CX {l:List Bool}(h:l.length<=16):El l<65536:=VG (Oy l) (IQ h)
def rowB (xs:List Nat):Nat->List Bool
 |0=> []
 |q+1=>rowB xs q++Ah (xs.getD q 0) 8
theorem Ai (xs:List Nat):∀q,(rowB xs q).length=8*q
 |0=>rfl
 |q+1=>by rw[rowB,VB,Ai xs q,Ae];omega
theorem Ld (xs:List Nat):∀q i,i<8*q->(rowB xs q).getD i false=H7 xs i
 |0,i,h=>by omega
 |q+1,i,h=>by
  rw[rowB,WY]
  by_cases e:i<8*q
  . rw[WL (by rw[Ai];exact e),<-WY,Ld xs q i e]
  . rw[VS (by rw[Ai];omega),Ai,<-WY,Iq,H7];have e1:i/8=q:=by omega
    have e2:i%8=i-8*q:=by omega
    rw[e1,e2,decide_eq_true (by omega),ZN]
end Go.Proofs.YtleocpdblhbimaaGreatDoor
namespace Go.Proofs.YtleocpdblhbimaaGreatDoor
set_option linter.unusedVariables false
structure US where
 p:Nat
 out:List Nat
 ks:List Nat
 e:Int
def uget (row:List Bool)(n:Nat)(u:US):Nat×US:=
 if u.e=0 then (if row.length<u.p+n then (0,{u with e:=7})else (El ((row.drop u.p).take n),{u with p:=u.p+n}))else (0,u)
def Ck (x:Int)(u:US):US:=if u.e=0 then {u with e:=x}else u
def Hy (c:Nat)(u:US):US:=if u.e=0 then (if u.out.length=3000 then {u with e:=2}else {u with out:=u.out++ [c]})else u
def Og (l:List Int)(s:List Bool):Option Nat:=(List.range l.length).find? (fun q=>decide (codeT l q=s))
def Gm (l:List Int)(row:List Bool)(p:Nat):Nat->Nat->Nat×Nat×Int
 |0,_=>(0,0,8)
 |f+1,n=>if row.length<p+n then (0,0,7)else match Og l ((row.drop p).take n)with
  |some q=>(q,n,0)
  |none=>Gm l row p f (n+1)
def Na (l:List Int)(row:List Bool)(p:Nat):Nat×Nat×Int:=Gm l row p 15 1
def uplace (l:List Int)(row:List Bool)(u:US):Nat×US:=
 if u.e=0 then ((Na l row u.p).1,{u with e:=(Na l row u.p).2.2,p:=u.p+(Na l row u.p).2.1})else (0,u)
def ord19:List Nat:= [16,17,18,0,8,7,9,6,10,5,11,4,12,3,13,2,14,1,15]
def usmall (row:List Bool):List Nat->List Int->US->List Int×US
 | [],s,u=>(s,u)
 |k::r,s,u=>usmall row r (s.set k ((uget row 3 u).1:Int)) (uget row 3 u).2
def ukind (row:List Bool)(l:List Int)(k:Nat)(u:US):Int×Nat×US:=
 if k=16 then (if l.length=0 then (16,1,Ck 8 u)else (l.getD (l.length-1) 0,3+(uget row 2 u).1,(uget row 2 u).2))
 else if k=17 then (0,3+(uget row 3 u).1,(uget row 3 u).2)
 else if k=18 then (0,11+(uget row 7 u).1,(uget row 7 u).2)
 else ((k:Int),1,u)
def ON (tot:Nat)(l:List Int)(r:Int×Nat×US):List Int×US:=
 (l++List.replicate r.2.1 r.1,if r.2.2.e=0/\tot<l.length+r.2.1 then Ck 8 r.2.2 else r.2.2)
def ustep (row:List Bool)(small:List Int)(tot:Nat)(l:List Int)(u:US):List Int×US:=ON tot l (ukind row l (uplace small row u).1 (uplace small row u).2)
def ulens (row:List Bool)(small:List Int)(tot:Nat):Nat->List Int->US->List Int×US
 |0,l,u=>(l,u)
 |f+1,l,u=>if l.length<tot/\u.e=0 then ulens row small tot f (ustep row small tot l u).1 (ustep row small tot l u).2 else (l,u)
def Tl (row:List Bool)(m n c:Nat)(u:US):List Int×US:=
 usmall row (ord19.take c) (List.replicate 19 0) (if 286<m\/30<n then Ck 8 u else u)
def NV (s:List Int×US):US:=if s.2.e=0/\errL s.1≠0 then Ck 8 s.2 else s.2
def FO (m:Nat)(r:List Int×US):(List Int×List Int)×US:=
 if r.2.e≠0 then (([],[]),r.2)
 else if r.1.getD 256 0=0\/errL (r.1.take m)≠0\/errL (r.1.drop m)≠0 then (([],[]),Ck 8 r.2)
 else ((r.1.take m,r.1.drop m),r.2)
def T8 (row:List Bool)(m n:Nat)(s:List Int×US):(List Int×List Int)×US:=
 if (NV s).e≠0 then (([],[]),NV s)else FO m (ulens row s.1 (m+n) (m+n) [] (NV s))
def Hc (row:List Bool)(u:US):(List Int×List Int)×US:=
 let r1:=uget row 5 u
 let r2:=uget row 5 r1.2
 let r3:=uget row 4 r2.2
 T8 row (r1.1+257) (r2.1+1) (Tl row (r1.1+257) (r2.1+1) (r3.1+4) r3.2)
def ustore (row:List Bool):Nat->US->US
 |0,u=>u
 |k+1,u=>if u.e=0 then ustore row k (Hy (uget row 8 u).1 (uget row 8 u).2)else u
def ucopy (d:Nat):Nat->US->US
 |0,u=>u
 |j+1,u=>if u.e=0 then ucopy d j (Hy (u.out.getD (u.out.length-d) 0) u)else u
def samesL:List (Nat×Nat):= [(3,0),(4,0),(5,0),(6,0),(7,0),(8,0),(9,0),(10,0),(11,1),(13,1),(15,1),(17,1),(19,2),(23,2),(27,2),(31,2),(35,3),(43,3),(51,3),(59,3),(67,4),(83,4),(99,4),(115,4),(131,5),(163,5),(195,5),(227,5),(258,0)]
def farsL:List (Nat×Nat):= [(1,0),(2,0),(3,0),(4,0),(5,1),(7,1),(9,2),(13,2),(17,3),(25,3),(33,4),(49,4),(65,5),(97,5),(129,6),(193,6),(257,7),(385,7),(513,8),(769,8),(1025,9),(1537,9),(2049,10),(3073,10),(4097,11),(6145,11),(8193,12),(12289,12),(16385,13),(24577,13)]
def Mb:List Int:=List.replicate 144 8++List.replicate 112 9++List.replicate 24 7++List.replicate 8 8
def Ja:List Int:=List.replicate 32 5
def Z4b (row:List Bool)(n f:Nat)(u:US):US:=
 let q:=uget row (farsL.getD f (0,0)).2 u
 let d:=(farsL.getD f (0,0)).1+q.1
 ucopy d n (if q.2.e=0/\q.2.out.length<d then Ck 9 q.2 else q.2)
def OJ (row:List Bool)(b:List Int)(k:Nat)(u:US):Bool×US:=
 let g:=uget row (samesL.getD (k-257) (0,0)).2 u
 let h:=uplace b row g.2
 let u3:=if h.2.e=0/\29<h.1 then Ck 8 h.2 else h.2
 if u3.e≠0 then (false,u3)else (true,Z4b row ((samesL.getD (k-257) (0,0)).1+g.1) h.1 u3)
def Ih (row:List Bool)(a b:List Int)(u:US):Bool×US:=
 let r:=uplace a row u
 if r.2.e≠0\/r.1=256 then (false,r.2)
 else if r.1<256 then (true,Hy r.1 r.2)
 else if 285<r.1 then (false,Ck 8 r.2)
 else OJ row b r.1 r.2
def utok (row:List Bool)(a b:List Int):Nat->US->US
 |0,u=>u
 |f+1,u=>if u.e=0 then (if (Ih row a b u).1 then utok row a b f (Ih row a b u).2 else (Ih row a b u).2)else u
def ukept (k:Nat)(u:US):US:= {u with ks:=u.ks++ [k]}
def uopen (row:List Bool)(kind:Nat)(u:US):(List Int×List Int)×US:=
 if kind=1 then ((Mb,Ja),u)else if kind=2 then Hc row u else (([],[]),Ck 4 u)
def ustored (row:List Bool)(u:US):US:=
 let n:=uget row 16 {u with p:=(u.p+7)/8*8}
 let t:=uget row 16 n.2
 ustore row n.1 (if t.2.e=0/\n.1+t.1≠65535 then Ck 4 t.2 else t.2)
def Dx (row:List Bool)(u:US):Bool×US:=
 let l:=uget row 1 u
 let k:=uget row 2 l.2
 if k.2.e≠0 then (true,k.2)
 else if k.1=0 then (decide (l.1=1),ukept 0 (ustored row k.2))
 else
  let o:=uopen row k.1 k.2
  if o.2.e≠0 then (true,o.2)else (decide (l.1=1),ukept k.1 (utok row o.1.1 o.1.2 row.length o.2))
def Ci (row:List Bool):Nat->US->US
 |0,u=>u
 |f+1,u=>if (Dx row u).1=false/\(Dx row u).2.e=0 then Ci row f (Dx row u).2 else (Dx row u).2
def Mp (row:List Bool):US:=Ci row (row.length+1) ⟨0,[],[],0⟩
end Go.Proofs.YtleocpdblhbimaaGreatDoor
namespace Go.Proofs.YtleocpdblhbimaaGreatDoor
set_option linter.unusedVariables false
set_option maxRecDepth 100000
theorem Pu {row:List Bool}{n:Nat}{u:US}(h:(uget row n u).2.e=0):u.e=0:=by
 unfold uget at h
 by_cases e:u.e=0
 . exact e
 . rw[if_neg e]at h;exact h
theorem Cs {x:Int}{u:US}(hx:x≠0):(Ck x u).e≠0:=by
 unfold Ck
 by_cases e:u.e=0
 . rw[if_pos e];exact hx
 . rw[if_neg e];exact e
theorem V0 {l:List Int}{row:List Bool}{u:US}(h:(uplace l row u).2.e=0):u.e=0:=by
 unfold uplace at h
 by_cases e:u.e=0
 . exact e
 . rw[if_neg e]at h;exact h
theorem Oj {row:List Bool}:∀ {ks:List Nat} {s:List Int} {u:US},(usmall row ks s u).2.e=0->u.e=0
 | [],s,u,h=>h
 |k::r,s,u,h=>by
  rw[usmall]at h;exact Pu (Oj h)
structure Round (row:List Bool)(small:List Int)(tot:Nat)(l:List Int)(u:US):Prop where
 pe:(uplace small row u).2.e=0
 ke:(ukind row l (uplace small row u).1 (uplace small row u).2).2.2.e=0
 le:l.length+(ukind row l (uplace small row u).1 (uplace small row u).2).2.1<=tot
 st:ustep row small tot l u=(l++List.replicate (ukind row l (uplace small row u).1 (uplace small row u).2).2.1 (ukind row l (uplace small row u).1 (uplace small row u).2).1,(ukind row l (uplace small row u).1 (uplace small row u).2).2.2)
theorem FX {row:List Bool}{l:List Int}{k:Nat}{u:US}(h:(ukind row l k u).2.2.e=0):u.e=0:=by
 unfold ukind at h
 split at h
 . split at h
   . exact absurd h (Cs (by decide))
   . exact Pu h
 . split at h
   . exact Pu h
   . split at h
     . exact Pu h
     . exact h
theorem BP {row:List Bool}{small:List Int}{tot F:Nat}{l:List Int}{u:US}(h:u.e≠0):ulens row small tot F l u=(l,u):=by
 cases F with
 |zero=>rfl
 |succ F=>rw[ulens,if_neg (fun h2=>h h2.2)]
theorem Kc {row:List Bool}{small:List Int}{tot F:Nat}{l:List Int}{u:US}(hl:l.length<tot)(he:u.e=0)(hF:(ulens row small tot (F+1) l u).2.e=0):Round row small tot l u/\ulens row small tot (F+1) l u=ulens row small tot F (ustep row small tot l u).1 (ustep row small tot l u).2:=by
 have e1:ulens row small tot (F+1) l u=ulens row small tot F (ustep row small tot l u).1 (ustep row small tot l u).2:=by rw[ulens,if_pos ⟨hl,he⟩]
 have e2:(ustep row small tot l u).2.e=0:=by
  by_cases e:(ustep row small tot l u).2.e=0
  . exact e
  . rw[e1,BP e]at hF;exact absurd hF e
 refine⟨?_,e1⟩;unfold ustep ON at e2;simp only at e2
 by_cases hc:(ukind row l (uplace small row u).1 (uplace small row u).2).2.2.e=0/\tot<l.length+(ukind row l (uplace small row u).1 (uplace small row u).2).2.1
 . rw[if_pos hc]at e2;exact absurd e2 (Cs (by decide))
 . rw[if_neg hc]at e2;refine⟨FX e2,e2,by omega, ?_⟩;unfold ustep ON;rw[if_neg hc]
theorem Xy {row:List Bool}{small:List Int}{tot:Nat}:∀(F:Nat) (l:List Int) (u:US),tot<=l.length+F->l.length<=tot->u.e=0->(ulens row small tot F l u).2.e=0->(∀l u,Round row small tot l u->1<=(ukind row l (uplace small row u).1 (uplace small row u).2).2.1)->(ulens row small tot F l u).1.length=tot
 |0,l,u,h1,h2,he,hF,hp=>by rw[ulens];simp only;omega
 |F+1,l,u,h1,h2,he,hF,hp=>by
  by_cases hl:l.length<tot
  . obtain⟨r,e⟩:=Kc hl he hF;have h3:=hp l u r;have h4:=r.le;rw[e]at hF ⊢;rw[r.st]at hF ⊢;exact Xy F _ _ (by simp;omega) (by simp;omega) r.ke hF hp
  . rw[ulens,if_neg (fun h=>hl h.1)];simp only
    omega
theorem J8 (row:List Bool)(n:Nat)(u:US):(uget row n u).1<2^n:=by
 unfold uget
 split
 . split
   . exact YN n
   . refine VG (Oy _) (VU (by decide) ?_);rw[VM];exact Nat.min_le_left _ _
 . exact YN n
theorem FW (row:List Bool)(l:List Int)(k:Nat)(u:US):1<=(ukind row l k u).2.1/\(ukind row l k u).2.1<=138:=by
 have h2:(uget row 2 u).1<2^2:=J8 row 2 u;have h3:(uget row 3 u).1<2^3:=J8 row 3 u;have h7:(uget row 7 u).1<2^7:=J8 row 7 u;unfold ukind
 split
 . split
   . exact⟨VC _,by simp⟩
   . simp only;omega
 . split
   . simp only;omega
   . split
     . simp only;omega
     . exact⟨VC _,by simp⟩
theorem Nq {c:Nat}{u:US}(h:(Hy c u).e=0):u.e=0/\u.out.length≠3000/\Hy c u= {u with out:=u.out++ [c]}:=by
 unfold Hy at h ⊢
 by_cases e:u.e=0
 . rw[if_pos e]at h ⊢
   by_cases e2:u.out.length=3000
   . rw[if_pos e2]at h;exact absurd (show (2:Int)=0 from h) (by decide)
   . rw[if_neg e2];exact⟨e,e2,rfl⟩
 . rw[if_neg e]at h;exact absurd h e
theorem Ax {row:List Bool}{n r:Nat}{u v:US}(h:uget row n u=(r,v))(hv:v.e=0):v.p=u.p+n/\v.p<=row.length/\v.out=u.out/\v.ks=u.ks/\u.e=0:=by
 have hu:u.e=0:=Pu (by rw[h];exact hv);unfold uget at h;rw[if_pos hu]at h
 by_cases e:row.length<u.p+n
 . rw[if_pos e]at h;have:=(XA h).2
   rw[<-this]at hv;exact absurd (show (7:Int)=0 from hv) (by decide)
 . rw[if_neg e]at h;have:=(XA h).2
   subst this;exact⟨rfl,by show u.p+n<=row.length;omega,rfl,rfl,hu⟩
theorem Zt {l:List Int}{row:List Bool}{p:Nat}:∀(f n:Nat),1<=n->(Gm l row p f n).2.2=0->1<=(Gm l row p f n).2.1/\p+(Gm l row p f n).2.1<=row.length/\(Gm l row p f n).1<l.length
 |0,n,_,h=>by rw[Gm]at h;exact absurd h (by decide)
 |f+1,n,hn,h=>by
  rw[Gm]at h ⊢
  by_cases e:row.length<p+n
  . rw[if_pos e]at h;exact absurd h (by decide)
  . rw[if_neg e]at h ⊢
    cases hf:Og l ((row.drop p).take n)with
    |some q=>
     simp only
     refine⟨hn,by omega, ?_⟩;have:=List.mem_of_find?_eq_some hf
     simpa using this
    |none=>
     rw[hf]at h;simp only at h ⊢
     exact Zt f (n+1) (by omega) h
theorem Bt {l:List Int}{row:List Bool}{k:Nat}{u v:US}(h:uplace l row u=(k,v))(hv:v.e=0):u.p+1<=v.p/\v.p<=row.length/\v.out=u.out/\v.ks=u.ks/\u.e=0/\k<l.length:=by
 have hu:u.e=0:=V0 (by rw[h];exact hv);unfold uplace at h;rw[if_pos hu]at h;have h1:=(XA h).2;have h2:=(XA h).1;subst h1;have:=Zt (l:=l) (row:=row) (p:=u.p) 15 1 (VC _) hv
 refine⟨?_, ?_,rfl,rfl,hu, ?_⟩
 . show u.p+1<=u.p+(Na l row u.p).2.1
   have h3:=this.1;unfold Na;omega
 . show u.p+(Na l row u.p).2.1<=row.length
   exact this.2.1
 . rw[<-h2];exact this.2.2
theorem He {d:Nat}:∀ {n:Nat} {u:US},(ucopy d n u).e=0->u.e=0
 |0,u,h=>h
 |n+1,u,h=>by
  rw[ucopy]at h
  by_cases e:u.e=0
  . exact e
  . rw[if_neg e]at h;exact h
theorem J9 {d:Nat}:∀ {n:Nat} {u:US},(ucopy d n u).e=0->(ucopy d n u).p=u.p/\(ucopy d n u).ks=u.ks/\(u.out.length<=3000->(ucopy d n u).out.length<=3000)
 |0,u,h=>⟨rfl,rfl,fun h=>h⟩
 |n+1,u,h=>by
  have e:=He h;rw[ucopy,if_pos e]at h ⊢;obtain⟨h1,h2,h3⟩:=Nq (He h);have ih:=J9 h;rw[h3]at ih ⊢;refine⟨ih.1,ih.2.1,fun ho=>ih.2.2 ?_⟩;simp only[VB,VJ,WO];omega
inductive Tok1 (row:List Bool)(a b:List Int)(u:US):Bool->US->Prop
 |stop (v:US):uplace a row u=(256,v)->v.e=0->Tok1 row a b u false v
 |byte (c:Nat) (x:US):uplace a row u=(c,x)->x.e=0->c<256->x.out.length≠3000->Tok1 row a b u true {x with out:=x.out++ [c]}
 |same (k n0 f d0:Nat) (x1 x2 x3 x4 v:US):uplace a row u=(k,x1)->x1.e=0->257<=k->k<=285->uget row (samesL.getD (k-257) (0,0)).2 x1=(n0,x2)->x2.e=0->uplace b row x2=(f,x3)->x3.e=0->f<=29->
  uget row (farsL.getD f (0,0)).2 x3=(d0,x4)->x4.e=0->(farsL.getD f (0,0)).1+d0<=x4.out.length->ucopy ((farsL.getD f (0,0)).1+d0) ((samesL.getD (k-257) (0,0)).1+n0) x4=v->v.e=0->Tok1 row a b u true v
theorem BM {row:List Bool}{a b:List Int}{u:US}(h:(Ih row a b u).2.e=0):Tok1 row a b u (Ih row a b u).1 (Ih row a b u).2:=by
 obtain⟨k,x1,e1⟩:∃k x1,uplace a row u=(k,x1):=⟨_,_,rfl⟩
 unfold Ih at h ⊢;simp only[e1]at h ⊢
 by_cases c1:x1.e≠0\/k=256
 . rw[if_pos c1]at h ⊢;simp only at h ⊢
   rcases c1 with c1|c1
   . exact absurd h c1
   . subst c1;exact .stop x1 e1 h
 . rw[if_neg c1]at h ⊢
   have hx1:x1.e=0:=by
    by_cases e:x1.e=0
    . exact e
    . exact absurd (.inl e) c1
   have hk:k≠256:=fun e=>c1 (.inr e)
   by_cases c2:k<256
   . rw[if_pos c2]at h ⊢;simp only at h ⊢
     obtain⟨_,h2,h3⟩:=Nq h;rw[h3];exact .byte k x1 e1 hx1 c2 h2
   . rw[if_neg c2]at h ⊢
     by_cases c3:285<k
     . rw[if_pos c3]at h;exact absurd h (Cs (by decide))
     . rw[if_neg c3]at h ⊢;unfold OJ at h ⊢;obtain⟨n0,x2,e2⟩:∃n0 x2,uget row (samesL.getD (k-257) (0,0)).2 x1=(n0,x2):=⟨_,_,rfl⟩
       obtain⟨f,x3,e3⟩:∃f x3,uplace b row x2=(f,x3):=⟨_,_,rfl⟩
       simp only[e2,e3]at h ⊢
       by_cases c4:x3.e=0/\29<f
       . rw[if_pos c4]at h;rw[if_pos (Cs (by decide))]at h;exact absurd h (Cs (by decide))
       . rw[if_neg c4]at h ⊢
         by_cases c5:x3.e≠0
         . rw[if_pos c5]at h;exact absurd h c5
         . rw[if_neg c5]at h ⊢;have hx3:x3.e=0:=by omega
           simp only at h ⊢
           unfold Z4b at h ⊢;obtain⟨d0,x4,e4⟩:∃d0 x4,uget row (farsL.getD f (0,0)).2 x3=(d0,x4):=⟨_,_,rfl⟩
           simp only[e4]at h ⊢;have hx:=He h
           by_cases c6:x4.e=0/\x4.out.length<(farsL.getD f (0,0)).1+d0
           . rw[if_pos c6]at hx;exact absurd hx (Cs (by decide))
           . rw[if_neg c6]at h hx ⊢;have hx2:x2.e=0:=V0 (by rw[e3];exact hx3);exact .same k n0 f d0 x1 x2 x3 x4 _ e1 hx1 (by omega) (by omega) e2 hx2 e3 hx3 (by omega) e4 hx (by omega) rfl h
theorem Tok1.ahead {row:List Bool}{a b:List Int}{u v:US}{t:Bool}(h:Tok1 row a b u t v):u.p+1<=v.p/\v.p<=row.length/\v.e=0/\v.ks=u.ks/\(u.out.length<=3000->v.out.length<=3000):=by
 cases h with
 |stop _ h1 h2=>
  have:=Bt h1 h2
  exact⟨this.1,this.2.1,h2,this.2.2.2.1,fun h=>by rw[this.2.2.1];exact h⟩
 |byte c x h1 h2 h3 h4=>
  have:=Bt h1 h2
  refine⟨this.1,this.2.1,h2,this.2.2.2.1,fun h=> ?_⟩;rw[this.2.2.1]at h4 ⊢;simp only[VB,VJ,WO];omega
 |same k n0 f d0 x1 x2 x3 x4 _ h1 h2 h3 h4 h5 h6 h7 h8 h9 h10 h11 h12 h13 h14=>
  have p1:=Bt h1 h2;have p2:=Ax h5 h6;have p3:=Bt h7 h8;have p4:=Ax h10 h11;have p5:=J9 (by rw[h13];exact h14:(ucopy ((farsL.getD f (0,0)).1+d0) ((samesL.getD (k-257) (0,0)).1+n0) x4).e=0);rw[h13]at p5;refine⟨by omega,by omega,h14, ?_,fun h=>p5.2.2 ?_⟩
  . rw[p5.2.1,p4.2.2.2.1,p3.2.2.2.1,p2.2.2.2.1,p1.2.2.2.1]
  . rw[p4.2.2.1,p3.2.2.1,p2.2.2.1,p1.2.2.1];exact h
theorem T9 {row:List Bool}{a b:List Int}:∀ {F:Nat} {u:US},(utok row a b F u).e=0->u.e=0
 |0,u,h=>h
 |F+1,u,h=>by
  rw[utok]at h
  by_cases e:u.e=0
  . exact e
  . rw[if_neg e]at h;exact h
theorem Ji {row:List Bool}{a b:List Int}{F:Nat}{u:US}(h:(utok row a b (F+1) u).e=0):∃t x,Tok1 row a b u t x/\utok row a b (F+1) u=if t=true then utok row a b F x else x:=by
 have hu:=T9 h;rw[utok,if_pos hu]at h ⊢;obtain⟨t,x,e⟩:∃t x,Ih row a b u=(t,x):=⟨_,_,rfl⟩
 have hg:=BM (row:=row) (a:=a) (b:=b) (u:=u);rw[e]at h hg ⊢;simp only at h hg ⊢
 refine⟨t,x,hg ?_,rfl⟩
 by_cases ht:t=true
 . rw[if_pos ht]at h;exact T9 h
 . rw[if_neg ht]at h;exact h
inductive Blk1R (row:List Bool)(u:US):Bool->US->Prop
 |stored (l:Nat) (x1 x2:US):uget row 1 u=(l,x1)->uget row 2 x1=(0,x2)->x2.e=0->(ustored row x2).e=0->Blk1R row u (decide (l=1)) (ukept 0 (ustored row x2))
 |coded (l k:Nat) (x1 x2 x3:US) (a b:List Int):uget row 1 u=(l,x1)->uget row 2 x1=(k,x2)->x2.e=0->(k=1\/k=2)->uopen row k x2=((a,b),x3)->x3.e=0->(utok row a b row.length x3).e=0->Blk1R row u (decide (l=1)) (ukept k (utok row a b row.length x3))
theorem K0 {row:List Bool}{u:US}(h:(Dx row u).2.e=0):Blk1R row u (Dx row u).1 (Dx row u).2:=by
 obtain⟨l,x1,e1⟩:∃l x1,uget row 1 u=(l,x1):=⟨_,_,rfl⟩
 obtain⟨k,x2,e2⟩:∃k x2,uget row 2 x1=(k,x2):=⟨_,_,rfl⟩
 unfold Dx at h ⊢;simp only[e1,e2]at h ⊢
 by_cases c1:x2.e≠0
 . rw[if_pos c1]at h;exact absurd h c1
 . rw[if_neg c1]at h ⊢;have hx2:x2.e=0:=by omega
   by_cases c2:k=0
   . subst c2;rw[if_pos rfl]at h ⊢;exact .stored l x1 x2 e1 e2 hx2 h
   . rw[if_neg c2]at h ⊢;obtain⟨a,b,x3,e3⟩:∃a b x3,uopen row k x2=((a,b),x3):=⟨_,_,_,rfl⟩
     rw[e3]at h ⊢;simp only at h ⊢
     by_cases c3:x3.e≠0
     . rw[if_pos c3]at h;exact absurd h c3
     . rw[if_neg c3]at h ⊢;have hx3:x3.e=0:=by omega
       have hk:k=1\/k=2:=by
        by_cases d1:k=1
        . exact .inl d1
        . by_cases d2:k=2
          . exact .inr d2
          . unfold uopen at e3;rw[if_neg d1,if_neg d2]at e3;have:=(XA e3).2
            rw[<-this]at hx3;exact absurd hx3 (Cs (by decide))
       exact .coded l k x1 x2 x3 a b e1 e2 hx2 hk e3 hx3 h
end Go.Proofs.YtleocpdblhbimaaGreatDoor
