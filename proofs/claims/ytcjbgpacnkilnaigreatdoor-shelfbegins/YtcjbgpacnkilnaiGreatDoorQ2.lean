import Derived.Test.YtcjbgpacnkilnaiGreatDoorQ1
namespace Go.Proofs.YtcjbgpacnkilnaiGreatDoor
set_option linter.unusedVariables false
def Ts (n:Int):Bool:=decide (0<=n/\n<=15)
theorem Gf {n:Int}(h:Ts n=true):0<=n/\n<=15:=of_decide_eq_true h
theorem Ix {n:Int}(h:Ts n=false):¬(0<=n/\n<=15):=of_decide_eq_false h
theorem Ij (l:List Int){k n:Nat}(hk:k<l.length)(hx:l.getD k 0=(n:Int)):upd (cnt (l.take k)) n (cnt (l.take k) n+1)=cnt (l.take (k+1)):=by
 funext m
 have e:l[k]=(n:Int):=by simpa[List.getD,hk]using hx
 simp only[upd,cnt];rw[List.take_succ_eq_append_getElem hk,List.count_append,e]
 by_cases h:m=n
 . subst h;simp
 . have:((n:Int)==(m:Int))=false:=by rw[beq_eq_false_iff_ne];omega
   simp[h,List.count_cons,this]
def errL (l:List Int):Int:=if 288<l.length then 2 else if ∃j,j<l.length/\Ts (l.getD j 0)=false then 3 else if 32768<takenN (cnt l) 15 then 8 else 0
def Zao (l:List Int):Nat->Nat:=if errL l=0 then cnt l else fun _=>0
structure Good (l:List Int):Prop where
 len:l.length<=288
 ok:∀j,j<l.length->0<=l.getD j 0/\l.getD j 0<=15
 room:takenN (cnt l) 15<=32768
theorem Cn {l:List Int}(h:errL l=0):Good l:=by
 unfold errL at h
 split at h
 . cases h
 . split at h
   . cases h
   . split at h
     . cases h
     . rename_i h1 h2 h3
       refine⟨by omega,fun j hj=> ?_,by omega⟩
       cases e:Ts (l.getD j 0)with
       |true=>exact Gf e
       |false=>exact absurd ⟨j,hj,e⟩ h2
theorem Yd {l:List Int}(h:Good l):errL l=0:=by
 unfold errL;rw[if_neg (by have:=h.len;omega),if_neg,if_neg (by have:=h.room;omega)];rintro ⟨j,hj,e⟩;exact Ix e (h.ok j hj)
def codeN (l:List Int)(i:Nat):Nat:=if (l.getD i 0).toNat=0 then 0 else Ay (cnt l) (l.getD i 0).toNat+cnt (l.take i) (l.getD i 0).toNat
def Pv (l:List Int):Nat->List Nat
 |0=>List.replicate l.length 0
 |k+1=>(Pv l k).set k (codeN l k)
theorem Dd (l:List Int):∀k,(Pv l k).length=l.length
 |0=>by simp[Pv]
 |k+1=>by rw[Pv,List.length_set,Dd l k]
theorem Ut (l:List Int){j:Nat}(hj:j<l.length):∀k,(Pv l k).getD j 0=if j<k then codeN l j else 0
 |0=>by simp[Pv,List.getD,hj]
 |k+1=>by
  have ih:=Ut l hj k;simp only[Pv,List.getD_eq_getElem?_getD,List.getElem?_set,Dd]at ih ⊢
  by_cases e:k=j
  . subst e;simp[hj]
  . rw[if_neg e,ih]
    by_cases h:j<k
    . have:j<k+1:=by omega
      simp[h,this]
    . have:¬j<k+1:=by omega
      simp[h,this]
theorem Zam (l:List Int)(k:Nat)(h:codeN l k=0):Pv l (k+1)=Pv l k:=by
 rw[Pv,h]
 by_cases hk:k<l.length
 . have e:=Ut l hk k;rw[if_neg (by omega)]at e;have hk2:k<(Pv l k).length:=by rw[Dd];exact hk
   have e2:(Pv l k)[k]=0:=by simpa[List.getD,hk2]using e
   apply List.ext_getElem?
   intro i;rw[List.getElem?_set]
   by_cases hi:k=i
   . subst hi;simp[hk2,e2]
   . simp[hi]
 . rw[List.set_eq_of_length_le (by rw[Dd];omega)]
def nxt (l:List Int)(k:Nat):Nat->Nat:=fun n=>if n=0 then 0 else Ay (cnt l) n+cnt (l.take k) n
theorem Zcy (l:List Int)(n:Nat):nxt l 0 n=Ay (cnt l) n:=by
 unfold nxt
 by_cases e:n=0
 . subst e;rfl
 . simp[e,cnt]
theorem Zcz (l:List Int){k n:Nat}(hk:k<l.length)(hx:l.getD k 0=(n:Int))(hn:0<n):upd (nxt l k) n (nxt l k n+1)=nxt l (k+1):=by
 have h:=Ij l hk hx
 funext m
 have hm:=congrFun h m;simp only[upd,nxt]at hm ⊢
 by_cases e:m=n
 . subst e;have:¬m=0:=by omega
   simp[this]at hm ⊢;omega
 . simp[e]at hm ⊢
   rw[hm]
theorem Zd0 (l:List Int){k:Nat}(hk:k<l.length)(hx:l.getD k 0=((0:Nat):Int)):nxt l k=nxt l (k+1):=by
 have h:=Ij l hk hx
 funext m
 have hm:=congrFun h m;simp only[upd,nxt]at hm ⊢
 by_cases e:m=0
 . simp[e]
 . simp[e]at hm ⊢
   rw[hm]
theorem Kr (l:List Int){k n:Nat}(hx:l.getD k 0=(n:Int)):codeN l k=nxt l k n:=by
 unfold codeN nxt;rw[hx,Int.toNat_natCast]
theorem Zan {l:List Int}(h:Good l):Zao l=cnt l:=by unfold Zao;rw[Yd h];rfl
theorem Z1f (l:List Int){k n:Nat}(hk:k<l.length)(hx:l.getD k 0=(n:Int)):cnt (l.take k) n<cnt l n:=by
 have h:=congrFun (Ij l hk hx) n;simp only[upd,if_pos]at h
 have h2:cnt (l.take (k+1)) n<=cnt l n:=by
  unfold cnt;exact List.Sublist.count_le _ (List.take_sublist _ _)
 omega
theorem Lo (l:List Int)(h:Good l){k n:Nat}(hk:k<l.length)(hx:l.getD k 0=(n:Int))(hn:0<n):Ay (cnt l) n<=codeN l k/\codeN l k<Ay (cnt l) n+cnt l n/\codeN l k<2^n:=by
 have h1:=Kr l hx;have h2:=Z1f l hk hx;have h3:n<=15:=by have:=(h.ok k hk).2;omega
 have h4:=Z5g (cnt l) h.room (n:=n) (by omega) h3;unfold nxt at h1;rw[if_neg (by omega)]at h1;omega
def Zcp (l:List Int)(m:Nat):Nat->List Nat
 |0=> []
 |k+1=>Zcp l m k++(if l.getD k 0=(m:Int)then [k]else [])
theorem Ok (l:List Int)(m:Nat):∀k,k<=l.length->(Zcp l m k).length=cnt (l.take k) m
 |0,_=>by simp[Zcp,cnt]
 |k+1,hk=>by
  have ih:=Ok l m k (by omega);have hk':k<l.length:=by omega
  rw[Zcp,List.length_append,ih,cnt,cnt,List.take_succ_eq_append_getElem hk',List.count_append];have e:l.getD k 0=l[k]:=by simp[List.getD,hk']
  rw[e]
  by_cases h:l[k]=(m:Int)
  . simp[h]
  . simp[h]
theorem Z2l (l:List Int)(m:Nat):∀k d,∃r,Zcp l m (k+d)=Zcp l m k++r
 |k,0=>⟨[],by simp⟩
 |k,d+1=>by
  obtain⟨r,hr⟩:=Z2l l m k d;refine⟨r++(if l.getD (k+d) 0=(m:Int)then [k+d]else []), ?_⟩;rw[<-Nat.add_assoc,Zcp,hr,List.append_assoc]
theorem Z88 (l:List Int){m p:Nat}(hp:p<l.length)(hx:l.getD p 0=(m:Int)):(Zcp l m l.length)[cnt (l.take p) m]? =some p:=by
 obtain⟨r,hr⟩:=Z2l l m (p+1) (l.length-(p+1));rw[show p+1+(l.length-(p+1))=l.length by omega]at hr;rw[hr,Zcp,if_pos hx];have h:=Ok l m p (by omega);rw[List.append_assoc,List.getElem?_append_right (by omega),h];simp
theorem Z0k (l:List Int)(hG:Good l){i k m n:Nat}(hi:i<l.length)(hk:k<l.length)(hm:l.getD i 0=(m:Int))(hn:l.getD k 0=(n:Int))(hik:i≠k)(h0:0<m)(hmn:m<=n):codeN l k/2^(n-m)≠codeN l i:=by
 obtain⟨a1,a2,a3⟩:=Lo l hG hi hm h0;obtain⟨b1,b2,b3⟩:=Lo l hG hk hn (by omega)
 by_cases e:m=n
 . subst e;rw[Nat.sub_self,Nat.pow_zero,Nat.div_one];intro h;have e1:=Z88 l hi hm;have e2:=Z88 l hk hn;have d1:=Kr l hm;have d2:=Kr l hn;unfold nxt at d1 d2;rw[if_neg (by omega)]at d1 d2;have:cnt (l.take i) m=cnt (l.take k) m:=by omega
   rw[this,e2]at e1;exact hik (Option.some.inj e1).symm
 . have hf:=Yk (cnt l) m (by omega) (n-m) (by omega);rw[show m+(n-m)=n by omega]at hf;have h4:Ay (cnt l) m+cnt l m<=codeN l k/2^(n-m):=(Nat.le_div_iff_mul_le (Nat.pow_pos (by decide))).2 (by omega);omega
end Go.Proofs.YtcjbgpacnkilnaiGreatDoor
namespace Go.Proofs.YtcjbgpacnkilnaiGreatDoor
open Go.RowKit
set_option linter.unusedVariables false
def hb (c:Nat):Nat->List Bool
 |0=> []
 |n+1=>hb (c/2) n++ [decide (c%2=1)]
theorem Ci:∀n c,(hb c n).length=n
 |0,_=>rfl
 |n+1,c=>by simp[hb,Ci n]
theorem Zgu:∀n,hb 0 n=List.replicate n false
 |0=>rfl
 |n+1=>by rw[hb,Nat.zero_div,Zgu n,List.replicate_succ'];rfl
instance (x y:Int×Int):Decidable (Stab.lx x y):=by unfold Stab.lx;infer_instance
theorem Vz (c:Nat->Nat)(m:Nat)(hm:1<=m)(h15:m<=15):∀j,j<=15->takenN (upd c m (c m+1)) j=takenN c j+(if m<=j then 2^(15-m)else 0)
 |0,_=>by simp[takenN];omega
 |j+1,h=>by
  have ih:=Vz c m hm h15 j (by omega);rw[takenN,takenN,ih]
  by_cases e:j+1=m
  . subst e;have h1:¬(j+1<=j):=by omega
    have h2:15-(j+1)=14-j:=by omega
    simp only[upd,if_pos,h1,if_false,Nat.le_refl,h2,Nat.add_mul,Nat.one_mul];omega
  . simp only[upd,if_neg e]
    by_cases h1:m<=j
    . have h2:m<=j+1:=by omega
      simp[h1,h2];omega
    . have h2:¬m<=j+1:=by omega
      simp[h1,h2]
theorem Rj (c:Nat->Nat)(x:Nat):∀j,takenN (upd c 0 x) j=takenN c j
 |0=>rfl
 |j+1=>by rw[takenN,takenN,Rj c x j];simp[upd]
def Bj (l:List Int)(q:Nat):List Bool:=hb (codeN l q) (l.getD q 0).toNat
end Go.Proofs.YtcjbgpacnkilnaiGreatDoor
namespace Go.Proofs.YtcjbgpacnkilnaiGreatDoor
open Go.RowKit
set_option linter.unusedVariables false
set_option maxRecDepth 100000
def Ak (n:Nat):Nat->List Bool
 |0=> []
 |k+1=>Ak n k++ [n.testBit k]
theorem Af (n:Nat):∀k,(Ak n k).length=k
 |0=>rfl
 |k+1=>by rw[Ak,List.length_append,Af n k];rfl
theorem Zhh (n k:Nat):n/2^k%2=if n.testBit k then 1 else 0:=by
 have h:=Nat.testBit_eq_decide_div_mod_eq (x:=n) (i:=k);rw[h]
 rcases Nat.mod_two_eq_zero_or_one (n/2^k)with e|e<;>simp[e]
theorem Fk (n:Nat):∀s i,(Ak n s).getD i false=(decide (i<s)&&n.testBit i)
 |0,i=>by simp[Ak]
 |s+1,i=>by
  rw[Ak,List.getD_eq_getElem?_getD]
  by_cases h:i<s
  . rw[List.getElem?_append_left (by rw[Af];exact h),<-List.getD_eq_getElem?_getD,Fk n s i];simp[h,Nat.lt_succ_of_lt h]
  . rw[List.getElem?_append_right (by rw[Af];omega),Af]
    by_cases e:i=s
    . subst e;simp
    . have h1:¬i<s+1:=by omega
      have h2: [n.testBit s][i-s]? =none:=List.getElem?_eq_none (by simp;omega);rw[h2];simp[h1]
def Di:List Bool->Nat
 | []=>0
 |b::r=>(if b then 1 else 0)+2*Di r
theorem Jx:∀l,Di l<2^l.length
 | []=>by simp[Di]
 |b::r=>by
  have:=Jx r
  rw[Di,List.length_cons,Nat.pow_succ]
  split<;>omega
def rowB (xs:List Nat):Nat->List Bool
 |0=> []
 |q+1=>rowB xs q++Ak (xs.getD q 0) 8
theorem Ag (xs:List Nat):∀q,(rowB xs q).length=8*q
 |0=>rfl
 |q+1=>by rw[rowB,List.length_append,Ag xs q,Af];omega
theorem Ex (xs:List Nat):∀q i,i<8*q->(rowB xs q).getD i false=Il xs i
 |0,i,h=>by omega
 |q+1,i,h=>by
  rw[rowB,List.getD_eq_getElem?_getD]
  by_cases e:i<8*q
  . rw[List.getElem?_append_left (by rw[Ag];exact e),<-List.getD_eq_getElem?_getD,Ex xs q i e]
  . rw[List.getElem?_append_right (by rw[Ag];omega),Ag,<-List.getD_eq_getElem?_getD,Fk,Il];have e1:i/8=q:=by omega
    have e2:i%8=i-8*q:=by omega
    rw[e1,e2,decide_eq_true (by omega),Bool.true_and]
end Go.Proofs.YtcjbgpacnkilnaiGreatDoor
namespace Go.Proofs.YtcjbgpacnkilnaiGreatDoor
set_option linter.unusedVariables false
structure US where
 p:Nat
 out:List Nat
 ks:List Nat
 e:Int
def uget (row:List Bool)(n:Nat)(u:US):Nat×US:=
 if u.e=0 then (if row.length<u.p+n then (0,{u with e:=7})else (Di ((row.drop u.p).take n),{u with p:=u.p+n}))else (0,u)
def Be (x:Int)(u:US):US:=if u.e=0 then {u with e:=x}else u
def Qy (c:Nat)(u:US):US:=if u.e=0 then (if u.out.length=3000 then {u with e:=2}else {u with out:=u.out++ [c]})else u
def Z5i (l:List Int)(s:List Bool):Option Nat:=(List.range l.length).find? (fun q=>decide (Bj l q=s))
def Gh (l:List Int)(row:List Bool)(p:Nat):Nat->Nat->Nat×Nat×Int
 |0,_=>(0,0,8)
 |f+1,n=>if row.length<p+n then (0,0,7)else match Z5i l ((row.drop p).take n)with
  |some q=>(q,n,0)
  |none=>Gh l row p f (n+1)
def Tt (l:List Int)(row:List Bool)(p:Nat):Nat×Nat×Int:=Gh l row p 15 1
def uplace (l:List Int)(row:List Bool)(u:US):Nat×US:=
 if u.e=0 then ((Tt l row u.p).1,{u with e:=(Tt l row u.p).2.2,p:=u.p+(Tt l row u.p).2.1})else (0,u)
def ord19:List Nat:= [16,17,18,0,8,7,9,6,10,5,11,4,12,3,13,2,14,1,15]
def usmall (row:List Bool):List Nat->List Int->US->List Int×US
 | [],s,u=>(s,u)
 |k::r,s,u=>usmall row r (s.set k ((uget row 3 u).1:Int)) (uget row 3 u).2
def ukind (row:List Bool)(l:List Int)(k:Nat)(u:US):Int×Nat×US:=
 if k=16 then (if l.length=0 then (16,1,Be 8 u)else (l.getD (l.length-1) 0,3+(uget row 2 u).1,(uget row 2 u).2))
 else if k=17 then (0,3+(uget row 3 u).1,(uget row 3 u).2)
 else if k=18 then (0,11+(uget row 7 u).1,(uget row 7 u).2)
 else ((k:Int),1,u)
def Sy (tot:Nat)(l:List Int)(r:Int×Nat×US):List Int×US:=
 (l++List.replicate r.2.1 r.1,if r.2.2.e=0/\tot<l.length+r.2.1 then Be 8 r.2.2 else r.2.2)
def ustep (row:List Bool)(small:List Int)(tot:Nat)(l:List Int)(u:US):List Int×US:=Sy tot l (ukind row l (uplace small row u).1 (uplace small row u).2)
def ulens (row:List Bool)(small:List Int)(tot:Nat):Nat->List Int->US->List Int×US
 |0,l,u=>(l,u)
 |f+1,l,u=>if l.length<tot/\u.e=0 then ulens row small tot f (ustep row small tot l u).1 (ustep row small tot l u).2 else (l,u)
def Gc (row:List Bool)(m n c:Nat)(u:US):List Int×US:=
 usmall row (ord19.take c) (List.replicate 19 0) (if 286<m\/30<n then Be 8 u else u)
def Ta (s:List Int×US):US:=if s.2.e=0/\errL s.1≠0 then Be 8 s.2 else s.2
def Im (m:Nat)(r:List Int×US):(List Int×List Int)×US:=
 if r.2.e≠0 then (([],[]),r.2)
 else if r.1.getD 256 0=0\/errL (r.1.take m)≠0\/errL (r.1.drop m)≠0 then (([],[]),Be 8 r.2)
 else ((r.1.take m,r.1.drop m),r.2)
def Np (row:List Bool)(m n:Nat)(s:List Int×US):(List Int×List Int)×US:=
 if (Ta s).e≠0 then (([],[]),Ta s)else Im m (ulens row s.1 (m+n) (m+n) [] (Ta s))
def Dh (row:List Bool)(u:US):(List Int×List Int)×US:=
 let r1:=uget row 5 u
 let r2:=uget row 5 r1.2
 let r3:=uget row 4 r2.2
 Np row (r1.1+257) (r2.1+1) (Gc row (r1.1+257) (r2.1+1) (r3.1+4) r3.2)
def Bp (row:List Bool):Nat->US->US
 |0,u=>u
 |k+1,u=>if u.e=0 then Bp row k (Qy (uget row 8 u).1 (uget row 8 u).2)else u
def Hl (d:Nat):Nat->US->US
 |0,u=>u
 |j+1,u=>if u.e=0 then Hl d j (Qy (u.out.getD (u.out.length-d) 0) u)else u
def Z2c:List (Nat×Nat):= [(3,0),(4,0),(5,0),(6,0),(7,0),(8,0),(9,0),(10,0),(11,1),(13,1),(15,1),(17,1),(19,2),(23,2),(27,2),(31,2),(35,3),(43,3),(51,3),(59,3),(67,4),(83,4),(99,4),(115,4),(131,5),(163,5),(195,5),(227,5),(258,0)]
def Zds:List (Nat×Nat):= [(1,0),(2,0),(3,0),(4,0),(5,1),(7,1),(9,2),(13,2),(17,3),(25,3),(33,4),(49,4),(65,5),(97,5),(129,6),(193,6),(257,7),(385,7),(513,8),(769,8),(1025,9),(1537,9),(2049,10),(3073,10),(4097,11),(6145,11),(8193,12),(12289,12),(16385,13),(24577,13)]
def Qr:List Int:=List.replicate 144 8++List.replicate 112 9++List.replicate 24 7++List.replicate 8 8
def Jg:List Int:=List.replicate 32 5
def Vs (k:Nat)(u:US):US:= {u with ks:=u.ks++ [k]}
end Go.Proofs.YtcjbgpacnkilnaiGreatDoor
namespace Go.Proofs.YtcjbgpacnkilnaiGreatDoor
set_option linter.unusedVariables false
set_option maxRecDepth 100000
theorem Zex:∀n c c',c<2^n->c'<2^n->hb c n=hb c' n->c=c'
 |0,c,c',h,h',_=>by simp at h h';omega
 |n+1,c,c',h,h',e=>by
  rw[Nat.pow_succ]at h h';rw[hb,hb]at e;have e1:=List.append_inj e (by rw[Ci,Ci]);have e2:=Zex n (c/2) (c'/2) (by omega) (by omega) e1.1;have e3:decide (c%2=1)=decide (c'%2=1):=by simpa using e1.2
  have e4:(c%2=1↔c'%2=1):=by simpa using e3
  omega
theorem Zal (l:List Int)(hG:Good l)(s:List Bool)(hs:s≠ [])(q q':Nat)(hq:q<l.length)(hq':q'<l.length)(e:Bj l q=s)(e':Bj l q'=s):q=q':=by
 obtain⟨m,hm⟩:=Int.eq_ofNat_of_zero_le (hG.ok q hq).1;obtain⟨m',hm'⟩:=Int.eq_ofNat_of_zero_le (hG.ok q' hq').1;have hl:=congrArg List.length (e.trans e'.symm)
 have hs0:0<m:=by
  by_cases h:m=0
  . subst h;unfold Bj at e;rw[hm]at e;exact absurd e.symm hs
  . omega
 have ee:=e.trans e'.symm;unfold Bj at hl ee;rw[hm,hm',Int.toNat_natCast,Int.toNat_natCast]at hl ee;rw[Ci,Ci]at hl;subst hl
 by_cases h:q=q'
 . exact h
 . have c3:=(Lo l hG hq hm hs0).2.2;have c3':=(Lo l hG hq' hm' hs0).2.2;have:=Z0k l hG hq hq' hm hm' h hs0 (Nat.le_refl _)
   rw[Nat.sub_self,Nat.pow_zero,Nat.div_one]at this;exact absurd (Zex m _ _ c3' c3 ee.symm) this
end Go.Proofs.YtcjbgpacnkilnaiGreatDoor
namespace Go.Proofs.YtcjbgpacnkilnaiGreatDoor
set_option linter.unusedVariables false
theorem Xf (a b:List Bool):Di (a++b)=Di a+2^a.length*Di b:=by
 induction a with
 |nil=>simp[Di]
 |cons x r ih=>
  rw[List.cons_append,Di,ih,Di,List.length_cons,Nat.pow_succ,Nat.mul_add,<-Nat.mul_assoc,Nat.mul_comm 2 (2^r.length),Nat.add_assoc]
end Go.Proofs.YtcjbgpacnkilnaiGreatDoor
