import Derived.Test.YtieianhejdcgdaaGreatDoorQ1
namespace Go.Proofs.YtieianhejdcgdaaGreatDoor
set_option linter.unusedVariables false
def Wt (n:Int):Bool:=decide (0<=n/\n<=15)
theorem Hc {n:Int}(h:Wt n=true):0<=n/\n<=15:=of_decide_eq_true h
theorem Kf {n:Int}(h:Wt n=false):¬(0<=n/\n<=15):=of_decide_eq_false h
theorem Jr (l:List Int){k n:Nat}(hk:k<l.length)(hx:l.getD k 0=(n:Int)):upd (cnt (l.take k)) n (cnt (l.take k) n+1)=cnt (l.take (k+1)):=by
 funext m
 have e:l[k]=(n:Int):=by simpa[List.getD,hk]using hx
 simp only[upd,cnt];rw[WU hk,List.count_append,e]
 by_cases h:m=n
 . subst h;simp
 . have:((n:Int)==(m:Int))=false:=by rw[beq_eq_false_iff_ne];omega
   simp[h,List.count_cons,this]
def errL (l:List Int):Int:=if 288<l.length then 2 else if ∃j,j<l.length/\Wt (l.getD j 0)=false then 3 else if 32768<takenN (cnt l) 15 then 8 else 0
def OU (l:List Int):Nat->Nat:=if errL l=0 then cnt l else fun _=>0
structure Good (l:List Int):Prop where
 len:l.length<=288
 ok:∀j,j<l.length->0<=l.getD j 0/\l.getD j 0<=15
 room:takenN (cnt l) 15<=32768
theorem Ci {l:List Int}(h:errL l=0):Good l:=by
 unfold errL at h
 split at h
 . cases h
 . split at h
   . cases h
   . split at h
     . cases h
     . rename_i h1 h2 h3
       refine⟨by omega,fun j hj=> ?_,by omega⟩
       cases e:Wt (l.getD j 0)with
       |true=>exact Hc e
       |false=>exact absurd ⟨j,hj,e⟩ h2
theorem Ix {l:List Int}(h:Good l):errL l=0:=by
 unfold errL;rw[if_neg (by have:=h.len;omega),if_neg,if_neg (by have:=h.room;omega)];rintro ⟨j,hj,e⟩;exact Kf e (h.ok j hj)
def codeN (l:List Int)(i:Nat):Nat:=if (l.getD i 0).toNat=0 then 0 else Bb (cnt l) (l.getD i 0).toNat+cnt (l.take i) (l.getD i 0).toNat
def Se (l:List Int):Nat->List Nat
 |0=>List.replicate l.length 0
 |k+1=>(Se l k).set k (codeN l k)
theorem Dr (l:List Int):∀k,(Se l k).length=l.length
 |0=>by simp[Se]
 |k+1=>by rw[Se,YA,Dr l k]
theorem Xt (l:List Int){j:Nat}(hj:j<l.length):∀k,(Se l k).getD j 0=if j<k then codeN l j else 0
 |0=>by simp[Se,List.getD,hj]
 |k+1=>by
  have ih:=Xt l hj k;simp only[Se,XA,ZH,Dr]at ih ⊢
  by_cases e:k=j
  . subst e;simp[hj]
  . rw[if_neg e,ih]
    by_cases h:j<k
    . have:j<k+1:=by omega
      simp[h,this]
    . have:¬j<k+1:=by omega
      simp[h,this]
theorem OS (l:List Int)(k:Nat)(h:codeN l k=0):Se l (k+1)=Se l k:=by
 rw[Se,h]
 by_cases hk:k<l.length
 . have e:=Xt l hk k;rw[if_neg (by omega)]at e;have hk2:k<(Se l k).length:=by rw[Dr];exact hk
   have e2:(Se l k)[k]=0:=by simpa[List.getD,hk2]using e
   apply List.ext_getElem?
   intro i;rw[ZH]
   by_cases hi:k=i
   . subst hi;simp[hk2,e2]
   . simp[hi]
 . rw[List.set_eq_of_length_le (by rw[Dr];omega)]
def nxt (l:List Int)(k:Nat):Nat->Nat:=fun n=>if n=0 then 0 else Bb (cnt l) n+cnt (l.take k) n
theorem SI (l:List Int)(n:Nat):nxt l 0 n=Bb (cnt l) n:=by
 unfold nxt
 by_cases e:n=0
 . subst e;rfl
 . simp[e,cnt]
theorem SJ (l:List Int){k n:Nat}(hk:k<l.length)(hx:l.getD k 0=(n:Int))(hn:0<n):upd (nxt l k) n (nxt l k n+1)=nxt l (k+1):=by
 have h:=Jr l hk hx
 funext m
 have hm:=congrFun h m;simp only[upd,nxt]at hm ⊢
 by_cases e:m=n
 . subst e;have:¬m=0:=by omega
   simp[this]at hm ⊢;omega
 . simp[e]at hm ⊢
   rw[hm]
theorem SL (l:List Int){k:Nat}(hk:k<l.length)(hx:l.getD k 0=((0:Nat):Int)):nxt l k=nxt l (k+1):=by
 have h:=Jr l hk hx
 funext m
 have hm:=congrFun h m;simp only[upd,nxt]at hm ⊢
 by_cases e:m=0
 . simp[e]
 . simp[e]at hm ⊢
   rw[hm]
theorem Mf (l:List Int){k n:Nat}(hx:l.getD k 0=(n:Int)):codeN l k=nxt l k n:=by
 unfold codeN nxt;rw[hx,WL]
theorem OT {l:List Int}(h:Good l):OU l=cnt l:=by unfold OU;rw[Ix h];rfl
theorem V8 (l:List Int){k n:Nat}(hk:k<l.length)(hx:l.getD k 0=(n:Int)):cnt (l.take k) n<cnt l n:=by
 have h:=congrFun (Jr l hk hx) n;simp only[upd,if_pos]at h
 have h2:cnt (l.take (k+1)) n<=cnt l n:=by
  unfold cnt;exact List.Sublist.count_le _ (List.take_sublist _ _)
 omega
theorem Jc (l:List Int)(h:Good l){k n:Nat}(hk:k<l.length)(hx:l.getD k 0=(n:Int))(hn:0<n):Bb (cnt l) n<=codeN l k/\codeN l k<Bb (cnt l) n+cnt l n/\codeN l k<2^n:=by
 have h1:=Mf l hx;have h2:=V8 l hk hx;have h3:n<=15:=by have:=(h.ok k hk).2;omega
 have h4:=FI (cnt l) h.room (n:=n) (by omega) h3;unfold nxt at h1;rw[if_neg (by omega)]at h1;omega
def RV (l:List Int)(m:Nat):Nat->List Nat
 |0=> []
 |k+1=>RV l m k++(if l.getD k 0=(m:Int)then [k]else [])
theorem Qs (l:List Int)(m:Nat):∀k,k<=l.length->(RV l m k).length=cnt (l.take k) m
 |0,_=>by simp[RV,cnt]
 |k+1,hk=>by
  have ih:=Qs l m k (by omega);have hk':k<l.length:=by omega
  rw[RV,VB,ih,cnt,cnt,WU hk',List.count_append];have e:l.getD k 0=l[k]:=by simp[List.getD,hk']
  rw[e]
  by_cases h:l[k]=(m:Int)
  . simp[h]
  . simp[h]
theorem AH (l:List Int)(m:Nat):∀k d,∃r,RV l m (k+d)=RV l m k++r
 |k,0=>⟨[],by simp⟩
 |k,d+1=>by
  obtain⟨r,hr⟩:=AH l m k d;refine⟨r++(if l.getD (k+d) 0=(m:Int)then [k+d]else []), ?_⟩;rw[<-WJ,RV,hr,VJ]
theorem KS (l:List Int){m p:Nat}(hp:p<l.length)(hx:l.getD p 0=(m:Int)):(RV l m l.length)[cnt (l.take p) m]? =some p:=by
 obtain⟨r,hr⟩:=AH l m (p+1) (l.length-(p+1));rw[show p+1+(l.length-(p+1))=l.length by omega]at hr;rw[hr,RV,if_pos hx];have h:=Qs l m p (by omega);rw[VJ,VY (by omega),h];simp
theorem Qr (l:List Int)(hG:Good l){i k m n:Nat}(hi:i<l.length)(hk:k<l.length)(hm:l.getD i 0=(m:Int))(hn:l.getD k 0=(n:Int))(hik:i≠k)(h0:0<m)(hmn:m<=n):codeN l k/2^(n-m)≠codeN l i:=by
 obtain⟨a1,a2,a3⟩:=Jc l hG hi hm h0;obtain⟨b1,b2,b3⟩:=Jc l hG hk hn (by omega)
 by_cases e:m=n
 . subst e;rw[XK,Nat.pow_zero,Nat.div_one];intro h;have e1:=KS l hi hm;have e2:=KS l hk hn;have d1:=Mf l hm;have d2:=Mf l hn;unfold nxt at d1 d2;rw[if_neg (by omega)]at d1 d2;have:cnt (l.take i) m=cnt (l.take k) m:=by omega
   rw[this,e2]at e1;exact hik (VN e1).symm
 . have hf:=G0 (cnt l) m (by omega) (n-m) (by omega);rw[show m+(n-m)=n by omega]at hf;have h4:Bb (cnt l) m+cnt l m<=codeN l k/2^(n-m):=(Nat.le_div_iff_mul_le (Nat.pow_pos (by decide))).2 (by omega);omega
end Go.Proofs.YtieianhejdcgdaaGreatDoor
namespace Go.Proofs.YtieianhejdcgdaaGreatDoor
open Go.RowKit
set_option linter.unusedVariables false
def hb (c:Nat):Nat->List Bool
 |0=> []
 |n+1=>hb (c/2) n++ [decide (c%2=1)]
theorem Bi:∀n c,(hb c n).length=n
 |0,_=>rfl
 |n+1,c=>by simp[hb,Bi n]
theorem Z3e:∀n,hb 0 n=List.replicate n false
 |0=>rfl
 |n+1=>by rw[hb,Nat.zero_div,Z3e n,List.replicate_succ'];rfl
instance (x y:Int×Int):Decidable (Stab.lx x y):=by unfold Stab.lx;infer_instance
theorem Zf (c:Nat->Nat)(m:Nat)(hm:1<=m)(h15:m<=15):∀j,j<=15->takenN (upd c m (c m+1)) j=takenN c j+(if m<=j then 2^(15-m)else 0)
 |0,_=>by simp[takenN];omega
 |j+1,h=>by
  have ih:=Zf c m hm h15 j (by omega);rw[takenN,takenN,ih]
  by_cases e:j+1=m
  . subst e;have h1:¬(j+1<=j):=by omega
    have h2:15-(j+1)=14-j:=by omega
    simp only[upd,if_pos,h1,if_false,VC,h2,Nat.add_mul,Nat.one_mul];omega
  . simp only[upd,if_neg e]
    by_cases h1:m<=j
    . have h2:m<=j+1:=by omega
      simp[h1,h2];omega
    . have h2:¬m<=j+1:=by omega
      simp[h1,h2]
theorem Ty (c:Nat->Nat)(x:Nat):∀j,takenN (upd c 0 x) j=takenN c j
 |0=>rfl
 |j+1=>by rw[takenN,takenN,Ty c x j];simp[upd]
def An (l:List Int)(q:Nat):List Bool:=hb (codeN l q) (l.getD q 0).toNat
end Go.Proofs.YtieianhejdcgdaaGreatDoor
namespace Go.Proofs.YtieianhejdcgdaaGreatDoor
open Go.RowKit
set_option linter.unusedVariables false
set_option maxRecDepth 100000
def Ah (n:Nat):Nat->List Bool
 |0=> []
 |k+1=>Ah n k++ [n.testBit k]
theorem Ae (n:Nat):∀k,(Ah n k).length=k
 |0=>rfl
 |k+1=>by rw[Ah,VB,Ae n k];rfl
theorem PM (n k:Nat):n/2^k%2=if n.testBit k then 1 else 0:=by
 have h:=Nat.testBit_eq_decide_div_mod_eq (x:=n) (i:=k);rw[h]
 rcases WZ (n/2^k)with e|e<;>simp[e]
theorem Gm (n:Nat):∀s i,(Ah n s).getD i false=(decide (i<s)&&n.testBit i)
 |0,i=>by simp[Ah]
 |s+1,i=>by
  rw[Ah,XA]
  by_cases h:i<s
  . rw[WE (by rw[Ae];exact h),<-XA,Gm n s i];simp[h,Nat.lt_succ_of_lt h]
  . rw[VY (by rw[Ae];omega),Ae]
    by_cases e:i=s
    . subst e;simp
    . have h1:¬i<s+1:=by omega
      have h2: [n.testBit s][i-s]? =none:=WA (by simp;omega);rw[h2];simp[h1]
def Dh:List Bool->Nat
 | []=>0
 |b::r=>(if b then 1 else 0)+2*Dh r
theorem Lk:∀l,Dh l<2^l.length
 | []=>by simp[Dh]
 |b::r=>by
  have:=Lk r
  rw[Dh,VH,XE]
  split<;>omega
def rowB (xs:List Nat):Nat->List Bool
 |0=> []
 |q+1=>rowB xs q++Ah (xs.getD q 0) 8
theorem Ag (xs:List Nat):∀q,(rowB xs q).length=8*q
 |0=>rfl
 |q+1=>by rw[rowB,VB,Ag xs q,Ae];omega
theorem Fy (xs:List Nat):∀q i,i<8*q->(rowB xs q).getD i false=Jy xs i
 |0,i,h=>by omega
 |q+1,i,h=>by
  rw[rowB,XA]
  by_cases e:i<8*q
  . rw[WE (by rw[Ag];exact e),<-XA,Fy xs q i e]
  . rw[VY (by rw[Ag];omega),Ag,<-XA,Gm,Jy];have e1:i/8=q:=by omega
    have e2:i%8=i-8*q:=by omega
    rw[e1,e2,decide_eq_true (by omega),ZK]
end Go.Proofs.YtieianhejdcgdaaGreatDoor
namespace Go.Proofs.YtieianhejdcgdaaGreatDoor
set_option linter.unusedVariables false
structure US where
 p:Nat
 out:List Nat
 ks:List Nat
 e:Int
def uget (row:List Bool)(n:Nat)(u:US):Nat×US:=
 if u.e=0 then (if row.length<u.p+n then (0,{u with e:=7})else (Dh ((row.drop u.p).take n),{u with p:=u.p+n}))else (0,u)
def Ay (x:Int)(u:US):US:=if u.e=0 then {u with e:=x}else u
def Jt (c:Nat)(u:US):US:=if u.e=0 then (if u.out.length=3000 then {u with e:=2}else {u with out:=u.out++ [c]})else u
def Rs (l:List Int)(s:List Bool):Option Nat:=(List.range l.length).find? (fun q=>decide (An l q=s))
def Fe (l:List Int)(row:List Bool)(p:Nat):Nat->Nat->Nat×Nat×Int
 |0,_=>(0,0,8)
 |f+1,n=>if row.length<p+n then (0,0,7)else match Rs l ((row.drop p).take n)with
  |some q=>(q,n,0)
  |none=>Fe l row p f (n+1)
def Qw (l:List Int)(row:List Bool)(p:Nat):Nat×Nat×Int:=Fe l row p 15 1
def uplace (l:List Int)(row:List Bool)(u:US):Nat×US:=
 if u.e=0 then ((Qw l row u.p).1,{u with e:=(Qw l row u.p).2.2,p:=u.p+(Qw l row u.p).2.1})else (0,u)
def ord19:List Nat:= [16,17,18,0,8,7,9,6,10,5,11,4,12,3,13,2,14,1,15]
def usmall (row:List Bool):List Nat->List Int->US->List Int×US
 | [],s,u=>(s,u)
 |k::r,s,u=>usmall row r (s.set k ((uget row 3 u).1:Int)) (uget row 3 u).2
def ukind (row:List Bool)(l:List Int)(k:Nat)(u:US):Int×Nat×US:=
 if k=16 then (if l.length=0 then (16,1,Ay 8 u)else (l.getD (l.length-1) 0,3+(uget row 2 u).1,(uget row 2 u).2))
 else if k=17 then (0,3+(uget row 3 u).1,(uget row 3 u).2)
 else if k=18 then (0,11+(uget row 7 u).1,(uget row 7 u).2)
 else ((k:Int),1,u)
def Sr (tot:Nat)(l:List Int)(r:Int×Nat×US):List Int×US:=
 (l++List.replicate r.2.1 r.1,if r.2.2.e=0/\tot<l.length+r.2.1 then Ay 8 r.2.2 else r.2.2)
def ustep (row:List Bool)(small:List Int)(tot:Nat)(l:List Int)(u:US):List Int×US:=Sr tot l (ukind row l (uplace small row u).1 (uplace small row u).2)
def ulens (row:List Bool)(small:List Int)(tot:Nat):Nat->List Int->US->List Int×US
 |0,l,u=>(l,u)
 |f+1,l,u=>if l.length<tot/\u.e=0 then ulens row small tot f (ustep row small tot l u).1 (ustep row small tot l u).2 else (l,u)
def Gj (row:List Bool)(m n c:Nat)(u:US):List Int×US:=
 usmall row (ord19.take c) (List.replicate 19 0) (if 286<m\/30<n then Ay 8 u else u)
def Tq (s:List Int×US):US:=if s.2.e=0/\errL s.1≠0 then Ay 8 s.2 else s.2
def Ig (m:Nat)(r:List Int×US):(List Int×List Int)×US:=
 if r.2.e≠0 then (([],[]),r.2)
 else if r.1.getD 256 0=0\/errL (r.1.take m)≠0\/errL (r.1.drop m)≠0 then (([],[]),Ay 8 r.2)
 else ((r.1.take m,r.1.drop m),r.2)
def Nn (row:List Bool)(m n:Nat)(s:List Int×US):(List Int×List Int)×US:=
 if (Tq s).e≠0 then (([],[]),Tq s)else Ig m (ulens row s.1 (m+n) (m+n) [] (Tq s))
def Db (row:List Bool)(u:US):(List Int×List Int)×US:=
 let r1:=uget row 5 u
 let r2:=uget row 5 r1.2
 let r3:=uget row 4 r2.2
 Nn row (r1.1+257) (r2.1+1) (Gj row (r1.1+257) (r2.1+1) (r3.1+4) r3.2)
def ustore (row:List Bool):Nat->US->US
 |0,u=>u
 |k+1,u=>if u.e=0 then ustore row k (Jt (uget row 8 u).1 (uget row 8 u).2)else u
def ucopy (d:Nat):Nat->US->US
 |0,u=>u
 |j+1,u=>if u.e=0 then ucopy d j (Jt (u.out.getD (u.out.length-d) 0) u)else u
def samesL:List (Nat×Nat):= [(3,0),(4,0),(5,0),(6,0),(7,0),(8,0),(9,0),(10,0),(11,1),(13,1),(15,1),(17,1),(19,2),(23,2),(27,2),(31,2),(35,3),(43,3),(51,3),(59,3),(67,4),(83,4),(99,4),(115,4),(131,5),(163,5),(195,5),(227,5),(258,0)]
def farsL:List (Nat×Nat):= [(1,0),(2,0),(3,0),(4,0),(5,1),(7,1),(9,2),(13,2),(17,3),(25,3),(33,4),(49,4),(65,5),(97,5),(129,6),(193,6),(257,7),(385,7),(513,8),(769,8),(1025,9),(1537,9),(2049,10),(3073,10),(4097,11),(6145,11),(8193,12),(12289,12),(16385,13),(24577,13)]
def Mn:List Int:=List.replicate 144 8++List.replicate 112 9++List.replicate 24 7++List.replicate 8 8
def Ic:List Int:=List.replicate 32 5
def Z6c (row:List Bool)(n f:Nat)(u:US):US:=
 let q:=uget row (farsL.getD f (0,0)).2 u
 let d:=(farsL.getD f (0,0)).1+q.1
 ucopy d n (if q.2.e=0/\q.2.out.length<d then Ay 9 q.2 else q.2)
def Z1n (row:List Bool)(b:List Int)(k:Nat)(u:US):Bool×US:=
 let g:=uget row (samesL.getD (k-257) (0,0)).2 u
 let h:=uplace b row g.2
 let u3:=if h.2.e=0/\29<h.1 then Ay 8 h.2 else h.2
 if u3.e≠0 then (false,u3)else (true,Z6c row ((samesL.getD (k-257) (0,0)).1+g.1) h.1 u3)
def Mq (row:List Bool)(a b:List Int)(u:US):Bool×US:=
 let r:=uplace a row u
 if r.2.e≠0\/r.1=256 then (false,r.2)
 else if r.1<256 then (true,Jt r.1 r.2)
 else if 285<r.1 then (false,Ay 8 r.2)
 else Z1n row b r.1 r.2
def utok (row:List Bool)(a b:List Int):Nat->US->US
 |0,u=>u
 |f+1,u=>if u.e=0 then (if (Mq row a b u).1 then utok row a b f (Mq row a b u).2 else (Mq row a b u).2)else u
def ukept (k:Nat)(u:US):US:= {u with ks:=u.ks++ [k]}
def uopen (row:List Bool)(kind:Nat)(u:US):(List Int×List Int)×US:=
 if kind=1 then ((Mn,Ic),u)else if kind=2 then Db row u else (([],[]),Ay 4 u)
def ustored (row:List Bool)(u:US):US:=
 let n:=uget row 16 {u with p:=(u.p+7)/8*8}
 let t:=uget row 16 n.2
 ustore row n.1 (if t.2.e=0/\n.1+t.1≠65535 then Ay 4 t.2 else t.2)
def Fc (row:List Bool)(u:US):Bool×US:=
 let l:=uget row 1 u
 let k:=uget row 2 l.2
 if k.2.e≠0 then (true,k.2)
 else if k.1=0 then (decide (l.1=1),ukept 0 (ustored row k.2))
 else
  let o:=uopen row k.1 k.2
  if o.2.e≠0 then (true,o.2)else (decide (l.1=1),ukept k.1 (utok row o.1.1 o.1.2 row.length o.2))
def Ei (row:List Bool):Nat->US->US
 |0,u=>u
 |f+1,u=>if (Fc row u).1=false/\(Fc row u).2.e=0 then Ei row f (Fc row u).2 else (Fc row u).2
def Z65 (row:List Bool):US:=Ei row (row.length+1) ⟨0,[],[],0⟩
end Go.Proofs.YtieianhejdcgdaaGreatDoor
namespace Go.Proofs.YtieianhejdcgdaaGreatDoor
set_option linter.unusedVariables false
set_option maxRecDepth 100000
theorem NE:∀n c c',c<2^n->c'<2^n->hb c n=hb c' n->c=c'
 |0,c,c',h,h',_=>by simp at h h';omega
 |n+1,c,c',h,h',e=>by
  rw[XE]at h h';rw[hb,hb]at e;have e1:=List.append_inj e (by rw[Bi,Bi]);have e2:=NE n (c/2) (c'/2) (by omega) (by omega) e1.1;have e3:decide (c%2=1)=decide (c'%2=1):=by simpa using e1.2
  have e4:(c%2=1↔c'%2=1):=by simpa using e3
  omega
theorem K0 (l:List Int)(hG:Good l)(s:List Bool)(hs:s≠ [])(q q':Nat)(hq:q<l.length)(hq':q'<l.length)(e:An l q=s)(e':An l q'=s):q=q':=by
 obtain⟨m,hm⟩:=WD (hG.ok q hq).1;obtain⟨m',hm'⟩:=WD (hG.ok q' hq').1;have hl:=congrArg List.length (e.trans e'.symm)
 have hs0:0<m:=by
  by_cases h:m=0
  . subst h;unfold An at e;rw[hm]at e;exact absurd e.symm hs
  . omega
 have ee:=e.trans e'.symm;unfold An at hl ee;rw[hm,hm',WL,WL]at hl ee;rw[Bi,Bi]at hl;subst hl
 by_cases h:q=q'
 . exact h
 . have c3:=(Jc l hG hq hm hs0).2.2;have c3':=(Jc l hG hq' hm' hs0).2.2;have:=Qr l hG hq hq' hm hm' h hs0 (VC _)
   rw[XK,Nat.pow_zero,Nat.div_one]at this;exact absurd (NE m _ _ c3' c3 ee.symm) this
theorem AX (l:List Int)(row:List Bool)(p:Nat):∀k f,(∀j,1<=j->j<=k->¬row.length<p+j/\Rs l ((row.drop p).take j)=none)->∀n,n+k=k+1->Fe l row p (k+f) n=Fe l row p f (n+k)
 |0,f,_,n,_=>by simp
 |k+1,f,h,n,hn=>by
  have e:=AX l row p k (f+1) (fun j h1 h2=>h j h1 (by omega)) n (by omega);rw[show k+1+f=k+(f+1) by omega,e];obtain rfl:n=1:=by omega
  obtain⟨a1,a2⟩:=h (k+1) (by omega) (VC _);rw[Fe,show 1+k=k+1 by omega,if_neg a1,a2,show 1+(k+1)=k+1+1 by omega]
end Go.Proofs.YtieianhejdcgdaaGreatDoor
namespace Go.Proofs.YtieianhejdcgdaaGreatDoor
set_option linter.unusedVariables false
theorem Nr (a b:List Bool):Dh (a++b)=Dh a+2^a.length*Dh b:=by
 induction a with
 |nil=>simp[Dh]
 |cons x r ih=>
  rw[XJ,Dh,ih,Dh,VH,XE,Nat.mul_add,<-YG,YH 2 (2^r.length),WJ]
theorem Lj (x:Nat):∀n,Dh (Ah x n)=x%2^n
 |0=>by simp[Ah,Dh,Nat.mod_one]
 |n+1=>by
  have h:Ah x (n+1)=Ah x n++ [x.testBit n]:=rfl;rw[h,Nr,Lj x n,Ae,XE,Nat.mod_mul]
  congr 2
  have:=PM x n
  rw[this]
  cases x.testBit n<;>simp[Dh]
theorem Z1t (row:List Bool)(n x:Nat)(u:US)(he:u.e=0)(hle:u.p+n<=row.length)(hx:x<2^n)(h:(row.drop u.p).take n=Ah x n):uget row n u=(x,{u with p:=u.p+n}):=by
 unfold uget;rw[if_pos he,if_neg (by omega),h,Lj,Nat.mod_eq_of_lt hx]
theorem Z3f (c:Nat):∀n j,j<=n->(hb c n).take j=hb (c/2^(n-j)) j:=by
 intro n
 induction n generalizing c with
 |zero=>
  intro j hj;obtain rfl:j=0:=by omega
  rfl
 |succ n ih=>
  intro j hj
  by_cases e:j=n+1
  . subst e;rw[XK,Nat.pow_zero,Nat.div_one,VP (by rw[Bi];exact VC _)]
  . rw[hb,WC (by rw[Bi];omega),ih (c/2) j (by omega),YZ,<-Nat.pow_succ',show n+1-j=(n-j)+1 by omega]
theorem GH (l:List Int)(hG:Good l)(q q':Nat)(hq:q<l.length)(hq':q'<l.length)(hpos:An l q≠ [])(h:An l q=(An l q').take (An l q).length):q=q':=by
 obtain⟨m,hm⟩:=WD (hG.ok q hq).1;obtain⟨m',hm'⟩:=WD (hG.ok q' hq').1;have hl:(An l q).length=m:=by unfold An;rw[hm,WL,Bi]
 have hl':(An l q').length=m':=by unfold An;rw[hm',WL,Bi]
 have hm0:0<m:=by
  rw[<-hl];exact YJ.2 hpos
 have hle:m<=m':=by
  have:=congrArg List.length h
  rw[VL,hl,hl']at this;omega
 by_cases e:q=q'
 . exact e
 . exfalso
   have hp:=Qr l hG hq hq' hm hm' e hm0 hle;rw[hl]at h;unfold An at h;rw[hm,hm',WL,WL,Z3f _ _ _ hle]at h;have c3:=(Jc l hG hq hm hm0).2.2;have c3':=(Jc l hG hq' hm' (by omega)).2.2
   have hlt:codeN l q'/2^(m'-m)<2^m:=by
    rw[Nat.div_lt_iff_lt_mul (ZD _),<-Nat.pow_add,show m+(m'-m)=m' by omega];exact c3'
   exact hp (NE m _ _ hlt c3 h.symm)
theorem IM (l:List Int)(hG:Good l)(row:List Bool)(q:Nat)(u:US)(he:u.e=0)(hq:q<l.length)(hpos:An l q≠ [])(hle:u.p+(An l q).length<=row.length)(h:(row.drop u.p).take (An l q).length=An l q):uplace l row u=(q,{u with p:=u.p+(An l q).length}):=by
 obtain⟨m,hm⟩:=WD (hG.ok q hq).1;have hm15:=(hG.ok q hq).2;have hl:(An l q).length=m:=by unfold An;rw[hm,WL,Bi]
 have hm0:0<m:=by
  rw[<-hl];exact YJ.2 hpos
 obtain⟨k,rfl⟩:∃k,m=k+1:=⟨m-1,by omega⟩
 rw[hm]at hm15;rw[hl]at hle h ⊢
 have hfree:∀j,1<=j->j<=k->Rs l ((row.drop u.p).take j)=none:=by
  intro j h1 h2;unfold Rs;rw[List.find?_eq_none];intro q2 hq2;simp only[decide_eq_true_eq];intro e
  have hj:(An l q2).length=j:=by
   rw[e,VL,VO];omega
  have hne:An l q2≠ []:=fun e0=>by rw[e0]at hj;simp at hj;omega
  have:=GH l hG q2 q (by simpa using hq2) hq hne (by
   rw[hj,<-h,List.take_take,show min j (k+1)=j by omega];exact e)
  subst this;omega
 have hfound:Rs l ((row.drop u.p).take (k+1))=some q:=by
  unfold Rs
  cases hf:(List.range l.length).find? (fun q2=>decide (An l q2=(row.drop u.p).take (k+1)))with
  |none=>
   rw[List.find?_eq_none]at hf;exact absurd (by simpa using h.symm) (hf q (by simpa using hq))
  |some y=>
   have hy:=List.find?_some hf;have hy2:=List.mem_of_find?_eq_some hf;simp only[decide_eq_true_eq]at hy;rw[K0 l hG (An l q) hpos y q (by simpa using hy2) hq (hy.trans h) rfl]
 have hn:Qw l row u.p=(q,k+1,0):=by
  unfold Qw;have:=AX l row u.p k (15-k) (fun j h1 h2=>⟨by omega,hfree j h1 h2⟩) 1 (by omega)
  rw[show k+(15-k)=15 by omega]at this;rw[this,show 15-k=(14-k)+1 by omega,Fe,show 1+k=k+1 by omega,if_neg (by omega),hfound]
 unfold uplace;rw[if_pos he,hn];simp[he]
end Go.Proofs.YtieianhejdcgdaaGreatDoor
