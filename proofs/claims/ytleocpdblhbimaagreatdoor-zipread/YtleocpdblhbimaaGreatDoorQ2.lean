import Derived.Test.YtleocpdblhbimaaGreatDoorQ1
set_option linter.unusedSimpArgs false
namespace Go.Proofs.YtleocpdblhbimaaGreatDoor
open Go.RowKit
set_option linter.unusedVariables false
def hb (c:Nat):Nat->List Bool
 |0=> []
 |n+1=>hb (c/2) n++ [decide (c%2=1)]
theorem Bd:∀n c,(hb c n).length=n
 |0,_=>rfl
 |n+1,c=>by simp[hb,Bd n]
theorem OW:∀n,hb 0 n=List.replicate n false
 |0=>rfl
 |n+1=>by rw[hb,Nat.zero_div,OW n,YY];rfl
theorem Z2u (c n:Nat):∀d,hb (c*2^d) (n+d)=hb c n++List.replicate d false
 |0=>by simp
 |d+1=>by
  have e:c*2^(d+1)=2*(c*2^d):=by rw[XC];rw[<-XY,YF]
  rw[show n+(d+1)=(n+d)+1 by omega,hb,e];have e1:2*(c*2^d)/2=c*2^d:=by omega
  have e2:2*(c*2^d)%2=0:=by omega
  rw[e1,e2,Z2u c n d,YY,VS];rfl
theorem Z2v:∀n c,c+1<2^n->∃a t,hb c n=a++false::List.replicate t true/\hb (c+1) n=a++true::List.replicate t false
 |0,c,h=>by simp at h
 |n+1,c,h=>by
  rw[XC]at h
  by_cases hc:c%2=0
  . refine⟨hb (c/2) n,0, ?_, ?_⟩
    . rw[hb,hc];rfl
    . rw[hb,show (c+1)/2=c/2 by omega,show (c+1)%2=1 by omega];rfl
  . obtain⟨a,t,h1,h2⟩:=Z2v n (c/2) (by omega);refine⟨a,t+1, ?_, ?_⟩
    . rw[hb,h1,show c%2=1 by omega,YY,VS];rfl
    . rw[hb,show (c+1)/2=c/2+1 by omega,h2,show (c+1)%2=0 by omega,YY,VS];rfl
def Bu (l:List Int):Nat->List (Int×Int)
 |0=> []
 |k+1=>Bu l k++(if 0<l.getD k 0 then [(l.getD k 0,(k:Int))]else [])
def wt (x:Int×Int):Nat:=2^(15-x.1.toNat)
instance (x y:Int×Int):Decidable (Stab.lx x y):=by unfold Stab.lx;infer_instance
def Ol (p:Int×Int):List (Int×Int)->Nat
 | []=>0
 |x::r=>(if Stab.lx x p then wt x else 0)+Ol p r
theorem Ep (p:Int×Int):∀xs ys,Ol p (xs++ys)=Ol p xs+Ol p ys
 | [],ys=>by simp[Ol]
 |x::r,ys=>by simp only[XL,Ol,Ep p r ys];omega
theorem RC (p:Int×Int){xs ys:List (Int×Int)}(h:xs.Perm ys):Ol p xs=Ol p ys:=by
 induction h with
 |nil=>rfl
 |cons x _ ih=>simp only[Ol,ih]
 |swap x y l=>simp only[Ol];omega
 |trans _ _ h1 h2=>exact h1.trans h2
theorem Qg (c:Nat->Nat)(m:Nat)(hm:1<=m)(h15:m<=15):∀j,j<=15->takenN (upd c m (c m+1)) j=takenN c j+(if m<=j then 2^(15-m)else 0)
 |0,_=>by simp[takenN];omega
 |j+1,h=>by
  have ih:=Qg c m hm h15 j (by omega);rw[takenN,takenN,ih]
  by_cases e:j+1=m
  . subst e;have h1:¬(j+1<=j):=by omega
    have h2:15-(j+1)=14-j:=by omega
    simp only[upd,if_pos,h1,if_false,VB,h2,ZW,Nat.one_mul];omega
  . simp only[upd,if_neg e]
    by_cases h1:m<=j
    . have h2:m<=j+1:=by omega
      simp[h1,h2];omega
    . have h2:¬m<=j+1:=by omega
      simp[h1,h2]
theorem Nd (c:Nat->Nat)(x:Nat):∀j,takenN (upd c 0 x) j=takenN c j
 |0=>rfl
 |j+1=>by rw[takenN,takenN,Nd c x j];simp[upd]
theorem O3 (l:List Int)(hG:Good l)(n q:Nat)(hn:1<=n)(hn15:n<=15):∀k,k<=l.length->Ol ((n:Int),(q:Int)) (Bu l k)=takenN (cnt (l.take k)) (n-1)+cnt (l.take (min k q)) n*2^(15-n)
 |0,_=>by
  have e:∀j,takenN (cnt []) j=0:=fun j=>by
   induction j with
   |zero=>rfl
   |succ j ih=>rw[takenN,ih];simp[cnt]
  simp[Bu,Ol,e,cnt]
 |k+1,hk=>by
  have ih:=O3 l hG n q hn hn15 k (by omega);have hkl:k<l.length:=by omega
  have hok:=hG.ok k hkl;obtain⟨m,hm⟩:=WF hok.1;have hc:=Ih l hkl hm
  have hcm:cnt (l.take (k+1)) n=cnt (l.take k) n+(if n=m then 1 else 0):=by
   rw[<-hc];simp only[upd]
   by_cases e:n=m
   . subst e;simp
   . simp[e]
  have hmin:cnt (l.take (min (k+1) q)) n=cnt (l.take (min k q)) n+(if k<q/\n=m then 1 else 0):=by
   by_cases hkq:k<q
   . rw[YP (by omega),YP (by omega),hcm];simp[hkq]
   . rw[YG (by omega),YG (by omega)];simp[hkq]
  rw[Bu,Ep,ih,hmin,<-hc,hm];have h15:m<=15:=by rw[hm]at hok;omega
  by_cases h0:m=0
  . subst h0;rw[Nd];have:¬n=0:=by omega
    simp[Ol,this]
  . rw[Qg _ m (by omega) h15 (n-1) (by omega)];have hpos:(0:Int)<(m:Int):=by omega
    rw[if_pos hpos];simp only[Ol,wt,WM,XN];have hlx:Stab.lx ((m:Int),(k:Int)) ((n:Int),(q:Int))↔(m<=n-1\/ (n=m/\k<q)):=by unfold Stab.lx;constructor<;>intro h<;>omega
    by_cases h1:m<=n-1
    . have h2:¬(k<q/\n=m):=by omega
      rw[if_pos (hlx.2 (.inl h1)),if_pos h1,if_neg h2,XN];omega
    . by_cases h2:k<q/\n=m
      . rw[if_pos (hlx.2 (.inr ⟨h2.2,h2.1⟩)),if_neg h1,if_pos h2,ZW,Nat.one_mul,h2.2];omega
      . rw[if_neg (fun h=>by have:=hlx.1 h;omega),if_neg h1,if_neg h2,XN,XN,XN]
theorem RD (l:List Int)(hG:Good l){n q:Nat}(hq:q<l.length)(hx:l.getD q 0=(n:Int))(hn:0<n):Ol ((n:Int),(q:Int)) (Bu l l.length)=codeN l q*2^(15-n):=by
 have hn15:n<=15:=by have:=(hG.ok q hq).2;omega
 rw[O3 l hG n q (by omega) hn15 l.length (VB _),ZK,YG (by omega)];have h:=Kr (cnt l) (n-1) (by omega);have e:=Gh l hx;unfold nxt at e;rw[if_neg (by omega)]at e;rw[e,ZW,<-h,show n-1+1=n by omega,show 14-(n-1)=15-n by omega]
def vsum (d:Nat->Int×Int):Nat->Nat
 |0=>0
 |i+1=>vsum d i+wt (d i)
theorem Z20 (d:Nat->Int×Int)(p:Int×Int):∀a b,Ol p (Stab.seg d a (a+b))=(List.range b).foldl (fun s i=>s+if Stab.lx (d (a+i)) p then wt (d (a+i))else 0) 0
 |a,0=>by simp[Stab.seg,Ol]
 |a,b+1=>by
  rw[Stab.seg_split d a (a+b) (a+(b+1)) (by omega) (by omega),Ep,Z20 d p a b,List.range_succ,List.foldl_append]
  have:Stab.seg d (a+b) (a+(b+1))= [d (a+b)]:=by
   unfold Stab.seg;rw[show a+(b+1)-(a+b)=1 by omega];simp
  rw[this];simp[Ol]
theorem Wa (d:Nat->Int×Int)(p:Int×Int):∀i,(∀j,j<i->Stab.lx (d j) p)->Ol p (Stab.seg d 0 i)=vsum d i
 |0,_=>by simp[Stab.seg,Ol,vsum]
 |i+1,h=>by
  rw[Stab.seg_split d 0 i (i+1) (by omega) (by omega),Ep,Wa d p i (fun j hj=>h j (by omega)),vsum]
  have:Stab.seg d i (i+1)= [d i]:=by
   unfold Stab.seg;rw[show i+1-i=1 by omega];simp
  rw[this];simp[Ol,h i (by omega)]
theorem Wb (d:Nat->Int×Int)(p:Int×Int)(a:Nat):∀b,(∀j,a<=j->j<a+b->¬Stab.lx (d j) p)->Ol p (Stab.seg d a (a+b))=0
 |0,_=>by simp[Stab.seg,Ol]
 |b+1,h=>by
  rw[Stab.seg_split d a (a+b) (a+(b+1)) (by omega) (by omega),Ep,Wb d p a b (fun j h1 h2=>h j h1 (by omega))]
  have:Stab.seg d (a+b) (a+(b+1))= [d (a+b)]:=by
   unfold Stab.seg;rw[show a+(b+1)-(a+b)=1 by omega];simp
  rw[this];simp[Ol,h (a+b) (by omega) (by omega)]
theorem Z6o (x:Int×Int):¬Stab.lx x x:=by unfold Stab.lx;omega
theorem Z12 {x y:Int×Int}(h:Stab.lx x y):¬Stab.lx y x:=by unfold Stab.lx at*;omega
theorem AF (d:Nat->Int×Int)(N:Nat)(hs:Stab.Srt Stab.lx d 0 N){i:Nat}(hi:i<N):Ol (d i) (Stab.seg d 0 N)=vsum d i:=by
 rw[Stab.seg_split d 0 i N (by omega) (by omega),Ep,Wa d (d i) i (fun j hj=>hs j i (VH _) hj hi)]
 have:=Wb d (d i) i (N-i) (fun j h1 h2=>by
  by_cases e:j=i
  . subst e;exact Z6o _
  . exact Z12 (hs i j (VH _) (by omega) (by omega)))
 rw[show i+(N-i)=N by omega]at this;rw[this,XN]
def codeT (l:List Int)(q:Nat):List Bool:=hb (codeN l q) (l.getD q 0).toNat
end Go.Proofs.YtleocpdblhbimaaGreatDoor
namespace Go.Proofs.YtleocpdblhbimaaGreatDoor
open Go.RowKit
set_option linter.unusedVariables false
set_option maxRecDepth 100000
def Al (n:Nat):Nat->List Bool
 |0=> []
 |k+1=>Al n k++ [n.testBit k]
theorem Ah (n:Nat):∀k,(Al n k).length=k
 |0=>rfl
 |k+1=>by rw[Al,VE,Ah n k];rfl
theorem RK (n k:Nat):n/2^k%2=if n.testBit k then 1 else 0:=by
 have h:=Nat.testBit_eq_decide_div_mod_eq (x:=n) (i:=k);rw[h]
 rcases WY (n/2^k)with e|e<;>simp[e]
theorem Jb (n:Nat):∀s i,(Al n s).getD i false=(decide (i<s)&&n.testBit i)
 |0,i=>by simp[Al]
 |s+1,i=>by
  rw[Al,WZ]
  by_cases h:i<s
  . rw[WN (by rw[Ah];exact h),<-WZ,Jb n s i];simp[h,Nat.lt_succ_of_lt h]
  . rw[VX (by rw[Ah];omega),Ah]
    by_cases e:i=s
    . subst e;simp
    . have h1:¬i<s+1:=by omega
      have h2: [n.testBit s][i-s]? =none:=WJ (by simp;omega);rw[h2];simp[h1]
def Eb:List Bool->Nat
 | []=>0
 |b::r=>(if b then 1 else 0)+2*Eb r
theorem Jy:∀l,Eb l<2^l.length
 | []=>by simp[Eb]
 |b::r=>by
  have:=Jy r
  rw[Eb,VJ,XC]
  split<;>omega
theorem FU {l:List Bool}(h:l.length<=16):Eb l<65536:=VG (Jy l) (MI h)
def rowB (xs:List Nat):Nat->List Bool
 |0=> []
 |q+1=>rowB xs q++Al (xs.getD q 0) 8
theorem Af (xs:List Nat):∀q,(rowB xs q).length=8*q
 |0=>rfl
 |q+1=>by rw[rowB,VE,Af xs q,Ah];omega
theorem Hf (xs:List Nat):∀q i,i<8*q->(rowB xs q).getD i false=Iq xs i
 |0,i,h=>by omega
 |q+1,i,h=>by
  rw[rowB,WZ]
  by_cases e:i<8*q
  . rw[WN (by rw[Af];exact e),<-WZ,Hf xs q i e]
  . rw[VX (by rw[Af];omega),Af,<-WZ,Jb,Iq];have e1:i/8=q:=by omega
    have e2:i%8=i-8*q:=by omega
    rw[e1,e2,decide_eq_true (by omega),ZF]
end Go.Proofs.YtleocpdblhbimaaGreatDoor
namespace Go.Proofs.YtleocpdblhbimaaGreatDoor
set_option linter.unusedVariables false
structure US where
 p:Nat
 out:List Nat
 ks:List Nat
 e:Int
def uget (row:List Bool)(n:Nat)(u:US):Nat×US:=
 if u.e=0 then (if row.length<u.p+n then (0,{u with e:=7})else (Eb ((row.drop u.p).take n),{u with p:=u.p+n}))else (0,u)
def Am (x:Int)(u:US):US:=if u.e=0 then {u with e:=x}else u
def Fd (c:Nat)(u:US):US:=if u.e=0 then (if u.out.length=3000 then {u with e:=2}else {u with out:=u.out++ [c]})else u
def Ok (l:List Int)(s:List Bool):Option Nat:=(List.range l.length).find? (fun q=>decide (codeT l q=s))
def Ej (l:List Int)(row:List Bool)(p:Nat):Nat->Nat->Nat×Nat×Int
 |0,_=>(0,0,8)
 |f+1,n=>if row.length<p+n then (0,0,7)else match Ok l ((row.drop p).take n)with
  |some q=>(q,n,0)
  |none=>Ej l row p f (n+1)
def Lt (l:List Int)(row:List Bool)(p:Nat):Nat×Nat×Int:=Ej l row p 15 1
def uplace (l:List Int)(row:List Bool)(u:US):Nat×US:=
 if u.e=0 then ((Lt l row u.p).1,{u with e:=(Lt l row u.p).2.2,p:=u.p+(Lt l row u.p).2.1})else (0,u)
def ord19:List Nat:= [16,17,18,0,8,7,9,6,10,5,11,4,12,3,13,2,14,1,15]
def usmall (row:List Bool):List Nat->List Int->US->List Int×US
 | [],s,u=>(s,u)
 |k::r,s,u=>usmall row r (s.set k ((uget row 3 u).1:Int)) (uget row 3 u).2
def ukind (row:List Bool)(l:List Int)(k:Nat)(u:US):Int×Nat×US:=
 if k=16 then (if l.length=0 then (16,1,Am 8 u)else (l.getD (l.length-1) 0,3+(uget row 2 u).1,(uget row 2 u).2))
 else if k=17 then (0,3+(uget row 3 u).1,(uget row 3 u).2)
 else if k=18 then (0,11+(uget row 7 u).1,(uget row 7 u).2)
 else ((k:Int),1,u)
def Td (tot:Nat)(l:List Int)(r:Int×Nat×US):List Int×US:=
 (l++List.replicate r.2.1 r.1,if r.2.2.e=0/\tot<l.length+r.2.1 then Am 8 r.2.2 else r.2.2)
def ustep (row:List Bool)(small:List Int)(tot:Nat)(l:List Int)(u:US):List Int×US:=Td tot l (ukind row l (uplace small row u).1 (uplace small row u).2)
def ulens (row:List Bool)(small:List Int)(tot:Nat):Nat->List Int->US->List Int×US
 |0,l,u=>(l,u)
 |f+1,l,u=>if l.length<tot/\u.e=0 then ulens row small tot f (ustep row small tot l u).1 (ustep row small tot l u).2 else (l,u)
def Gk (row:List Bool)(m n c:Nat)(u:US):List Int×US:=
 usmall row (ord19.take c) (List.replicate 19 0) (if 286<m\/30<n then Am 8 u else u)
def Qa (s:List Int×US):US:=if s.2.e=0/\errL s.1≠0 then Am 8 s.2 else s.2
def Gl (m:Nat)(r:List Int×US):(List Int×List Int)×US:=
 if r.2.e≠0 then (([],[]),r.2)
 else if r.1.getD 256 0=0\/errL (r.1.take m)≠0\/errL (r.1.drop m)≠0 then (([],[]),Am 8 r.2)
 else ((r.1.take m,r.1.drop m),r.2)
def Ke (row:List Bool)(m n:Nat)(s:List Int×US):(List Int×List Int)×US:=
 if (Qa s).e≠0 then (([],[]),Qa s)else Gl m (ulens row s.1 (m+n) (m+n) [] (Qa s))
def Db (row:List Bool)(u:US):(List Int×List Int)×US:=
 let r1:=uget row 5 u
 let r2:=uget row 5 r1.2
 let r3:=uget row 4 r2.2
 Ke row (r1.1+257) (r2.1+1) (Gk row (r1.1+257) (r2.1+1) (r3.1+4) r3.2)
def ustore (row:List Bool):Nat->US->US
 |0,u=>u
 |k+1,u=>if u.e=0 then ustore row k (Fd (uget row 8 u).1 (uget row 8 u).2)else u
def ucopy (d:Nat):Nat->US->US
 |0,u=>u
 |j+1,u=>if u.e=0 then ucopy d j (Fd (u.out.getD (u.out.length-d) 0) u)else u
def samesL:List (Nat×Nat):= [(3,0),(4,0),(5,0),(6,0),(7,0),(8,0),(9,0),(10,0),(11,1),(13,1),(15,1),(17,1),(19,2),(23,2),(27,2),(31,2),(35,3),(43,3),(51,3),(59,3),(67,4),(83,4),(99,4),(115,4),(131,5),(163,5),(195,5),(227,5),(258,0)]
def farsL:List (Nat×Nat):= [(1,0),(2,0),(3,0),(4,0),(5,1),(7,1),(9,2),(13,2),(17,3),(25,3),(33,4),(49,4),(65,5),(97,5),(129,6),(193,6),(257,7),(385,7),(513,8),(769,8),(1025,9),(1537,9),(2049,10),(3073,10),(4097,11),(6145,11),(8193,12),(12289,12),(16385,13),(24577,13)]
def Ky:List Int:=List.replicate 144 8++List.replicate 112 9++List.replicate 24 7++List.replicate 8 8
def Ir:List Int:=List.replicate 32 5
def Z28 (row:List Bool)(n f:Nat)(u:US):US:=
 let q:=uget row (farsL.getD f (0,0)).2 u
 let d:=(farsL.getD f (0,0)).1+q.1
 ucopy d n (if q.2.e=0/\q.2.out.length<d then Am 9 q.2 else q.2)
def EJ (row:List Bool)(b:List Int)(k:Nat)(u:US):Bool×US:=
 let g:=uget row (samesL.getD (k-257) (0,0)).2 u
 let h:=uplace b row g.2
 let u3:=if h.2.e=0/\29<h.1 then Am 8 h.2 else h.2
 if u3.e≠0 then (false,u3)else (true,Z28 row ((samesL.getD (k-257) (0,0)).1+g.1) h.1 u3)
def Lb (row:List Bool)(a b:List Int)(u:US):Bool×US:=
 let r:=uplace a row u
 if r.2.e≠0\/r.1=256 then (false,r.2)
 else if r.1<256 then (true,Fd r.1 r.2)
 else if 285<r.1 then (false,Am 8 r.2)
 else EJ row b r.1 r.2
def utok (row:List Bool)(a b:List Int):Nat->US->US
 |0,u=>u
 |f+1,u=>if u.e=0 then (if (Lb row a b u).1 then utok row a b f (Lb row a b u).2 else (Lb row a b u).2)else u
def ukept (k:Nat)(u:US):US:= {u with ks:=u.ks++ [k]}
def uopen (row:List Bool)(kind:Nat)(u:US):(List Int×List Int)×US:=
 if kind=1 then ((Ky,Ir),u)else if kind=2 then Db row u else (([],[]),Am 4 u)
def ustored (row:List Bool)(u:US):US:=
 let n:=uget row 16 {u with p:=(u.p+7)/8*8}
 let t:=uget row 16 n.2
 ustore row n.1 (if t.2.e=0/\n.1+t.1≠65535 then Am 4 t.2 else t.2)
def Eh (row:List Bool)(u:US):Bool×US:=
 let l:=uget row 1 u
 let k:=uget row 2 l.2
 if k.2.e≠0 then (true,k.2)
 else if k.1=0 then (decide (l.1=1),ukept 0 (ustored row k.2))
 else
  let o:=uopen row k.1 k.2
  if o.2.e≠0 then (true,o.2)else (decide (l.1=1),ukept k.1 (utok row o.1.1 o.1.2 row.length o.2))
def Dc (row:List Bool):Nat->US->US
 |0,u=>u
 |f+1,u=>if (Eh row u).1=false/\(Eh row u).2.e=0 then Dc row f (Eh row u).2 else (Eh row u).2
def Oh (row:List Bool):US:=Dc row (row.length+1) ⟨0,[],[],0⟩
end Go.Proofs.YtleocpdblhbimaaGreatDoor
namespace Go.Proofs.YtleocpdblhbimaaGreatDoor
set_option linter.unusedVariables false
set_option maxRecDepth 100000
theorem Ug {row:List Bool}{n:Nat}{u:US}(h:(uget row n u).2.e=0):u.e=0:=by
 unfold uget at h
 by_cases e:u.e=0
 . exact e
 . rw[if_neg e]at h;exact h
theorem Bm {x:Int}{u:US}(hx:x≠0):(Am x u).e≠0:=by
 unfold Am
 by_cases e:u.e=0
 . rw[if_pos e];exact hx
 . rw[if_neg e];exact e
theorem BB {l:List Int}{row:List Bool}{u:US}(h:(uplace l row u).2.e=0):u.e=0:=by
 unfold uplace at h
 by_cases e:u.e=0
 . exact e
 . rw[if_neg e]at h;exact h
theorem Ld {row:List Bool}:∀ {ks:List Nat} {s:List Int} {u:US},(usmall row ks s u).2.e=0->u.e=0
 | [],s,u,h=>h
 |k::r,s,u,h=>by
  rw[usmall]at h;exact Ug (Ld h)
theorem Uc {row:List Bool}:∀ {ks:List Nat} {s:List Int} {u:US},(usmall row ks s u).1.length=s.length
 | [],s,u=>rfl
 |k::r,s,u=>by rw[usmall,Uc,XS]
structure Round (row:List Bool)(small:List Int)(tot:Nat)(l:List Int)(u:US):Prop where
 pe:(uplace small row u).2.e=0
 ke:(ukind row l (uplace small row u).1 (uplace small row u).2).2.2.e=0
 le:l.length+(ukind row l (uplace small row u).1 (uplace small row u).2).2.1<=tot
 st:ustep row small tot l u=(l++List.replicate (ukind row l (uplace small row u).1 (uplace small row u).2).2.1 (ukind row l (uplace small row u).1 (uplace small row u).2).1,(ukind row l (uplace small row u).1 (uplace small row u).2).2.2)
theorem Z3a {row:List Bool}{l:List Int}{k:Nat}{u:US}(h:(ukind row l k u).2.2.e=0):u.e=0:=by
 unfold ukind at h
 split at h
 . split at h
   . exact absurd h (Bm (by decide))
   . exact Ug h
 . split at h
   . exact Ug h
   . split at h
     . exact Ug h
     . exact h
theorem Js {row:List Bool}{small:List Int}{tot F:Nat}{l:List Int}{u:US}(h:u.e≠0):ulens row small tot F l u=(l,u):=by
 cases F with
 |zero=>rfl
 |succ F=>rw[ulens,if_neg (fun h2=>h h2.2)]
theorem Kj {row:List Bool}{small:List Int}{tot F:Nat}{l:List Int}{u:US}(hl:l.length<tot)(he:u.e=0)(hF:(ulens row small tot (F+1) l u).2.e=0):Round row small tot l u/\ulens row small tot (F+1) l u=ulens row small tot F (ustep row small tot l u).1 (ustep row small tot l u).2:=by
 have e1:ulens row small tot (F+1) l u=ulens row small tot F (ustep row small tot l u).1 (ustep row small tot l u).2:=by rw[ulens,if_pos ⟨hl,he⟩]
 have e2:(ustep row small tot l u).2.e=0:=by
  by_cases e:(ustep row small tot l u).2.e=0
  . exact e
  . rw[e1,Js e]at hF;exact absurd hF e
 refine⟨?_,e1⟩;unfold ustep Td at e2;simp only at e2
 by_cases hc:(ukind row l (uplace small row u).1 (uplace small row u).2).2.2.e=0/\tot<l.length+(ukind row l (uplace small row u).1 (uplace small row u).2).2.1
 . rw[if_pos hc]at e2;exact absurd e2 (Bm (by decide))
 . rw[if_neg hc]at e2;refine⟨Z3a e2,e2,by omega, ?_⟩;unfold ustep Td;rw[if_neg hc]
theorem Zm {row:List Bool}{small:List Int}{tot:Nat}:∀(F:Nat) (l:List Int) (u:US),tot<=l.length+F->l.length<=tot->u.e=0->(ulens row small tot F l u).2.e=0->(∀l u,Round row small tot l u->1<=(ukind row l (uplace small row u).1 (uplace small row u).2).2.1)->(ulens row small tot F l u).1.length=tot
 |0,l,u,h1,h2,he,hF,hp=>by rw[ulens];simp only;omega
 |F+1,l,u,h1,h2,he,hF,hp=>by
  by_cases hl:l.length<tot
  . obtain⟨r,e⟩:=Kj hl he hF;have h3:=hp l u r;have h4:=r.le;rw[e]at hF ⊢;rw[r.st]at hF ⊢;exact Zm F _ _ (by simp;omega) (by simp;omega) r.ke hF hp
  . rw[ulens,if_neg (fun h=>hl h.1)];simp only
    omega
theorem SD (row:List Bool)(n:Nat)(u:US):(uget row n u).1<2^n:=by
 unfold uget
 split
 . split
   . exact YQ n
   . refine VG (Jy _) (VO (by decide) ?_);rw[VL];exact ZP _ _
 . exact YQ n
theorem Zn (row:List Bool)(l:List Int)(k:Nat)(u:US):1<=(ukind row l k u).2.1/\(ukind row l k u).2.1<=138:=by
 have h2:(uget row 2 u).1<2^2:=SD row 2 u;have h3:(uget row 3 u).1<2^3:=SD row 3 u;have h7:(uget row 7 u).1<2^7:=SD row 7 u;unfold ukind
 split
 . split
   . exact⟨VB _,by simp⟩
   . simp only;omega
 . split
   . simp only;omega
   . split
     . simp only;omega
     . exact⟨VB _,by simp⟩
theorem Ud {c:Nat}{u:US}(h:(Fd c u).e=0):u.e=0/\u.out.length≠3000/\Fd c u= {u with out:=u.out++ [c]}:=by
 unfold Fd at h ⊢
 by_cases e:u.e=0
 . rw[if_pos e]at h ⊢
   by_cases e2:u.out.length=3000
   . rw[if_pos e2]at h;exact absurd (show (2:Int)=0 from h) (by decide)
   . rw[if_neg e2];exact⟨e,e2,rfl⟩
 . rw[if_neg e]at h;exact absurd h e
theorem Bn {row:List Bool}{n r:Nat}{u v:US}(h:uget row n u=(r,v))(hv:v.e=0):v.p=u.p+n/\v.p<=row.length/\v.out=u.out/\v.ks=u.ks/\u.e=0:=by
 have hu:u.e=0:=Ug (by rw[h];exact hv);unfold uget at h;rw[if_pos hu]at h
 by_cases e:row.length<u.p+n
 . rw[if_pos e]at h;have:=(VN h).2
   rw[<-this]at hv;exact absurd (show (7:Int)=0 from hv) (by decide)
 . rw[if_neg e]at h;have:=(VN h).2
   subst this;exact⟨rfl,by show u.p+n<=row.length;omega,rfl,rfl,hu⟩
theorem E6 {l:List Int}{row:List Bool}{p:Nat}:∀(f n:Nat),1<=n->(Ej l row p f n).2.2=0->1<=(Ej l row p f n).2.1/\p+(Ej l row p f n).2.1<=row.length/\(Ej l row p f n).1<l.length
 |0,n,_,h=>by rw[Ej]at h;exact absurd h (by decide)
 |f+1,n,hn,h=>by
  rw[Ej]at h ⊢
  by_cases e:row.length<p+n
  . rw[if_pos e]at h;exact absurd h (by decide)
  . rw[if_neg e]at h ⊢
    cases hf:Ok l ((row.drop p).take n)with
    |some q=>
     simp only
     refine⟨hn,by omega, ?_⟩;have:=List.mem_of_find?_eq_some hf
     simpa using this
    |none=>
     rw[hf]at h;simp only at h ⊢
     exact E6 f (n+1) (by omega) h
theorem Cn {l:List Int}{row:List Bool}{k:Nat}{u v:US}(h:uplace l row u=(k,v))(hv:v.e=0):u.p+1<=v.p/\v.p<=row.length/\v.out=u.out/\v.ks=u.ks/\u.e=0/\k<l.length:=by
 have hu:u.e=0:=BB (by rw[h];exact hv);unfold uplace at h;rw[if_pos hu]at h;have h1:=(VN h).2;have h2:=(VN h).1;subst h1;have:=E6 (l:=l) (row:=row) (p:=u.p) 15 1 (VB _) hv
 refine⟨?_, ?_,rfl,rfl,hu, ?_⟩
 . show u.p+1<=u.p+(Lt l row u.p).2.1
   have h3:=this.1;unfold Lt;omega
 . show u.p+(Lt l row u.p).2.1<=row.length
   exact this.2.1
 . rw[<-h2];exact this.2.2
theorem Pz {d:Nat}:∀ {n:Nat} {u:US},(ucopy d n u).e=0->u.e=0
 |0,u,h=>h
 |n+1,u,h=>by
  rw[ucopy]at h
  by_cases e:u.e=0
  . exact e
  . rw[if_neg e]at h;exact h
theorem R2 {d:Nat}:∀ {n:Nat} {u:US},(ucopy d n u).e=0->(ucopy d n u).p=u.p/\(ucopy d n u).ks=u.ks/\(u.out.length<=3000->(ucopy d n u).out.length<=3000)
 |0,u,h=>⟨rfl,rfl,fun h=>h⟩
 |n+1,u,h=>by
  have e:=Pz h;rw[ucopy,if_pos e]at h ⊢;obtain⟨h1,h2,h3⟩:=Ud (Pz h);have ih:=R2 h;rw[h3]at ih ⊢;refine⟨ih.1,ih.2.1,fun ho=>ih.2.2 ?_⟩;simp only[VE,VJ,WE];omega
inductive Tok1 (row:List Bool)(a b:List Int)(u:US):Bool->US->Prop
 |stop (v:US):uplace a row u=(256,v)->v.e=0->Tok1 row a b u false v
 |byte (c:Nat) (x:US):uplace a row u=(c,x)->x.e=0->c<256->x.out.length≠3000->Tok1 row a b u true {x with out:=x.out++ [c]}
 |same (k n0 f d0:Nat) (x1 x2 x3 x4 v:US):uplace a row u=(k,x1)->x1.e=0->257<=k->k<=285->uget row (samesL.getD (k-257) (0,0)).2 x1=(n0,x2)->x2.e=0->uplace b row x2=(f,x3)->x3.e=0->f<=29->
  uget row (farsL.getD f (0,0)).2 x3=(d0,x4)->x4.e=0->(farsL.getD f (0,0)).1+d0<=x4.out.length->ucopy ((farsL.getD f (0,0)).1+d0) ((samesL.getD (k-257) (0,0)).1+n0) x4=v->v.e=0->Tok1 row a b u true v
theorem EG {row:List Bool}{a b:List Int}{u:US}(h:(Lb row a b u).2.e=0):Tok1 row a b u (Lb row a b u).1 (Lb row a b u).2:=by
 obtain⟨k,x1,e1⟩:∃k x1,uplace a row u=(k,x1):=⟨_,_,rfl⟩
 unfold Lb at h ⊢;simp only[e1]at h ⊢
 by_cases c1:x1.e≠0\/k=256
 . rw[if_pos c1]at h ⊢;simp only at h ⊢
   rcases c1 with c1|c1
   . exact absurd h c1
   . subst c1;exact .stop x1 e1 h
 . rw[if_neg c1]at h ⊢
   have hx1:x1.e=0:=by
    by_cases e:x1.e=0
    . exact e
    . exact absurd (.inl e) c1
   have hk:k≠256:=fun e=>c1 (.inr e)
   by_cases c2:k<256
   . rw[if_pos c2]at h ⊢;simp only at h ⊢
     obtain⟨_,h2,h3⟩:=Ud h;rw[h3];exact .byte k x1 e1 hx1 c2 h2
   . rw[if_neg c2]at h ⊢
     by_cases c3:285<k
     . rw[if_pos c3]at h;exact absurd h (Bm (by decide))
     . rw[if_neg c3]at h ⊢;unfold EJ at h ⊢;obtain⟨n0,x2,e2⟩:∃n0 x2,uget row (samesL.getD (k-257) (0,0)).2 x1=(n0,x2):=⟨_,_,rfl⟩
       obtain⟨f,x3,e3⟩:∃f x3,uplace b row x2=(f,x3):=⟨_,_,rfl⟩
       simp only[e2,e3]at h ⊢
       by_cases c4:x3.e=0/\29<f
       . rw[if_pos c4]at h;rw[if_pos (Bm (by decide))]at h;exact absurd h (Bm (by decide))
       . rw[if_neg c4]at h ⊢
         by_cases c5:x3.e≠0
         . rw[if_pos c5]at h;exact absurd h c5
         . rw[if_neg c5]at h ⊢;have hx3:x3.e=0:=by omega
           simp only at h ⊢
           unfold Z28 at h ⊢;obtain⟨d0,x4,e4⟩:∃d0 x4,uget row (farsL.getD f (0,0)).2 x3=(d0,x4):=⟨_,_,rfl⟩
           simp only[e4]at h ⊢;have hx:=Pz h
           by_cases c6:x4.e=0/\x4.out.length<(farsL.getD f (0,0)).1+d0
           . rw[if_pos c6]at hx;exact absurd hx (Bm (by decide))
           . rw[if_neg c6]at h hx ⊢;have hx2:x2.e=0:=BB (by rw[e3];exact hx3);exact .same k n0 f d0 x1 x2 x3 x4 _ e1 hx1 (by omega) (by omega) e2 hx2 e3 hx3 (by omega) e4 hx (by omega) rfl h
theorem Tok1.ahead {row:List Bool}{a b:List Int}{u v:US}{t:Bool}(h:Tok1 row a b u t v):u.p+1<=v.p/\v.p<=row.length/\v.e=0/\v.ks=u.ks/\(u.out.length<=3000->v.out.length<=3000):=by
 cases h with
 |stop _ h1 h2=>
  have:=Cn h1 h2
  exact⟨this.1,this.2.1,h2,this.2.2.2.1,fun h=>by rw[this.2.2.1];exact h⟩
 |byte c x h1 h2 h3 h4=>
  have:=Cn h1 h2
  refine⟨this.1,this.2.1,h2,this.2.2.2.1,fun h=> ?_⟩;rw[this.2.2.1]at h4 ⊢;simp only[VE,VJ,WE];omega
 |same k n0 f d0 x1 x2 x3 x4 _ h1 h2 h3 h4 h5 h6 h7 h8 h9 h10 h11 h12 h13 h14=>
  have p1:=Cn h1 h2;have p2:=Bn h5 h6;have p3:=Cn h7 h8;have p4:=Bn h10 h11;have p5:=R2 (by rw[h13];exact h14:(ucopy ((farsL.getD f (0,0)).1+d0) ((samesL.getD (k-257) (0,0)).1+n0) x4).e=0);rw[h13]at p5;refine⟨by omega,by omega,h14, ?_,fun h=>p5.2.2 ?_⟩
  . rw[p5.2.1,p4.2.2.2.1,p3.2.2.2.1,p2.2.2.2.1,p1.2.2.2.1]
  . rw[p4.2.2.1,p3.2.2.1,p2.2.2.1,p1.2.2.1];exact h
theorem Z26 {row:List Bool}{a b:List Int}:∀ {F:Nat} {u:US},(utok row a b F u).e=0->u.e=0
 |0,u,h=>h
 |F+1,u,h=>by
  rw[utok]at h
  by_cases e:u.e=0
  . exact e
  . rw[if_neg e]at h;exact h
theorem Ub {row:List Bool}{a b:List Int}{F:Nat}{u:US}(h:(utok row a b (F+1) u).e=0):∃t x,Tok1 row a b u t x/\utok row a b (F+1) u=if t=true then utok row a b F x else x:=by
 have hu:=Z26 h;rw[utok,if_pos hu]at h ⊢;obtain⟨t,x,e⟩:∃t x,Lb row a b u=(t,x):=⟨_,_,rfl⟩
 have hg:=EG (row:=row) (a:=a) (b:=b) (u:=u);rw[e]at h hg ⊢;simp only at h hg ⊢
 refine⟨t,x,hg ?_,rfl⟩
 by_cases ht:t=true
 . rw[if_pos ht]at h;exact Z26 h
 . rw[if_neg ht]at h;exact h
inductive Blk1R (row:List Bool)(u:US):Bool->US->Prop
 |stored (l:Nat) (x1 x2:US):uget row 1 u=(l,x1)->uget row 2 x1=(0,x2)->x2.e=0->(ustored row x2).e=0->Blk1R row u (decide (l=1)) (ukept 0 (ustored row x2))
 |coded (l k:Nat) (x1 x2 x3:US) (a b:List Int):uget row 1 u=(l,x1)->uget row 2 x1=(k,x2)->x2.e=0->(k=1\/k=2)->uopen row k x2=((a,b),x3)->x3.e=0->(utok row a b row.length x3).e=0->Blk1R row u (decide (l=1)) (ukept k (utok row a b row.length x3))
theorem Qb {row:List Bool}{u:US}(h:(Eh row u).2.e=0):Blk1R row u (Eh row u).1 (Eh row u).2:=by
 obtain⟨l,x1,e1⟩:∃l x1,uget row 1 u=(l,x1):=⟨_,_,rfl⟩
 obtain⟨k,x2,e2⟩:∃k x2,uget row 2 x1=(k,x2):=⟨_,_,rfl⟩
 unfold Eh at h ⊢;simp only[e1,e2]at h ⊢
 by_cases c1:x2.e≠0
 . rw[if_pos c1]at h;exact absurd h c1
 . rw[if_neg c1]at h ⊢;have hx2:x2.e=0:=by omega
   by_cases c2:k=0
   . subst c2;rw[if_pos rfl]at h ⊢;exact .stored l x1 x2 e1 e2 hx2 h
   . rw[if_neg c2]at h ⊢;obtain⟨a,b,x3,e3⟩:∃a b x3,uopen row k x2=((a,b),x3):=⟨_,_,_,rfl⟩
     rw[e3]at h ⊢;simp only at h ⊢
     by_cases c3:x3.e≠0
     . rw[if_pos c3]at h;exact absurd h c3
     . rw[if_neg c3]at h ⊢;have hx3:x3.e=0:=by omega
       have hk:k=1\/k=2:=by
        by_cases d1:k=1
        . exact .inl d1
        . by_cases d2:k=2
          . exact .inr d2
          . unfold uopen at e3;rw[if_neg d1,if_neg d2]at e3;have:=(VN e3).2
            rw[<-this]at hx3;exact absurd hx3 (Bm (by decide))
       exact .coded l k x1 x2 x3 a b e1 e2 hx2 hk e3 hx3 h
structure Told (row:List Bool)(u:US)(m0 n0 c0:Nat)(u1 u2 u3 us:US)(S L A C:List Int)(v:US):Prop where
 g1:uget row 5 u=(m0,u1)
 g2:uget row 5 u1=(n0,u2)
 g3:uget row 4 u2=(c0,u3)
 e3:u3.e=0
 hm:m0+257<=286
 hn:n0+1<=30
 sm:usmall row (ord19.take (c0+4)) (List.replicate 19 0) u3=(S,us)
 es:us.e=0
 cs:errL S=0
 ln:ulens row S (m0+257+(n0+1)) (m0+257+(n0+1)) [] us=(L,v)
 ev:v.e=0
 l256:L.getD 256 0≠0
 ca:errL (L.take (m0+257))=0
 cc:errL (L.drop (m0+257))=0
 ea:A=L.take (m0+257)
 ec:C=L.drop (m0+257)
 len:L.length=m0+257+(n0+1)
theorem Hd {row:List Bool}{u v:US}{A C:List Int}(h:Db row u=((A,C),v))(hv:v.e=0):∃m0 n0 c0 u1 u2 u3 us S L,Told row u m0 n0 c0 u1 u2 u3 us S L A C v:=by
 obtain⟨m0,u1,e1⟩:∃m0 u1,uget row 5 u=(m0,u1):=⟨_,_,rfl⟩
 obtain⟨n0,u2,e2⟩:∃n0 u2,uget row 5 u1=(n0,u2):=⟨_,_,rfl⟩
 obtain⟨c0,u3,e3⟩:∃c0 u3,uget row 4 u2=(c0,u3):=⟨_,_,rfl⟩
 have h1:Ke row (m0+257) (n0+1) (Gk row (m0+257) (n0+1) (c0+4) u3)=((A,C),v):=by
  unfold Db at h;simp only[e1,e2,e3]at h;exact h
 obtain⟨S,us,hs⟩:∃S us,Gk row (m0+257) (n0+1) (c0+4) u3=(S,us):=⟨_,_,rfl⟩
 rw[hs]at h1;unfold Ke at h1
 by_cases hc:(Qa (S,us)).e≠0
 . rw[if_pos hc]at h1;have:Qa (S,us)=v:=(VN h1).2
   rw[this]at hc;exact absurd hv hc
 . rw[if_neg hc]at h1;have hc0:(Qa (S,us)).e=0:=by omega
   have hes:us.e=0/\errL S=0:=by
    unfold Qa at hc0;simp only at hc0
    by_cases hx:us.e=0/\errL S≠0
    . rw[if_pos hx]at hc0;exact absurd hc0 (Bm (by decide))
    . rw[if_neg hx]at hc0;refine⟨hc0, ?_⟩
      by_cases h5:errL S=0
      . exact h5
      . exact absurd ⟨hc0,h5⟩ hx
   have hck:Qa (S,us)=us:=by
    unfold Qa;rw[if_neg];rintro ⟨_,h6⟩;exact h6 hes.2
   rw[hck]at h1;simp only at h1
   obtain⟨L,ul,hl⟩:∃L ul,ulens row S (m0+257+(n0+1)) (m0+257+(n0+1)) [] us=(L,ul):=⟨_,_,rfl⟩
   rw[hl]at h1;unfold Gl at h1;simp only at h1
   by_cases hu:ul.e≠0
   . rw[if_pos hu]at h1;have:ul=v:=(VN h1).2
     rw[this]at hu;exact absurd hv hu
   . rw[if_neg hu]at h1;have hu0:ul.e=0:=by omega
     by_cases hb:L.getD 256 0=0\/errL (L.take (m0+257))≠0\/errL (L.drop (m0+257))≠0
     . rw[if_pos hb]at h1;have:Am 8 ul=v:=(VN h1).2
       rw[<-this]at hv;exact absurd hv (Bm (by decide))
     . rw[if_neg hb]at h1;have ha:=(VN h1).1;have hev:ul=v:=(VN h1).2;subst hev
       have hmn:¬(286<m0+257\/30<n0+1):=by
        intro hx;have he:=hs;unfold Gk at he;rw[if_pos hx]at he;have:=congrArg (fun z=>z.2.e) he
        simp only at this
        rw[hes.1]at this;exact Bm (by decide) (Ld this)
       have hsm:usmall row (ord19.take (c0+4)) (List.replicate 19 0) u3=(S,us):=by
        unfold Gk at hs;rw[if_neg hmn]at hs;exact hs
       have he3:u3.e=0:=by
        have:=congrArg (fun z=>z.2.e) hsm
        simp only at this
        rw[hes.1]at this;exact Ld this
       have hlen:L.length=m0+257+(n0+1):=by
        have:=Zm (row:=row) (small:=S) (tot:=m0+257+(n0+1)) (m0+257+(n0+1)) [] us (by simp) (by simp) hes.1 (by rw[hl];exact hu0) (fun l u _=>(Zn row l _ _).1)
        rw[hl]at this;exact this
       refine⟨m0,n0,c0,u1,u2,u3,us,S,L,⟨e1,e2,e3,he3,by omega,by omega,hsm,hes.1,hes.2,hl,hu0, ?_, ?_, ?_,(VN ha).1.symm,(VN ha).2.symm,hlen⟩⟩
       . intro h9;exact hb (.inl h9)
       . by_cases h9:errL (L.take (m0+257))=0
         . exact h9
         . exact absurd (.inr (.inl h9)) hb
       . by_cases h9:errL (L.drop (m0+257))=0
         . exact h9
         . exact absurd (.inr (.inr h9)) hb
theorem PO:Good Ky:=Ch (by decide+kernel)
theorem PN:Good Ir:=Ch (by decide+kernel)
theorem Wn {row:List Bool}:∀ {ks:List Nat} {s:List Int} {u:US},(usmall row ks s u).2.e=0->u.p<=row.length->u.p<=(usmall row ks s u).2.p/\(usmall row ks s u).2.p<=row.length/\(usmall row ks s u).2.out=u.out/\(usmall row ks s u).2.ks=u.ks
 | [],s,u,h,hp=>⟨VB _,hp,rfl,rfl⟩
 |k::r,s,u,h,hp=>by
  rw[usmall]at h ⊢;have h1:=Ld h;obtain⟨q1,q2,q3,q4,_⟩:=Bn (r:=(uget row 3 u).1) (v:=(uget row 3 u).2) rfl h1;obtain⟨i1,i2,i3,i4⟩:=Wn h q2;exact⟨by omega,i2,i3.trans q3,i4.trans q4⟩
theorem KH {row:List Bool}{l:List Int}{k:Nat}{u:US}(h:(ukind row l k u).2.2.e=0)(hp:u.p<=row.length):u.p<=(ukind row l k u).2.2.p/\(ukind row l k u).2.2.p<=row.length/\(ukind row l k u).2.2.out=u.out/\(ukind row l k u).2.2.ks=u.ks:=by
 have key:∀n,(uget row n u).2.e=0->u.p<=(uget row n u).2.p/\(uget row n u).2.p<=row.length/\(uget row n u).2.out=u.out/\(uget row n u).2.ks=u.ks:=fun n hn=>by
  obtain⟨q1,q2,q3,q4,_⟩:=Bn (r:=(uget row n u).1) (v:=(uget row n u).2) rfl hn;exact⟨by omega,q2,q3,q4⟩
 unfold ukind at h ⊢
 split
 . rename_i h16
   rw[if_pos h16]at h
   split
   . rename_i h0
     rw[if_pos h0]at h;exact absurd h (Bm (by decide))
   . rename_i h0
     rw[if_neg h0]at h;exact key 2 h
 . rename_i h16
   rw[if_neg h16]at h
   split
   . rename_i h17
     rw[if_pos h17]at h;exact key 3 h
   . rename_i h17
     rw[if_neg h17]at h
     split
     . rename_i h18
       rw[if_pos h18]at h;exact key 7 h
     . exact⟨VB _,hp,rfl,rfl⟩
theorem KF {row:List Bool}{small:List Int}{tot:Nat}:∀ {F:Nat} {l:List Int} {u:US},(ulens row small tot F l u).2.e=0->u.p<=row.length->u.p<=(ulens row small tot F l u).2.p/\(ulens row small tot F l u).2.p<=row.length/\(ulens row small tot F l u).2.out=u.out/\(ulens row small tot F l u).2.ks=u.ks
 |0,l,u,h,hp=>⟨VB _,hp,rfl,rfl⟩
 |F+1,l,u,h,hp=>by
  by_cases hc:l.length<tot/\u.e=0
  . obtain⟨r,e⟩:=Kj hc.1 hc.2 h;rw[e,r.st]at h ⊢;simp only at h ⊢
    obtain⟨a1,a2,a3,a4,_,_⟩:=Cn (k:=(uplace small row u).1) (v:=(uplace small row u).2) rfl r.pe;obtain⟨b1,b2,b3,b4⟩:=KH r.ke a2;obtain⟨i1,i2,i3,i4⟩:=KF h b2;exact⟨by omega,i2,i3.trans (b3.trans a3),i4.trans (b4.trans a4)⟩
  . rw[ulens,if_neg hc];exact⟨VB _,hp,rfl,rfl⟩
theorem Pu {row:List Bool}{u v u1 u2 u3 us:US}{m0 n0 c0:Nat}{S L A C:List Int}(h:Told row u m0 n0 c0 u1 u2 u3 us S L A C v)(hp:u.p<=row.length):u.p+1<=v.p/\v.p<=row.length/\v.out=u.out/\v.ks=u.ks:=by
 obtain⟨a1,a2,a3,a4,ae⟩:=Bn h.g3 h.e3;obtain⟨b1,b2,b3,b4,be⟩:=Bn h.g2 ae;obtain⟨c1,c2,c3,c4,_⟩:=Bn h.g1 be;have s:=Wn (row:=row) (ks:=ord19.take (c0+4)) (s:=List.replicate 19 0) (u:=u3) (by rw[h.sm];exact h.es) a2;rw[h.sm]at s;obtain⟨s1,s2,s3,s4⟩:=s;have t:=KF (row:=row) (small:=S) (tot:=m0+257+(n0+1)) (F:=m0+257+(n0+1)) (l:= []) (u:=us) (by rw[h.ln];exact h.ev) s2;rw[h.ln]at t;obtain⟨t1,t2,t3,t4⟩:=t;simp only at s1 s2 s3 s4 t1 t2 t3 t4
 exact⟨by omega,t2,by rw[t3,s3,a3,b3,c3],by rw[t4,s4,a4,b4,c4]⟩
theorem S9:∀q,q<29->(samesL.getD q (0,0)).2<=5/\(samesL.getD q (0,0)).1<=258:=by decide
theorem IB:∀f,f<30->(farsL.getD f (0,0)).2<=13/\(farsL.getD f (0,0)).1<=24577/\1<=(farsL.getD f (0,0)).1:=by decide
theorem Lc {row:List Bool}:∀ {k:Nat} {u:US},(ustore row k u).e=0->u.e=0
 |0,u,h=>h
 |k+1,u,h=>by
  rw[ustore]at h
  by_cases e:u.e=0
  . exact e
  . rw[if_neg e]at h;exact h
theorem Pw {row:List Bool}:∀ {k:Nat} {u:US},(ustore row k u).e=0->(ustore row k u).ks=u.ks
 |0,u,h=>rfl
 |k+1,u,h=>by
  have he:=Lc h;rw[ustore,if_pos he]at h ⊢;obtain⟨r,y,hg⟩:∃r y,uget row 8 u=(r,y):=⟨_,_,rfl⟩
  rw[hg]at h ⊢;obtain⟨h1,_,h3⟩:=Ud (Lc h);rw[Pw h,h3];exact(Bn hg h1).2.2.2.1
structure Sto (row:List Bool)(u:US)(r1 r2:Nat)(y1 y2 V:US):Prop where
 g1:uget row 16 {u with p:=(u.p+7)/8*8}=(r1,y1)
 g2:uget row 16 y1=(r2,y2)
 e2:y2.e=0
 sum:r1+r2=65535
 st:ustore row r1 y2=V
 ev:V.e=0
theorem Zf {row:List Bool}{u:US}(h:(ustored row u).e=0):∃r1 r2 y1 y2,Sto row u r1 r2 y1 y2 (ustored row u):=by
 obtain⟨r1,y1,e1⟩:∃r1 y1,uget row 16 {u with p:=(u.p+7)/8*8}=(r1,y1):=⟨_,_,rfl⟩
 obtain⟨r2,y2,e2⟩:∃r2 y2,uget row 16 y1=(r2,y2):=⟨_,_,rfl⟩
 refine⟨r1,r2,y1,y2, ?_⟩;unfold ustored at h ⊢;simp only[e1,e2]at h ⊢;have hx:=Lc h
 by_cases c:y2.e=0/\r1+r2≠65535
 . rw[if_pos c]at hx;exact absurd hx (Bm (by decide))
 . rw[if_neg c]at h hx ⊢;exact⟨e1,e2,hx,by omega,rfl,h⟩
theorem Wm {row:List Bool}:∀ {k:Nat} {u:US},(ustore row k u).e=0->u.p<=row.length->u.p<=(ustore row k u).p/\(ustore row k u).p<=row.length/\(u.out.length<=3000->(ustore row k u).out.length<=3000)
 |0,u,h,hp=>⟨VB _,hp,fun h=>h⟩
 |k+1,u,h,hp=>by
  have he:=Lc h;rw[ustore,if_pos he]at h ⊢;obtain⟨r,y,hg⟩:∃r y,uget row 8 u=(r,y):=⟨_,_,rfl⟩
  rw[hg]at h ⊢;obtain⟨h1,h2,h3⟩:=Ud (Lc h);obtain⟨q1,q2,q3,_,_⟩:=Bn hg h1;have ih:=Wm h (by rw[h3];exact q2);rw[h3]at ih ⊢;refine⟨?_,ih.2.1,fun ho=>ih.2.2 ?_⟩
  . have:=ih.1
    simp only at this ⊢
    omega
  . simp only[VE,VJ,WE];rw[q3]at h2 ⊢;omega
theorem Z25 {row:List Bool}{a b:List Int}:∀ {F:Nat} {u:US},(utok row a b F u).e=0->u.p<=row.length->u.p<=(utok row a b F u).p/\(utok row a b F u).p<=row.length/\(utok row a b F u).ks=u.ks/\(u.out.length<=3000->(utok row a b F u).out.length<=3000)
 |0,u,h,hp=>⟨VB _,hp,rfl,fun h=>h⟩
 |F+1,u,h,hp=>by
  obtain⟨t,x,hT,e⟩:=Ub h;obtain⟨a1,a2,a3,a4,a5⟩:=hT.ahead;rw[e]at h ⊢
  by_cases ht:t=true
  . rw[if_pos ht]at h ⊢;obtain⟨i1,i2,i3,i4⟩:=Z25 h a2;exact⟨by omega,i2,i3.trans a4,fun ho=>i4 (a5 ho)⟩
  . rw[if_neg ht];exact⟨by omega,a2,a4,a5⟩
theorem Blk1R.ahead {row:List Bool}{u v:US}{t:Bool}(h:Blk1R row u t v):u.p+1<=v.p/\v.p<=row.length/\v.e=0/\v.ks.length=u.ks.length+1/\(u.out.length<=3000->v.out.length<=3000):=by
 cases h with
 |stored l x1 x2 h1 h2 h3 h4=>
  obtain⟨q2,q2l,q2o,q2k,q2e⟩:=Bn h2 h3;obtain⟨q1,q1l,q1o,q1k,_⟩:=Bn h1 q2e;obtain⟨r1,r2,y1,y2,hS⟩:=Zf h4;have hy1e:y1.e=0:=Ug (by rw[hS.g2];exact hS.e2);obtain⟨p1,p1l,p1o,p1k,_⟩:=Bn hS.g1 hy1e;obtain⟨p2,p2l,p2o,p2k,_⟩:=Bn hS.g2 hS.e2;have s:=Wm (row:=row) (k:=r1) (u:=y2) (by rw[hS.st];exact h4) p2l;have sk:=Pw (row:=row) (k:=r1) (u:=y2) (by rw[hS.st];exact h4);rw[hS.st]at s sk;simp only at p1 p1o p1k
  refine⟨?_,s.2.1,h4, ?_,fun ho=>s.2.2 ?_⟩
  . show u.p+1<=(ustored row x2).p
    have:=s.1
    omega
  . show ((ustored row x2).ks++ [0]).length=_
    rw[VE,sk,p2k,p1k,q2k,q1k];rfl
  . rw[p2o,p1o,q2o,q1o];exact ho
 |coded l k x1 x2 x3 a b h1 h2 h3 h4 h5 h6 h7=>
  obtain⟨q2,q2l,q2o,q2k,q2e⟩:=Bn h2 h3;obtain⟨q1,q1l,q1o,q1k,_⟩:=Bn h1 q2e
  have hx:x2.p<=x3.p/\x3.p<=row.length/\x3.out=x2.out/\x3.ks=x2.ks:=by
   rcases h4 with h4|h4
   . subst h4;unfold uopen at h5;rw[if_pos rfl]at h5;have:=(VN h5).2
     subst this;exact⟨VB _,q2l,rfl,rfl⟩
   . subst h4;unfold uopen at h5;rw[if_neg (by decide),if_pos rfl]at h5;obtain⟨m0,n0,c0,v1,v2,v3,us,S0,L0,hTD⟩:=Hd h5 h6;obtain⟨t1,t2,t3,t4⟩:=Pu hTD q2l;exact⟨by omega,t2,t3,t4⟩
  obtain⟨s1,s2,s3,s4⟩:=hx;obtain⟨t1,t2,t3,t4⟩:=Z25 h7 s2;refine⟨?_,t2,h7, ?_,fun ho=>t4 ?_⟩
  . show u.p+1<=(utok row a b row.length x3).p
    omega
  . show ((utok row a b row.length x3).ks++ [k]).length=_
    rw[VE,t3,s4,q2k,q1k];rfl
  . rw[s3,q2o,q1o];exact ho
theorem KO {row:List Bool}:∀ {F:Nat} {u:US},(Dc row (F+1) u).e=0->(Eh row u).2.e=0:=by
 intro F u h;rw[Dc]at h
 by_cases c:(Eh row u).1=false/\(Eh row u).2.e=0
 . exact c.2
 . rw[if_neg c]at h;exact h
theorem Ww {row:List Bool}{F:Nat}{u:US}(h:(Dc row (F+1) u).e=0):∃t x,Blk1R row u t x/\Dc row (F+1) u=if t=false then Dc row F x else x:=by
 have he:=KO h;refine⟨(Eh row u).1,(Eh row u).2,Qb he, ?_⟩;rw[Dc]
 by_cases c:(Eh row u).1=false
 . rw[if_pos ⟨c,he⟩,if_pos c]
 . rw[if_neg (fun h=>c h.1),if_neg c]
end Go.Proofs.YtleocpdblhbimaaGreatDoor
