import Derived.Test.YtleocpdblhbimaaGreatDoorQ1
set_option linter.unusedSimpArgs false
set_option linter.unusedVariables false
set_option maxRecDepth 100000
namespace Go.Proofs.YtleocpdblhbimaaGreatDoor
open Go.RowKit
def Al (n:Nat):Nat->List Bool
 |0=> []
 |k+1=>Al n k++ [n.testBit k]
theorem Ah (n:Nat):∀k,(Al n k).length=k
 |0=>rfl
 |k+1=>by rw[Al,VE,Ah n k];rfl
theorem RK (n k:Nat):n/2^k%2=if n.testBit k then 1 else 0:=by have h:=Nat.testBit_eq_decide_div_mod_eq (x:=n) (i:=k);rw[h];rcases WY (n/2^k)with e|e<;>simp[e]
theorem Jb (n:Nat):∀s i,(Al n s).getD i false=(decide (i<s)&&n.testBit i)
 |0,i=>by simp[Al]
 |s+1,i=>by rw[Al,WZ];by_cases h:i<s;rw[WN (by rw[Ah];exact h),<-WZ,Jb n s i];simp[h,Nat.lt_succ_of_lt h];rw[VX (by rw[Ah];omega),Ah];by_cases e:i=s;subst e;simp;have F:¬i<s+1:=om;have E: [n.testBit s][i-s]? =none:=WJ oO;rw[E];simp[F]
def Eb:List Bool->Nat
 | []=>0
 |b::r=>(if b then 1 else 0)+2*Eb r
theorem Jy:∀l,Eb l<2^l.length
 | []=>by simp[Eb]
 |b::r=>by have:=Jy r;rw[Eb,VJ,XC];split<;>omega
theorem FU {l:List Bool}(E:l.length<=16):Eb l<65536:=VG (Jy l) (MI E)
def rowB (xs:List Nat):Nat->List Bool
 |0=> []
 |q+1=>rowB xs q++Al (xs.getD q 0) 8
theorem Af (xs:List Nat):∀q,(rowB xs q).length=8*q
 |0=>rfl
 |q+1=>by rw[rowB,VE,Af xs q,Ah];omega
theorem Hf (xs:List Nat):∀q i,i<8*q->(rowB xs q).getD i false=Iq xs i
 |0,i,h=>om
 |q+1,i,h=>by rw[rowB,WZ];by_cases e:i<8*q;rw[WN (by rw[Af];exact e),<-WZ,Hf xs q i e];rw[VX (by rw[Af];omega),Af,<-WZ,Jb,Iq];have E:i/8=q:=om;have e2:i%8=i-8*q:=om;rw[E,e2,decide_eq_true om,ZF]
structure US where
 p:Nat
 out:List Nat
 ks:List Nat
 e:Int
def uget (row:List Bool)(n:Nat)(u:US):Nat×US:=
 if u.e=0 then (if row.length<u.p+n then (0,{u with e:=7})else (Eb ((row.drop u.p).take n),{u with p:=u.p+n}))else (0,u)
def Am (x:Int)(u:US):US:=if u.e=0 then {u with e:=x}else u
def Fd (c:Nat)(u:US):US:=if u.e=0 then (if u.out.length=3000 then {u with e:=2}else {u with out:=u.out++ [c]})else u
def Ok (l:List Int)(s:List Bool):Option Nat:=(List.range l.length).find? (fun q=>decide (codeT l q=s))
def Ej (l:List Int)(row:List Bool)(p:Nat):Nat->Nat->Nat×Nat×Int
 |0,_=>(0,0,8)
 |f+1,n=>if row.length<p+n then (0,0,7)else match Ok l ((row.drop p).take n)with
  |some q=>(q,n,0)
  |none=>Ej l row p f (n+1)
def Lt (l:List Int)(row:List Bool)(p:Nat):Nat×Nat×Int:=Ej l row p 15 1
def uplace (l:List Int)(row:List Bool)(u:US):Nat×US:=
 if u.e=0 then ((Lt l row u.p).1,{u with e:=(Lt l row u.p).2.2,p:=u.p+(Lt l row u.p).2.1})else (0,u)
def ord19:List Nat:= [16,17,18,0,8,7,9,6,10,5,11,4,12,3,13,2,14,1,15]
def usmall (row:List Bool):List Nat->List Int->US->List Int×US
 | [],s,u=>(s,u)
 |k::r,s,u=>usmall row r (s.set k ((uget row 3 u).1:Int)) (uget row 3 u).2
def ukind (row:List Bool)(l:List Int)(k:Nat)(u:US):Int×Nat×US:=
 if k=16 then (if l.length=0 then (16,1,Am 8 u)else (l.getD (l.length-1) 0,3+(uget row 2 u).1,(uget row 2 u).2))
 else if k=17 then (0,3+(uget row 3 u).1,(uget row 3 u).2)
 else if k=18 then (0,11+(uget row 7 u).1,(uget row 7 u).2)
 else ((k:Int),1,u)
def Td (tot:Nat)(l:List Int)(r:Int×Nat×US):List Int×US:=
 (l++List.replicate r.2.1 r.1,if r.2.2.e=0/\tot<l.length+r.2.1 then Am 8 r.2.2 else r.2.2)
def ustep (row:List Bool)(small:List Int)(tot:Nat)(l:List Int)(u:US):List Int×US:=Td tot l (ukind row l (uplace small row u).1 (uplace small row u).2)
def ulens (row:List Bool)(small:List Int)(tot:Nat):Nat->List Int->US->List Int×US
 |0,l,u=>(l,u)
 |f+1,l,u=>if l.length<tot/\u.e=0 then ulens row small tot f (ustep row small tot l u).1 (ustep row small tot l u).2 else (l,u)
def Gk (row:List Bool)(m n c:Nat)(u:US):List Int×US:=
 usmall row (ord19.take c) (List.replicate 19 0) (if 286<m\/30<n then Am 8 u else u)
def Qa (s:List Int×US):US:=if s.2.e=0/\errL s.1≠0 then Am 8 s.2 else s.2
def Gl (m:Nat)(r:List Int×US):(List Int×List Int)×US:=
 if r.2.e≠0 then (([],[]),r.2)
 else if r.1.getD 256 0=0\/errL (r.1.take m)≠0\/errL (r.1.drop m)≠0 then (([],[]),Am 8 r.2)
 else ((r.1.take m,r.1.drop m),r.2)
def Ke (row:List Bool)(m n:Nat)(s:List Int×US):(List Int×List Int)×US:=
 if (Qa s).e≠0 then (([],[]),Qa s)else Gl m (ulens row s.1 (m+n) (m+n) [] (Qa s))
def Db (row:List Bool)(u:US):(List Int×List Int)×US:=
 let r1:=uget row 5 u
 let r2:=uget row 5 r1.2
 let r3:=uget row 4 r2.2
 Ke row (r1.1+257) (r2.1+1) (Gk row (r1.1+257) (r2.1+1) (r3.1+4) r3.2)
def ustore (row:List Bool):Nat->US->US
 |0,u=>u
 |k+1,u=>if u.e=0 then ustore row k (Fd (uget row 8 u).1 (uget row 8 u).2)else u
def ucopy (d:Nat):Nat->US->US
 |0,u=>u
 |j+1,u=>if u.e=0 then ucopy d j (Fd (u.out.getD (u.out.length-d) 0) u)else u
def samesL:List (Nat×Nat):= [(3,0),(4,0),(5,0),(6,0),(7,0),(8,0),(9,0),(10,0),(11,1),(13,1),(15,1),(17,1),(19,2),(23,2),(27,2),(31,2),(35,3),(43,3),(51,3),(59,3),(67,4),(83,4),(99,4),(115,4),(131,5),(163,5),(195,5),(227,5),(258,0)]
def farsL:List (Nat×Nat):= [(1,0),(2,0),(3,0),(4,0),(5,1),(7,1),(9,2),(13,2),(17,3),(25,3),(33,4),(49,4),(65,5),(97,5),(129,6),(193,6),(257,7),(385,7),(513,8),(769,8),(1025,9),(1537,9),(2049,10),(3073,10),(4097,11),(6145,11),(8193,12),(12289,12),(16385,13),(24577,13)]
def Ky:List Int:=List.replicate 144 8++List.replicate 112 9++List.replicate 24 7++List.replicate 8 8
def Ir:List Int:=List.replicate 32 5
def Z28 (row:List Bool)(n f:Nat)(u:US):US:=
 let q:=uget row (farsL.getD f (0,0)).2 u
 let d:=(farsL.getD f (0,0)).1+q.1
 ucopy d n (if q.2.e=0/\q.2.out.length<d then Am 9 q.2 else q.2)
def EJ (row:List Bool)(b:List Int)(k:Nat)(u:US):Bool×US:=
 let g:=uget row (samesL.getD (k-257) (0,0)).2 u
 let h:=uplace b row g.2
 let u3:=if h.2.e=0/\29<h.1 then Am 8 h.2 else h.2
 if u3.e≠0 then (false,u3)else (true,Z28 row ((samesL.getD (k-257) (0,0)).1+g.1) h.1 u3)
def Lb (row:List Bool)(a b:List Int)(u:US):Bool×US:=
 let r:=uplace a row u
 if r.2.e≠0\/r.1=256 then (false,r.2)
 else if r.1<256 then (true,Fd r.1 r.2)
 else if 285<r.1 then (false,Am 8 r.2)
 else EJ row b r.1 r.2
def utok (row:List Bool)(a b:List Int):Nat->US->US
 |0,u=>u
 |f+1,u=>if u.e=0 then (if (Lb row a b u).1 then utok row a b f (Lb row a b u).2 else (Lb row a b u).2)else u
def ukept (k:Nat)(u:US):US:= {u with ks:=u.ks++ [k]}
def uopen (row:List Bool)(kind:Nat)(u:US):(List Int×List Int)×US:=
 if kind=1 then ((Ky,Ir),u)else if kind=2 then Db row u else (([],[]),Am 4 u)
def ustored (row:List Bool)(u:US):US:=
 let n:=uget row 16 {u with p:=(u.p+7)/8*8}
 let t:=uget row 16 n.2
 ustore row n.1 (if t.2.e=0/\n.1+t.1≠65535 then Am 4 t.2 else t.2)
def Eh (row:List Bool)(u:US):Bool×US:=
 let l:=uget row 1 u
 let k:=uget row 2 l.2
 if k.2.e≠0 then (true,k.2)
 else if k.1=0 then (decide (l.1=1),ukept 0 (ustored row k.2))
 else
  let o:=uopen row k.1 k.2
  if o.2.e≠0 then (true,o.2)else (decide (l.1=1),ukept k.1 (utok row o.1.1 o.1.2 row.length o.2))
def Dc (row:List Bool):Nat->US->US
 |0,u=>u
 |f+1,u=>if (Eh row u).1=false/\(Eh row u).2.e=0 then Dc row f (Eh row u).2 else (Eh row u).2
def Oh (row:List Bool):US:=Dc row (row.length+1) ⟨0,[],[],0⟩
theorem Ug {row:List Bool}{n:Nat}{u:US}(E:(uget row n u).2.e=0):u.e=0:=by unfold uget at E;by_cases e:u.e=0;exact e;rw[if_neg e]at E;exact E
theorem Bm {x:Int}{u:US}(E:x≠0):(Am x u).e≠0:=by unfold Am;by_cases e:u.e=0;rw[if_pos e];exact E;rw[if_neg e];exact e
theorem BB {l:List Int}{row:List Bool}{u:US}(E:(uplace l row u).2.e=0):u.e=0:=by unfold uplace at E;by_cases e:u.e=0;exact e;rw[if_neg e]at E;exact E
theorem Ld {row:List Bool}:∀ {ks:List Nat} {s:List Int} {u:US},(usmall row ks s u).2.e=0->u.e=0
 | [],s,u,h=>h
 |k::r,s,u,h=>by rw[usmall]at h;exact Ug (Ld h)
theorem Uc {row:List Bool}:∀ {ks:List Nat} {s:List Int} {u:US},(usmall row ks s u).1.length=s.length
 | [],s,u=>rfl
 |k::r,s,u=>by rw[usmall,Uc,XS]
structure Round (row:List Bool)(small:List Int)(tot:Nat)(l:List Int)(u:US):Prop where
 pe:(uplace small row u).2.e=0
 ke:(ukind row l (uplace small row u).1 (uplace small row u).2).2.2.e=0
 le:l.length+(ukind row l (uplace small row u).1 (uplace small row u).2).2.1<=tot
 st:ustep row small tot l u=(l++List.replicate (ukind row l (uplace small row u).1 (uplace small row u).2).2.1 (ukind row l (uplace small row u).1 (uplace small row u).2).1,(ukind row l (uplace small row u).1 (uplace small row u).2).2.2)
theorem Z3a {row:List Bool}{l:List Int}{k:Nat}{u:US}(E:(ukind row l k u).2.2.e=0):u.e=0:=by unfold ukind at E;split at E;(. split at E;exact absurd E (Bm od);exact Ug E);. split at E;exact Ug E;. split at E;exact Ug E;exact E
theorem Js {row:List Bool}{small:List Int}{tot F:Nat}{l:List Int}{u:US}(G:u.e≠0):ulens row small tot F l u=(l,u):=by
 cases F with
 |zero=>rfl
 |succ F=>rw[ulens,if_neg (fun E=>G E.2)]
theorem Kj {row:List Bool}{small:List Int}{tot F:Nat}{l:List Int}{u:US}(H:l.length<tot)(I:u.e=0)(E:(ulens row small tot (F+1) l u).2.e=0):Round row small tot l u/\ulens row small tot (F+1) l u=ulens row small tot F (ustep row small tot l u).1 (ustep row small tot l u).2:=by(have G:ulens row small tot (F+1) l u=ulens row small tot F (ustep row small tot l u).1 (ustep row small tot l u).2:=by rw[ulens,if_pos ⟨H,I⟩]);(have e2:(ustep row small tot l u).2.e=0:=by by_cases e:(ustep row small tot l u).2.e=0;exact e;rw[G,Js e]at E;exact absurd E e);refine⟨?_,G⟩;unfold ustep Td at e2;simp only at e2;by_cases hc:(ukind row l (uplace small row u).1 (uplace small row u).2).2.2.e=0/\tot<l.length+(ukind row l (uplace small row u).1 (uplace small row u).2).2.1;rw[if_pos hc]at e2;exact absurd e2 (Bm od);rw[if_neg hc]at e2;refine⟨Z3a e2,e2,om, ?_⟩;unfold ustep Td;rw[if_neg hc]
theorem Zm {row:List Bool}{small:List Int}{tot:Nat}:∀(F:Nat) (l:List Int) (u:US),tot<=l.length+F->l.length<=tot->u.e=0->(ulens row small tot F l u).2.e=0->(∀l u,Round row small tot l u->1<=(ukind row l (uplace small row u).1 (uplace small row u).2).2.1)->(ulens row small tot F l u).1.length=tot
 |0,l,u,h1,h2,he,hF,hp=>by rw[ulens];simp only;omega
 |F+1,l,u,h1,h2,he,hF,hp=>by by_cases hl:l.length<tot;obtain⟨r,e⟩:=Kj hl he hF;have G:=hp l u r;have E:=r.le;rw[e]at hF ⊢;rw[r.st]at hF ⊢;exact Zm F _ _ oO oO r.ke hF hp;rw[ulens,if_neg (fun h=>hl h.1)];simp only;omega
theorem SD (row:List Bool)(n:Nat)(u:US):(uget row n u).1<2^n:=by unfold uget;split;(. split;exact YQ n;refine VG (Jy _) (VO od ?_);rw[VL];exact ZP _ _);exact YQ n
theorem Zn (row:List Bool)(l:List Int)(k:Nat)(u:US):1<=(ukind row l k u).2.1/\(ukind row l k u).2.1<=138:=by have E:(uget row 2 u).1<2^2:=SD row 2 u;have F:(uget row 3 u).1<2^3:=SD row 3 u;have G:(uget row 7 u).1<2^7:=SD row 7 u;unfold ukind;split;(. split;exact⟨VB _,oS⟩;simp only;omega);. split;simp only;omega;. split;simp only;omega;exact⟨VB _,oS⟩
theorem Ud {c:Nat}{u:US}(E:(Fd c u).e=0):u.e=0/\u.out.length≠3000/\Fd c u= {u with out:=u.out++ [c]}:=by unfold Fd at E ⊢;by_cases e:u.e=0;rw[if_pos e]at E ⊢;by_cases e2:u.out.length=3000;rw[if_pos e2]at E;exact absurd (show (2:Int)=0 from E) od;rw[if_neg e2];exact⟨e,e2,rfl⟩;rw[if_neg e]at E;exact absurd E e
theorem Bn {row:List Bool}{n r:Nat}{u v:US}(E:uget row n u=(r,v))(F:v.e=0):v.p=u.p+n/\v.p<=row.length/\v.out=u.out/\v.ks=u.ks/\u.e=0:=by have G:u.e=0:=Ug (by rw[E];exact F);unfold uget at E;rw[if_pos G]at E;by_cases e:row.length<u.p+n;rw[if_pos e]at E;have:=(VN E).2;rw[<-this]at F;exact absurd (show (7:Int)=0 from F) od;rw[if_neg e]at E;have:=(VN E).2;subst this;exact⟨rfl,by show u.p+n<=row.length;omega,rfl,rfl,G⟩
theorem E6 {l:List Int}{row:List Bool}{p:Nat}:∀(f n:Nat),1<=n->(Ej l row p f n).2.2=0->1<=(Ej l row p f n).2.1/\p+(Ej l row p f n).2.1<=row.length/\(Ej l row p f n).1<l.length
 |0,n,_,h=>by rw[Ej]at h;exact absurd h od
 |f+1,n,hn,h=>by
  rw[Ej]at h ⊢;by_cases e:row.length<p+n;rw[if_pos e]at h;exact absurd h od
  . rw[if_neg e]at h ⊢
    cases E:Ok l ((row.drop p).take n)with
    |some q=>simp only;refine⟨hn,om, ?_⟩;have:=List.mem_of_find?_eq_some E;simpa using this
    |none=>rw[E]at h;simp only at h ⊢;exact E6 f (n+1) om h
theorem Cn {l:List Int}{row:List Bool}{k:Nat}{u v:US}(E:uplace l row u=(k,v))(F:v.e=0):u.p+1<=v.p/\v.p<=row.length/\v.out=u.out/\v.ks=u.ks/\u.e=0/\k<l.length:=by have G:u.e=0:=BB (by rw[E];exact F);unfold uplace at E;rw[if_pos G]at E;have I:=(VN E).2;have H:=(VN E).1;subst I;have:=E6 (l:=l) (row:=row) (p:=u.p) 15 1 (VB _) F;refine⟨?_, ?_,rfl,rfl,G, ?_⟩;show u.p+1<=u.p+(Lt l row u.p).2.1;have M:=this.1;unfold Lt;omega;show u.p+(Lt l row u.p).2.1<=row.length;exact this.2.1;rw[<-H];exact this.2.2
theorem Pz {d:Nat}:∀ {n:Nat} {u:US},(ucopy d n u).e=0->u.e=0
 |0,u,h=>h
 |n+1,u,h=>by rw[ucopy]at h;by_cases e:u.e=0;exact e;rw[if_neg e]at h;exact h
theorem R2 {d:Nat}:∀ {n:Nat} {u:US},(ucopy d n u).e=0->(ucopy d n u).p=u.p/\(ucopy d n u).ks=u.ks/\(u.out.length<=3000->(ucopy d n u).out.length<=3000)
 |0,u,h=>⟨rfl,rfl,fun h=>h⟩
 |n+1,u,h=>by have e:=Pz h;rw[ucopy,if_pos e]at h ⊢;obtain⟨G,F,E⟩:=Ud (Pz h);have ih:=R2 h;rw[E]at ih ⊢;refine⟨ih.1,ih.2.1,fun H=>ih.2.2 ?_⟩;simp only[VE,VJ,WE];omega
inductive Tok1 (row:List Bool)(a b:List Int)(u:US):Bool->US->Prop
 |stop (v:US):uplace a row u=(256,v)->v.e=0->Tok1 row a b u false v
 |byte (c:Nat) (x:US):uplace a row u=(c,x)->x.e=0->c<256->x.out.length≠3000->Tok1 row a b u true {x with out:=x.out++ [c]}
 |same (k n0 f d0:Nat) (x1 x2 x3 x4 v:US):uplace a row u=(k,x1)->x1.e=0->257<=k->k<=285->uget row (samesL.getD (k-257) (0,0)).2 x1=(n0,x2)->x2.e=0->uplace b row x2=(f,x3)->x3.e=0->f<=29->
  uget row (farsL.getD f (0,0)).2 x3=(d0,x4)->x4.e=0->(farsL.getD f (0,0)).1+d0<=x4.out.length->ucopy ((farsL.getD f (0,0)).1+d0) ((samesL.getD (k-257) (0,0)).1+n0) x4=v->v.e=0->Tok1 row a b u true v
theorem EG {row:List Bool}{a b:List Int}{u:US}(E:(Lb row a b u).2.e=0):Tok1 row a b u (Lb row a b u).1 (Lb row a b u).2:=by obtain⟨k,x1,F⟩:∃k x1,uplace a row u=(k,x1):=⟨_,_,rfl⟩;unfold Lb at E ⊢;simp only[F]at E ⊢;by_cases c1:x1.e≠0\/k=256;rw[if_pos c1]at E ⊢;simp only at E ⊢;rcases c1 with c1|c1;exact absurd E c1;subst c1;exact .stop x1 F E;rw[if_neg c1]at E ⊢;(have M:x1.e=0:=by by_cases e:x1.e=0;exact e;exact absurd (.inl e) c1);have ae:k≠256:=fun e=>c1 (.inr e);by_cases c2:k<256;rw[if_pos c2]at E ⊢;simp only at E ⊢;obtain⟨_,aa,ac⟩:=Ud E;rw[ac];exact .byte k x1 F M c2 aa;rw[if_neg c2]at E ⊢;by_cases T:285<k;rw[if_pos T]at E;exact absurd E (Bm od);rw[if_neg T]at E ⊢;unfold EJ at E ⊢;obtain⟨n0,x2,e2⟩:∃n0 x2,uget row (samesL.getD (k-257) (0,0)).2 x1=(n0,x2):=⟨_,_,rfl⟩;obtain⟨f,x3,e3⟩:∃f x3,uplace b row x2=(f,x3):=⟨_,_,rfl⟩;simp only[e2,e3]at E ⊢;by_cases O:x3.e=0/\29<f;rw[if_pos O]at E;rw[if_pos (Bm od)]at E;exact absurd E (Bm od);rw[if_neg O]at E ⊢;by_cases H:x3.e≠0;rw[if_pos H]at E;exact absurd E H;rw[if_neg H]at E ⊢;have Y:x3.e=0:=om;simp only at E ⊢;unfold Z28 at E ⊢;obtain⟨d0,x4,U⟩:∃d0 x4,uget row (farsL.getD f (0,0)).2 x3=(d0,x4):=⟨_,_,rfl⟩;simp only[U]at E ⊢;have G:=Pz E;by_cases I:x4.e=0/\x4.out.length<(farsL.getD f (0,0)).1+d0;rw[if_pos I]at G;exact absurd G (Bm od);rw[if_neg I]at E G ⊢;have Z:x2.e=0:=BB (by rw[e3];exact Y);exact .same k n0 f d0 x1 x2 x3 x4 _ F M om om e2 Z e3 Y om U G om rfl E
theorem Tok1.ahead {row:List Bool}{a b:List Int}{u v:US}{t:Bool}(E:Tok1 row a b u t v):u.p+1<=v.p/\v.p<=row.length/\v.e=0/\v.ks=u.ks/\(u.out.length<=3000->v.out.length<=3000):=by
 cases E with
 |stop _ h1 h2=>have:=Cn h1 h2;exact⟨this.1,this.2.1,h2,this.2.2.2.1,fun E=>by rw[this.2.2.1];exact E⟩
 |byte c x h1 h2 h3 h4=>have:=Cn h1 h2;refine⟨this.1,this.2.1,h2,this.2.2.2.1,fun E=> ?_⟩;rw[this.2.2.1]at h4 ⊢;simp only[VE,VJ,WE];omega
 |same k n0 f d0 x1 x2 x3 x4 _ h1 h2 h3 h4 h5 h6 h7 h8 h9 h10 h11 h12 h13 h14=>have M:=Cn h1 h2;have G:=Bn h5 h6;have H:=Cn h7 h8;have I:=Bn h10 h11;have F:=R2 (by rw[h13];exact h14:(ucopy ((farsL.getD f (0,0)).1+d0) ((samesL.getD (k-257) (0,0)).1+n0) x4).e=0);rw[h13]at F;refine⟨om,om,h14, ?_,fun E=>F.2.2 ?_⟩;rw[F.2.1,I.2.2.2.1,H.2.2.2.1,G.2.2.2.1,M.2.2.2.1];rw[I.2.2.1,H.2.2.1,G.2.2.1,M.2.2.1];exact E
theorem Z26 {row:List Bool}{a b:List Int}:∀ {F:Nat} {u:US},(utok row a b F u).e=0->u.e=0
 |0,u,h=>h
 |F+1,u,h=>by rw[utok]at h;by_cases e:u.e=0;exact e;rw[if_neg e]at h;exact h
theorem Ub {row:List Bool}{a b:List Int}{F:Nat}{u:US}(E:(utok row a b (F+1) u).e=0):∃t x,Tok1 row a b u t x/\utok row a b (F+1) u=if t=true then utok row a b F x else x:=by have I:=Z26 E;rw[utok,if_pos I]at E ⊢;obtain⟨t,x,e⟩:∃t x,Lb row a b u=(t,x):=⟨_,_,rfl⟩;have G:=EG (row:=row) (a:=a) (b:=b) (u:=u);rw[e]at E G ⊢;simp only at E G ⊢;refine⟨t,x,G ?_,rfl⟩;by_cases H:t=true;rw[if_pos H]at E;exact Z26 E;rw[if_neg H]at E;exact E
inductive Blk1R (row:List Bool)(u:US):Bool->US->Prop
 |stored (l:Nat) (x1 x2:US):uget row 1 u=(l,x1)->uget row 2 x1=(0,x2)->x2.e=0->(ustored row x2).e=0->Blk1R row u (decide (l=1)) (ukept 0 (ustored row x2))
 |coded (l k:Nat) (x1 x2 x3:US) (a b:List Int):uget row 1 u=(l,x1)->uget row 2 x1=(k,x2)->x2.e=0->(k=1\/k=2)->uopen row k x2=((a,b),x3)->x3.e=0->(utok row a b row.length x3).e=0->Blk1R row u (decide (l=1)) (ukept k (utok row a b row.length x3))
theorem Qb {row:List Bool}{u:US}(E:(Eh row u).2.e=0):Blk1R row u (Eh row u).1 (Eh row u).2:=by obtain⟨l,x1,H⟩:∃l x1,uget row 1 u=(l,x1):=⟨_,_,rfl⟩;obtain⟨k,x2,e2⟩:∃k x2,uget row 2 x1=(k,x2):=⟨_,_,rfl⟩;unfold Eh at E ⊢;simp only[H,e2]at E ⊢;by_cases c1:x2.e≠0;rw[if_pos c1]at E;exact absurd E c1;rw[if_neg c1]at E ⊢;have I:x2.e=0:=om;by_cases c2:k=0;subst c2;rw[if_pos rfl]at E ⊢;exact .stored l x1 x2 H e2 I E;rw[if_neg c2]at E ⊢;obtain⟨a,b,x3,e3⟩:∃a b x3,uopen row k x2=((a,b),x3):=⟨_,_,_,rfl⟩;rw[e3]at E ⊢;simp only at E ⊢;by_cases G:x3.e≠0;rw[if_pos G]at E;exact absurd E G;rw[if_neg G]at E ⊢;have F:x3.e=0:=om;(have T:k=1\/k=2:=by by_cases O:k=1;exact .inl O;by_cases M:k=2;exact .inr M;unfold uopen at e3;rw[if_neg O,if_neg M]at e3;have:=(VN e3).2;rw[<-this]at F;exact absurd F (Bm od));exact .coded l k x1 x2 x3 a b H e2 I T e3 F E
structure Told (row:List Bool)(u:US)(m0 n0 c0:Nat)(u1 u2 u3 us:US)(S L A C:List Int)(v:US):Prop where
 g1:uget row 5 u=(m0,u1)
 g2:uget row 5 u1=(n0,u2)
 g3:uget row 4 u2=(c0,u3)
 e3:u3.e=0
 hm:m0+257<=286
 hn:n0+1<=30
 sm:usmall row (ord19.take (c0+4)) (List.replicate 19 0) u3=(S,us)
 es:us.e=0
 cs:errL S=0
 ln:ulens row S (m0+257+(n0+1)) (m0+257+(n0+1)) [] us=(L,v)
 ev:v.e=0
 l256:L.getD 256 0≠0
 ca:errL (L.take (m0+257))=0
 cc:errL (L.drop (m0+257))=0
 ea:A=L.take (m0+257)
 ec:C=L.drop (m0+257)
 len:L.length=m0+257+(n0+1)
theorem Hd {row:List Bool}{u v:US}{Y C:List Int}(Z:Db row u=((Y,C),v))(T:v.e=0):∃m0 n0 c0 u1 u2 u3 us S L,Told row u m0 n0 c0 u1 u2 u3 us S L Y C v:=by obtain⟨m0,u1,af⟩:∃m0 u1,uget row 5 u=(m0,u1):=⟨_,_,rfl⟩;obtain⟨n0,u2,e2⟩:∃n0 u2,uget row 5 u1=(n0,u2):=⟨_,_,rfl⟩;obtain⟨c0,u3,e3⟩:∃c0 u3,uget row 4 u2=(c0,u3):=⟨_,_,rfl⟩;(have E:Ke row (m0+257) (n0+1) (Gk row (m0+257) (n0+1) (c0+4) u3)=((Y,C),v):=by unfold Db at Z;simp only[af,e2,e3]at Z;exact Z);obtain⟨S,us,M⟩:∃S us,Gk row (m0+257) (n0+1) (c0+4) u3=(S,us):=⟨_,_,rfl⟩;rw[M]at E;unfold Ke at E;by_cases hc:(Qa (S,us)).e≠0;rw[if_pos hc]at E;have:Qa (S,us)=v:=(VN E).2;rw[this]at hc;exact absurd T hc;rw[if_neg hc]at E;have F:(Qa (S,us)).e=0:=om;(have I:us.e=0/\errL S=0:=by unfold Qa at F;simp only at F;by_cases O:us.e=0/\errL S≠0;rw[if_pos O]at F;exact absurd F (Bm od);rw[if_neg O]at F;refine⟨F, ?_⟩;by_cases ag:errL S=0;exact ag;exact absurd ⟨F,ag⟩ O);(have aj:Qa (S,us)=us:=by unfold Qa;rw[if_neg];rintro ⟨_,al⟩;exact al I.2);rw[aj]at E;simp only at E;obtain⟨L,G,hl⟩:∃L G,ulens row S (m0+257+(n0+1)) (m0+257+(n0+1)) [] us=(L,G):=⟨_,_,rfl⟩;rw[hl]at E;unfold Gl at E;simp only at E;by_cases U:G.e≠0;rw[if_pos U]at E;have:G=v:=(VN E).2;rw[this]at U;exact absurd T U;rw[if_neg U]at E;have ae:G.e=0:=om;by_cases hb:L.getD 256 0=0\/errL (L.take (m0+257))≠0\/errL (L.drop (m0+257))≠0;rw[if_pos hb]at E;have:Am 8 G=v:=(VN E).2;rw[<-this]at T;exact absurd T (Bm od);rw[if_neg hb]at E;have ac:=(VN E).1;have ai:G=v:=(VN E).2;subst ai;(have ak:¬(286<m0+257\/30<n0+1):=by intro O;have aa:=M;unfold Gk at aa;rw[if_pos O]at aa;have:=congrArg (fun z=>z.2.e) aa;simp only at this;rw[I.1]at this;exact Bm od (Ld this));(have ah:usmall row (ord19.take (c0+4)) (List.replicate 19 0) u3=(S,us):=by unfold Gk at M;rw[if_neg ak]at M;exact M);(have ap:u3.e=0:=by have:=congrArg (fun z=>z.2.e) ah;simp only at this;rw[I.1]at this;exact Ld this);(have ao:L.length=m0+257+(n0+1):=by have:=Zm (row:=row) (small:=S) (tot:=m0+257+(n0+1)) (m0+257+(n0+1)) [] us oS oS I.1 (by rw[hl];exact ae) (fun l u _=>(Zn row l _ _).1);rw[hl]at this;exact this);refine⟨m0,n0,c0,u1,u2,u3,us,S,L,⟨af,e2,e3,ap,om,om,ah,I.1,I.2,hl,ae, ?_, ?_, ?_,(VN ac).1.symm,(VN ac).2.symm,ao⟩⟩;intro H;exact hb (.inl H);by_cases H:errL (L.take (m0+257))=0;exact H;exact absurd (.inr (.inl H)) hb;by_cases H:errL (L.drop (m0+257))=0;exact H;exact absurd (.inr (.inr H)) hb
theorem PO:Good Ky:=Ch (by decide+kernel)
theorem PN:Good Ir:=Ch (by decide+kernel)
theorem Wn {row:List Bool}:∀ {ks:List Nat} {s:List Int} {u:US},(usmall row ks s u).2.e=0->u.p<=row.length->u.p<=(usmall row ks s u).2.p/\(usmall row ks s u).2.p<=row.length/\(usmall row ks s u).2.out=u.out/\(usmall row ks s u).2.ks=u.ks
 | [],s,u,h,hp=>⟨VB _,hp,rfl,rfl⟩
 |k::r,s,u,h,hp=>by rw[usmall]at h ⊢;have G:=Ld h;obtain⟨U,E,O,I,_⟩:=Bn (r:=(uget row 3 u).1) (v:=(uget row 3 u).2) rfl G;obtain⟨T,F,M,H⟩:=Wn h E;exact⟨om,F,M.trans O,H.trans I⟩
theorem KH {row:List Bool}{l:List Int}{k:Nat}{u:US}(E:(ukind row l k u).2.2.e=0)(M:u.p<=row.length):u.p<=(ukind row l k u).2.2.p/\(ukind row l k u).2.2.p<=row.length/\(ukind row l k u).2.2.out=u.out/\(ukind row l k u).2.2.ks=u.ks:=by(have key:∀n,(uget row n u).2.e=0->u.p<=(uget row n u).2.p/\(uget row n u).2.p<=row.length/\(uget row n u).2.out=u.out/\(uget row n u).2.ks=u.ks:=fun n hn=>by obtain⟨Y,I,T,O,_⟩:=Bn (r:=(uget row n u).1) (v:=(uget row n u).2) rfl hn;exact⟨om,I,T,O⟩);unfold ukind at E ⊢;split;(. rename_i G;rw[if_pos G]at E;split;(. rename_i H;rw[if_pos H]at E;exact absurd E (Bm od));. rename_i H;rw[if_neg H]at E;exact key 2 E);. rename_i G;rw[if_neg G]at E;split;(. rename_i F;rw[if_pos F]at E;exact key 3 E);. rename_i F;rw[if_neg F]at E;split;(. rename_i U;rw[if_pos U]at E;exact key 7 E);exact⟨VB _,M,rfl,rfl⟩
theorem KF {row:List Bool}{small:List Int}{tot:Nat}:∀ {F:Nat} {l:List Int} {u:US},(ulens row small tot F l u).2.e=0->u.p<=row.length->u.p<=(ulens row small tot F l u).2.p/\(ulens row small tot F l u).2.p<=row.length/\(ulens row small tot F l u).2.out=u.out/\(ulens row small tot F l u).2.ks=u.ks
 |0,l,u,h,hp=>⟨VB _,hp,rfl,rfl⟩
 |F+1,l,u,h,hp=>by by_cases hc:l.length<tot/\u.e=0;obtain⟨r,e⟩:=Kj hc.1 hc.2 h;rw[e,r.st]at h ⊢;simp only at h ⊢;obtain⟨Y,I,U,G,_,_⟩:=Cn (k:=(uplace small row u).1) (v:=(uplace small row u).2) rfl r.pe;obtain⟨b1,b2,O,T⟩:=KH r.ke I;obtain⟨Z,E,M,H⟩:=KF h b2;exact⟨om,E,M.trans (O.trans U),H.trans (T.trans G)⟩;rw[ulens,if_neg hc];exact⟨VB _,hp,rfl,rfl⟩
theorem Pu {row:List Bool}{u v u1 u2 u3 aa:US}{H G M:Nat}{S L A C:List Int}(E:Told row u H G M u1 u2 u3 aa S L A C v)(ar:u.p<=row.length):u.p+1<=v.p/\v.p<=row.length/\v.out=u.out/\v.ks=u.ks:=by obtain⟨au,ae,al,ac,ag⟩:=Bn E.g3 E.e3;obtain⟨b1,b2,aj,ak,ap⟩:=Bn E.g2 ag;obtain⟨c1,c2,ai,af,_⟩:=Bn E.g1 ap;have s:=Wn (row:=row) (ks:=ord19.take (M+4)) (s:=List.replicate 19 0) (u:=u3) (by rw[E.sm];exact E.es) ae;rw[E.sm]at s;obtain⟨ao,Y,U,T⟩:=s;have t:=KF (row:=row) (small:=S) (tot:=H+257+(G+1)) (F:=H+257+(G+1)) (l:= []) (u:=aa) (by rw[E.ln];exact E.ev) Y;rw[E.ln]at t;obtain⟨ah,Z,I,O⟩:=t;simp only at ao Y U T ah Z I O;exact⟨om,Z,by rw[I,U,al,aj,ai],by rw[O,T,ac,ak,af]⟩
theorem S9:∀q,q<29->(samesL.getD q (0,0)).2<=5/\(samesL.getD q (0,0)).1<=258:=od
theorem IB:∀f,f<30->(farsL.getD f (0,0)).2<=13/\(farsL.getD f (0,0)).1<=24577/\1<=(farsL.getD f (0,0)).1:=od
theorem Lc {row:List Bool}:∀ {k:Nat} {u:US},(ustore row k u).e=0->u.e=0
 |0,u,h=>h
 |k+1,u,h=>by rw[ustore]at h;by_cases e:u.e=0;exact e;rw[if_neg e]at h;exact h
theorem Pw {row:List Bool}:∀ {k:Nat} {u:US},(ustore row k u).e=0->(ustore row k u).ks=u.ks
 |0,u,h=>rfl
 |k+1,u,h=>by have F:=Lc h;rw[ustore,if_pos F]at h ⊢;obtain⟨r,y,E⟩:∃r y,uget row 8 u=(r,y):=⟨_,_,rfl⟩;rw[E]at h ⊢;obtain⟨H,_,G⟩:=Ud (Lc h);rw[Pw h,G];exact(Bn E H).2.2.2.1
structure Sto (row:List Bool)(u:US)(r1 r2:Nat)(y1 y2 V:US):Prop where
 g1:uget row 16 {u with p:=(u.p+7)/8*8}=(r1,y1)
 g2:uget row 16 y1=(r2,y2)
 e2:y2.e=0
 sum:r1+r2=65535
 st:ustore row r1 y2=V
 ev:V.e=0
theorem Zf {row:List Bool}{u:US}(E:(ustored row u).e=0):∃r1 r2 y1 y2,Sto row u r1 r2 y1 y2 (ustored row u):=by obtain⟨r1,y1,G⟩:∃r1 y1,uget row 16 {u with p:=(u.p+7)/8*8}=(r1,y1):=⟨_,_,rfl⟩;obtain⟨r2,y2,e2⟩:∃r2 y2,uget row 16 y1=(r2,y2):=⟨_,_,rfl⟩;refine⟨r1,r2,y1,y2, ?_⟩;unfold ustored at E ⊢;simp only[G,e2]at E ⊢;have F:=Lc E;by_cases c:y2.e=0/\r1+r2≠65535;rw[if_pos c]at F;exact absurd F (Bm od);rw[if_neg c]at E F ⊢;exact⟨G,e2,F,om,rfl,E⟩
theorem Wm {row:List Bool}:∀ {k:Nat} {u:US},(ustore row k u).e=0->u.p<=row.length->u.p<=(ustore row k u).p/\(ustore row k u).p<=row.length/\(u.out.length<=3000->(ustore row k u).out.length<=3000)
 |0,u,h,hp=>⟨VB _,hp,fun h=>h⟩
 |k+1,u,h,hp=>by have I:=Lc h;rw[ustore,if_pos I]at h ⊢;obtain⟨r,y,F⟩:∃r y,uget row 8 u=(r,y):=⟨_,_,rfl⟩;rw[F]at h ⊢;obtain⟨M,H,E⟩:=Ud (Lc h);obtain⟨U,G,O,_,_⟩:=Bn F M;have ih:=Wm h (by rw[E];exact G);rw[E]at ih ⊢;refine⟨?_,ih.2.1,fun T=>ih.2.2 ?_⟩;have:=ih.1;simp only at this ⊢;omega;simp only[VE,VJ,WE];rw[O]at H ⊢;omega
theorem Z25 {row:List Bool}{a b:List Int}:∀ {F:Nat} {u:US},(utok row a b F u).e=0->u.p<=row.length->u.p<=(utok row a b F u).p/\(utok row a b F u).p<=row.length/\(utok row a b F u).ks=u.ks/\(u.out.length<=3000->(utok row a b F u).out.length<=3000)
 |0,u,h,hp=>⟨VB _,hp,rfl,fun h=>h⟩
 |F+1,u,h,hp=>by obtain⟨t,x,T,e⟩:=Ub h;obtain⟨Z,G,ac,E,H⟩:=T.ahead;rw[e]at h ⊢;by_cases I:t=true;rw[if_pos I]at h ⊢;obtain⟨aa,M,U,O⟩:=Z25 h G;exact⟨om,M,U.trans E,fun Y=>O (H Y)⟩;rw[if_neg I];exact⟨om,G,E,H⟩
theorem Blk1R.ahead {row:List Bool}{u v:US}{t:Bool}(h:Blk1R row u t v):u.p+1<=v.p/\v.p<=row.length/\v.e=0/\v.ks.length=u.ks.length+1/\(u.out.length<=3000->v.out.length<=3000):=by
 cases h with
 |stored l x1 x2 h1 h2 h3 E=>obtain⟨ag,H,O,M,Y⟩:=Bn h2 h3;obtain⟨al,ap,Z,T,_⟩:=Bn h1 Y;obtain⟨r1,r2,y1,y2,F⟩:=Zf E;have au:y1.e=0:=Ug (by rw[F.g2];exact F.e2);obtain⟨ay,a1,af,ae,_⟩:=Bn F.g1 au;obtain⟨a2,av,ax,ah,_⟩:=Bn F.g2 F.e2;have s:=Wm (row:=row) (k:=r1) (u:=y2) (by rw[F.st];exact E) av;have ac:=Pw (row:=row) (k:=r1) (u:=y2) (by rw[F.st];exact E);rw[F.st]at s ac;simp only at ay af ae;refine⟨?_,s.2.1,E, ?_,fun U=>s.2.2 ?_⟩;show u.p+1<=(ustored row x2).p;have:=s.1;omega;show ((ustored row x2).ks++ [0]).length=_;rw[VE,ac,ah,ae,M,T];rfl;rw[ax,af,O,Z];exact U
 |coded l k x1 x2 x3 a b h1 h2 h3 E h5 h6 h7=>obtain⟨ag,H,O,M,Y⟩:=Bn h2 h3;obtain⟨al,ap,Z,T,_⟩:=Bn h1 Y;(have ar:x2.p<=x3.p/\x3.p<=row.length/\x3.out=x2.out/\x3.ks=x2.ks:=by rcases E with E|E;subst E;unfold uopen at h5;rw[if_pos rfl]at h5;have:=(VN h5).2;subst this;exact⟨VB _,H,rfl,rfl⟩;subst E;unfold uopen at h5;rw[if_neg od,if_pos rfl]at h5;obtain⟨m0,n0,c0,a5,a7,az,us,a6,a3,aw⟩:=Hd h5 h6;obtain⟨ai,aa,G,I⟩:=Pu aw H;exact⟨om,aa,G,I⟩);obtain⟨a4,ao,ak,aj⟩:=ar;obtain⟨ai,aa,G,I⟩:=Z25 h7 ao;refine⟨?_,aa,h7, ?_,fun U=>I ?_⟩;show u.p+1<=(utok row a b row.length x3).p;omega;show ((utok row a b row.length x3).ks++ [k]).length=_;rw[VE,G,aj,M,T];rfl;rw[ak,O,Z];exact U
theorem KO {row:List Bool}:∀ {F:Nat} {u:US},(Dc row (F+1) u).e=0->(Eh row u).2.e=0:=by intro F u h;rw[Dc]at h;by_cases c:(Eh row u).1=false/\(Eh row u).2.e=0;exact c.2;rw[if_neg c]at h;exact h
theorem Ww {row:List Bool}{F:Nat}{u:US}(E:(Dc row (F+1) u).e=0):∃t x,Blk1R row u t x/\Dc row (F+1) u=if t=false then Dc row F x else x:=by have G:=KO E;refine⟨(Eh row u).1,(Eh row u).2,Qb G, ?_⟩;rw[Dc];by_cases c:(Eh row u).1=false;rw[if_pos ⟨c,G⟩,if_pos c];rw[if_neg (fun E=>c E.1),if_neg c]
def Df (s:Nat):Nat×Nat:=if s=285 then (258,0)else (3+((s-257)-4*((s-257)/4-1))*2^((s-257)/4-1),(s-257)/4-1)
def Dg (s:Nat):Nat×Nat:=(1+(s-2*(s/2-1))*2^(s/2-1),s/2-1)
theorem F7 (s:Nat)(E:257<=s)(F:s<=285):Df s=samesL.getD (s-257) (0,0):=by(have:∀k∈List.range 29,Df (k+257)=samesL.getD k (0,0):=by decide+kernel);have:=this (s-257) oO;rwa [Nat.sub_add_cancel E]at this
theorem F9 (s:Nat)(E:s<=29):Dg s=farsL.getD s (0,0):=by(have:∀k∈List.range 30,Dg k=farsL.getD k (0,0):=by decide+kernel);exact this s oO
def Cl (row:List Bool)(u:US):Nat×US:=
 let n:=uget row 16 {u with p:=(u.p+7)/8*8}
 let t:=uget row 16 n.2
 (n.1,if t.2.e=0/\n.1+t.1≠65535 then Am 4 t.2 else t.2)
def Cj (row:List Bool)(u:US):US:=
 let x:=Cl row u
 if x.2.e=0/\3000<x.2.out.length+x.1 then Am 2 x.2 else ustore row x.1 x.2
theorem Fo (row:List Bool)(k:Nat)(u:US)(E:u.e≠0):ustore row k u=u:=by
 cases k with
 |zero=>rfl
 |succ k=>unfold ustore;rw[if_neg E]
theorem Gr (row:List Bool)(n:Nat)(u:US)(E:u.p<=row.length):(uget row n u).2.p<=row.length:=by unfold uget;split;(. split;exact E;show u.p+n<=row.length;omega);exact E
theorem Cm (row:List Bool)(n:Nat)(u:US):(uget row n u).2.out=u.out:=by unfold uget;split;(. split<;>rfl);rfl
theorem Fj (row:List Bool)(n:Nat)(u:US)(E:u.e≠0):(uget row n u).2=u:=by unfold uget;rw[if_neg E]
theorem Vj (row:List Bool)(u I E:US)(H F G:Nat)(T:(u.p+7)/8*8=H)(O:uget row 16 {u with p:=H}=(F,I))(M:uget row 16 I=(G,E)):Cj row u=if E.e≠0 then E else if F+G≠65535 then {E with e:=4}else if 3000<E.out.length+F then {E with e:=2}else ustore row F E:=by(have U:Cl row u=(F,if E.e=0/\F+G≠65535 then Am 4 E else E):=by simp only[Cl,T,O,M]);unfold Cj;simp only[U];by_cases e:E.e=0;by_cases e2:F+G=65535;by_cases e3:3000<E.out.length+F;simp[e,e2,e3,Am];simp[e,e2,e3];simp[e,e2,Am,Fo];simp[e,Fo]
theorem Ic (row:List Bool)(n:Nat)(u:US):(uget row n u).2.ks=u.ks:=by unfold uget;split;(. split<;>rfl);rfl
def Jh (d k:Nat)(u:US):US:=if u.out.length<d then {u with e:=9}else if 3000<u.out.length+k then {u with e:=2}else ucopy d k u
theorem Ro (row:List Bool):∀(k:Nat) (x:US),x.out.length<=3000->3000<x.out.length+k->(ustore row k x).e≠0
 |0,x,h1,h2=>om
 |k+1,x,h1,h2=>by by_cases e:x.e=0;unfold ustore;rw[if_pos e];obtain⟨c,y,F⟩:∃c y,uget row 8 x=(c,y):=⟨_,_,rfl⟩;(have E:y.out=x.out:=by have:=Cm row 8 x;rw[F]at this;exact this);rw[F];show (ustore row k (Fd c y)).e≠0;by_cases e2:y.e=0;by_cases e3:y.out.length=3000;(have:Fd c y= {y with e:=2}:=by unfold Fd;rw[if_pos e2,if_pos e3]);rw[this,Fo _ _ _ (show (2:Int)≠0 by decide)];exact(by decide:(2:Int)≠0);(have:Fd c y= {y with out:=y.out++ [c]}:=by unfold Fd;rw[if_pos e2,if_neg e3]);rw[this];refine Ro row k _ ?_ ?_;show (y.out++ [c]).length<=3000;rw[VE,E];rw[E]at e3;simp only[VJ,WE];omega;show 3000<(y.out++ [c]).length+k;rw[VE,E];simp only[VJ,WE];omega;(have:Fd c y=y:=by unfold Fd;rw[if_neg e2]);rw[this,Fo _ _ _ e2];exact e2;rw[Fo _ _ _ e];exact e
theorem GH (row:List Bool)(u:US)(I:u.out.length<=3000)(F:(ustored row u).e=0):Cj row u=ustored row u:=by have E:ustored row u=ustore row (Cl row u).1 (Cl row u).2:=rfl;(have H:(Cl row u).2.out=u.out:=by unfold Cl;dsimp only;split;(. unfold Am;split;show (uget row 16 _).2.out=_;rw[Cm,Cm];rw[Cm,Cm]);rw[Cm,Cm]);unfold Cj;dsimp only;rw[if_neg,E];rintro ⟨_,G⟩;rw[E]at F;exact Ro row _ _ (by rw[H];exact I) G F
def US0:US:= {p:=0,out:= [],ks:= [],e:=0}
def Me (row:List Bool)(lb:List Int)(u:US):Nat×US:=
 if (uplace lb row u).2.e≠0 then (0,(uplace lb row u).2)
 else if 29<(uplace lb row u).1 then (0,{(uplace lb row u).2 with e:=8})
 else ((Dg (uplace lb row u).1).1+(uget row (Dg (uplace lb row u).1).2 (uplace lb row u).2).1,(uget row (Dg (uplace lb row u).1).2 (uplace lb row u).2).2)
theorem CA (l:List Int)(row:List Bool)(p:Nat)(E:p<=row.length):∀f n,p+(Ej l row p f n).2.1<=row.length
 |0,n=>by simpa[Ej]using E
 |f+1,n=>by unfold Ej;split;simpa using E;. split;show p+n<=row.length;omega;exact CA l row p E f (n+1)
theorem Ix (l:List Int)(row:List Bool)(u:US)(E:u.p<=row.length):(uplace l row u).2.p<=row.length:=by unfold uplace;split;exact CA l row u.p E 15 1;exact E
def Co (row:List Bool)(lb:List Int)(k:Nat)(u:US):US:=
 if k<256 then (if 3000<u.out.length+1 then {u with e:=2}else {u with out:=u.out++ [k]})
 else if 285<k then {u with e:=8}
 else if (uget row (Df k).2 u).2.e≠0 then (uget row (Df k).2 u).2
 else if (Me row lb (uget row (Df k).2 u).2).2.e≠0 then (Me row lb (uget row (Df k).2 u).2).2
 else Jh (Me row lb (uget row (Df k).2 u).2).1 ((Df k).1+(uget row (Df k).2 u).1) (Me row lb (uget row (Df k).2 u).2).2
def GE (row:List Bool)(la lb:List Int):Nat->Nat->US->US
 |0,_,u=>u
 |f+1,k,u=>if k=256 then u
  else if (Co row lb k u).e≠0 then Co row lb k u
  else if (uplace la row (Co row lb k u)).2.e≠0 then (uplace la row (Co row lb k u)).2
  else GE row la lb f (uplace la row (Co row lb k u)).1 (uplace la row (Co row lb k u)).2
def Hk (row:List Bool)(la lb:List Int)(f:Nat)(u:US):US:=
 if (uplace la row u).2.e≠0 then (uplace la row u).2 else GE row la lb f (uplace la row u).1 (uplace la row u).2
theorem Gm (l:List Int)(row:List Bool)(u:US):(uplace l row u).2.out=u.out/\(uplace l row u).2.ks=u.ks/\u.p<=(uplace l row u).2.p:=by unfold uplace;split;exact⟨rfl,rfl,ZS _ _⟩;exact⟨rfl,rfl,VB _⟩
theorem R0 (row:List Bool)(n:Nat)(u:US):u.p<=(uget row n u).2.p:=by unfold uget;split;(. split;exact VB _;exact ZS _ _);exact VB _
theorem Vm (row:List Bool)(l:List Int)(u:US)(I:u.p<=row.length):(Me row l u).2.out=u.out/\(Me row l u).2.ks=u.ks/\u.p<=(Me row l u).2.p/\(Me row l u).2.p<=row.length:=by obtain⟨H,E,F⟩:=Gm l row u;have G:=Ix l row u I;unfold Me;split;exact⟨H,E,F,G⟩;. split;exact⟨H,E,F,G⟩;exact⟨(Cm row _ _).trans H,(Ic row _ _).trans E,VU F (R0 _ _ _),Gr row _ _ G⟩
theorem Ru (d k:Nat)(u:US)(E:(Jh d k u).e=0):(Jh d k u).p=u.p/\(Jh d k u).ks=u.ks/\(u.out.length<=3000->(Jh d k u).out.length<=3000):=by unfold Jh at E ⊢;split;(. rename_i hc;rw[if_pos hc]at E;exact absurd (show (9:Int)=0 from E) od);. rename_i hc;rw[if_neg hc]at E;split;(. rename_i F;rw[if_pos F]at E;exact absurd (show (2:Int)=0 from E) od);. rename_i F;rw[if_neg F]at E;exact R2 E
theorem Vg (l:List Int)(row:List Bool)(p:Nat):∀f n,1<=n->(Ej l row p f n).2.2=0->1<=(Ej l row p f n).2.1
 |0,n,_,h=>absurd (show (8:Int)=0 from h) od
 |f+1,n,hn,h=>by unfold Ej at h ⊢;split;(. rename_i hc;rw[if_pos hc]at h;exact absurd (show (7:Int)=0 from h) od);. rename_i hc;rw[if_neg hc]at h;split;exact hn;. rename_i E;rw[E]at h;exact Vg l row p f (n+1) om h
theorem KE (l:List Int)(row:List Bool)(u:US)(F:u.e=0)(E:(uplace l row u).2.e=0):u.p<(uplace l row u).2.p:=by unfold uplace at E ⊢;rw[if_pos F]at E ⊢;have:=Vg l row u.p 15 1 (VB _) E;show u.p<u.p+(Lt l row u.p).2.1;unfold Lt;omega
end Go.Proofs.YtleocpdblhbimaaGreatDoor
