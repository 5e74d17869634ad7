import Derived.Test.YtieianhejdcgdaaGreatDoorQ26
import Derived.Shelf.Abstract
import Derived.Deep.DeepCutAuto
set_option maxHeartbeats 4000000
namespace Go.Proofs.YtieianhejdcgdaaGreatDoor
open Go.RowKit
set_option linter.unusedVariables false
set_option maxRecDepth 100000
def Q6 (l:List Int):Nat->Nat
 |0=>0
 |k+1=>Q6 l k+(if 0<l.getD k 0 then 2^(15-(l.getD k 0).toNat)else 0)
theorem Ke (l:List Int)(hok:∀j,j<l.length->0<=l.getD j 0/\l.getD j 0<=15):∀k,k<=l.length->Q6 l k=takenN (cnt (l.take k)) 15
 |0,_=>by
  show 0=takenN (cnt []) 15
  decide
 |k+1,hk=>by
  have ih:=Ke l hok k (by omega);have hkl:k<l.length:=by omega
  obtain⟨m,hm⟩:=WD (hok k hkl).1;have h15:=(hok k hkl).2;rw[Q6,ih,<-Jr l hkl hm,hm];rw[hm]at h15
  by_cases h0:m=0
  . subst h0;rw[Ty];simp
  . rw[Zf _ m (by omega) (by omega) 15 (by omega),if_pos (show (0:Int)<(m:Int) by omega),if_pos (by omega),WL]
end Go.Proofs.YtieianhejdcgdaaGreatDoor
namespace Go.Proofs.YtieianhejdcgdaaGreatDoor
open Go.RowKit
set_option linter.unusedVariables false
theorem KK {l:List Int}{P:List Nat}{m:Nat}(hG:GoodW l m)(hP:RiseOf l P)(hn:2<=P.length):takenN (cnt (Cl l P m)) 15=32768:=by
 have hm15:=hG.hi;have hle:∀j,0<=(Cl l P m).getD j 0/\(Cl l P m).getD j 0<=15:=fun j=>by have:=Wz hG hP j;omega
 have h2:=Ke (Cl l P m) (fun j _=>hle j) (Cl l P m).length (VC _);rw[List.take_length,Hp]at h2;rw[<-h2];have hk:=EG hG hP hn
 have h3:∀A B:List Nat,Gx (A++B)=Gx A+Gx B:=by
  intro A B
  induction A with
  |nil=>simp[Gx]
  |cons x A ih=>rw[XJ,Gx,Gx,ih];omega
 have h4:∀k,k<=l.length->Q6 (Cl l P m) k=Gx ((wpl l k).map fun p=>2^(15-((Cl l P m).getD p 0).toNat)):=by
  intro k
  induction k with
  |zero=>intro _;rfl
  |succ k ih=>
   intro hk;rw[wpl,XO,h3,Q6,ih (by omega)];have hx:=Wz hG hP k
   by_cases h:0<l.getD k 0
   . rw[if_pos h,if_pos (hx.2.2.2 ((hP.mem k).2 ⟨by omega,h⟩))];simp[Gx]
   . rw[if_neg h,if_neg (fun h5=>h ((hP.mem k).1 (hx.2.2.1 h5)).2)];simp[Gx]
 rw[h4 l.length (VC _),<-LK (hP.perm.map _)]
 have e:(P.map fun p=>2^(15-((Cl l P m).getD p 0).toNat))=P.map fun p=>2^(15-m)*2^(m-((Cl l P m).getD p 0).toNat):=by
  apply YI
  intro p hp;have:=Wz hG hP p
  rw[<-Nat.pow_add]
  congr 1
  omega
 rw[e,SM,hk,<-Nat.pow_add,show 15-m+m=15 by omega]
end Go.Proofs.YtieianhejdcgdaaGreatDoor
namespace Go.Proofs.YtieianhejdcgdaaGreatDoor
set_option linter.unusedVariables false
set_option maxRecDepth 100000
theorem Fh (l:List Int)(hG:Good l)(q:Nat):(An l q).length=(l.getD q 0).toNat:=by unfold An;rw[Bi]
def Z5f (n:Nat):Bool:=decide (257<=(Cd n).1/\(Cd n).1<=285/\(samesL.getD ((Cd n).1-257) (0,0)).2=(Cd n).2.2/\(samesL.getD ((Cd n).1-257) (0,0)).1+(Cd n).2.1=n/\(Cd n).2.1<2^(Cd n).2.2/\(Cd n).2.2<=5/\(n<=10->(Cd n).2.2=0))
def Z6z (d:Nat):Bool:=decide ((Id d).1<=29/\(farsL.getD (Id d).1 (0,0)).2=(Id d).2.2/\(farsL.getD (Id d).1 (0,0)).1+(Id d).2.1=d/\(Id d).2.1<2^(Id d).2.2/\(Id d).2.2<=10)
theorem SS:(List.range 256).all (fun n=>Z5f (n+3))=true:=by decide+kernel
theorem Z3m:(List.range 3000).all (fun d=>Z6z (d+1))=true:=by decide+kernel
theorem LS {n:Nat}(h3:3<=n)(h:n<=258):257<=(Cd n).1/\(Cd n).1<=285/\(samesL.getD ((Cd n).1-257) (0,0)).2=(Cd n).2.2/\(samesL.getD ((Cd n).1-257) (0,0)).1+(Cd n).2.1=n/\(Cd n).2.1<2^(Cd n).2.2/\(Cd n).2.2<=5/\(n<=10->(Cd n).2.2=0):=by
 have:=WS.1 SS (n-3) (by simp;omega)
 rw[show n-3+3=n by omega]at this;exact of_decide_eq_true this
theorem Z18 {d:Nat}(h1:1<=d)(h:d<=3000):(Id d).1<=29/\(farsL.getD (Id d).1 (0,0)).2=(Id d).2.2/\(farsL.getD (Id d).1 (0,0)).1+(Id d).2.1=d/\(Id d).2.1<2^(Id d).2.2/\(Id d).2.2<=10:=by
 have:=WS.1 Z3m (d-1) (by simp;omega)
 rw[show d-1+1=d by omega]at this;exact of_decide_eq_true this
def Has (a b:List Int)(is:List It):Prop:=(∀k,It.sym k∈is->k<a.length/\0<a.getD k 0)/\(∀k,It.far k∈is->k<b.length/\0<b.getD k 0)
theorem Has.app {a b:List Int}{x y:List It}(h:Has a b (x++y)):Has a b x/\Has a b y:=
 ⟨⟨fun k hk=>h.1 k (by simp[hk]),fun k hk=>h.2 k (by simp[hk])⟩,⟨fun k hk=>h.1 k (by simp[hk]),fun k hk=>h.2 k (by simp[hk])⟩⟩
theorem Qq (a b:List Int)(x y:List It):putIs a b (x++y)=putIs a b x++putIs a b y:=by simp[putIs]
def HasR (own:List Int)(is:List (Nat×Nat×Nat)):Prop:=∀i∈is,i.1<own.length/\0<own.getD i.1 0
theorem Jj (own:List Int)(hG:Good own)(i:Nat×Nat×Nat):(DU own i).length=(An own i.1).length+i.2.2:=by unfold DU;rw[VB,Ae]
theorem Em (own:List Int)(i:Nat×Nat×Nat)(is:List (Nat×Nat×Nat)):putRs own (i::is)=DU own i++putRs own is:=by simp[putRs]
theorem Ld (own:List Int)(x y:List (Nat×Nat×Nat)):putRs own (x++y)=putRs own x++putRs own y:=by simp[putRs]
theorem HasR.app {own:List Int}{x y:List (Nat×Nat×Nat)}(h:HasR own (x++y)):HasR own x/\HasR own y:=⟨fun i hi=>h i (by simp[hi]),fun i hi=>h i (by simp[hi])⟩
theorem Pf (x:Int):∀r:List Int,Bm x r<=r.length
 | []=>VC _
 |y::r=>by
  rw[Bm];have:=Pf x r
  split<;>simp<;>omega
theorem E8 (x:Int):∀r:List Int,r=List.replicate (Bm x r) x++r.drop (Bm x r)
 | []=>rfl
 |y::r=>by
  rw[Bm]
  by_cases e:y=x
  . subst e;rw[if_pos rfl,YV,List.drop_succ_cons,XJ,<-E8 y r]
  . rw[if_neg e];rfl
theorem Z43 (xs:List Int)(p j:Nat):(Sp xs p).getD j 0=xs.getD j 0+(if j=p/\p<xs.length then 1 else 0):=by
 unfold Sp
 by_cases e:j=p
 . subst e
   by_cases h:j<xs.length
   . simp[List.getD,h]
   . simp[List.getD,h]
 . simp only[List.getD];rw[List.getElem?_set_ne (Ne.symm e),if_neg (fun h=>e h.1)];omega
theorem Gr:∀(ps:List Nat) (xs:List Int) (j:Nat),j<xs.length->(Cj xs ps).getD j 0=xs.getD j 0+(ps.count j:Nat)
 | [],xs,j,h=>by simp[Cj]
 |p::ps,xs,j,h=>by
  show (Cj (Sp xs p) ps).getD j 0=_
  rw[Gr ps _ j (by rw[Km];exact h),Z43,List.count_cons]
  by_cases e:j=p
  . subst e;simp[h]
    omega
  . have e2:¬p=j:=fun h=>e h.symm
    simp[e,e2]
theorem Hg (n j:Nat):(List.replicate n (0:Int)).getD j 0=0:=by by_cases h:j<n<;>simp[List.getD,h]
theorem Ni (n m:Nat)(ps:List Nat)(hn:n<=288)(hp:ps.length<=1000000)(hm:1<=m)(hm2:m<=15)(hr:n<=2^m):GoodW (Cj (List.replicate n 0) ps) m:=by
 have hl:(Cj (List.replicate n (0:Int)) ps).length=n:=by rw[Bo];simp
 refine⟨by omega, ?_,hm,hm2, ?_⟩
 . intro j hj;rw[Gr ps _ j (by simp;omega),Hg];have:=YE (a:=j) (l:=ps)
   omega
 . have:=Pt (Cj (List.replicate n 0) ps) (Cj (List.replicate n (0:Int)) ps).length
   omega
theorem SX {l:List Int}{m:Nat}{s:List Int}(h:IsLens l m s):lensD l m=s:=by
 have h2:IsLens l m (lensD l m):=Classical.epsilon_spec (p:=fun s=>IsLens l m s) ⟨s,h⟩;obtain⟨P,hP,e⟩:=h;obtain⟨Q,hQ,e2⟩:=h2;rw[e2,e,hP.one hQ]
theorem Ir {l:List Int}{m:Nat}{s:List Int}(hG:GoodW l m)(hs:IsLens l m s):Good s/\s.length=l.length/\(∀p,0<=s.getD p 0/\s.getD p 0<=m)/\∀p,p<l.length->0<l.getD p 0->0<s.getD p 0:=by
 obtain⟨P,hP,rfl⟩:=hs;have hlen:=Hp l P m;have hl:=hG.len;have hm15:=hG.hi;have hok:=Wz hG hP;refine⟨⟨by omega,fun j hj=>by have:=hok j;omega, ?_⟩,hlen,fun p=>⟨(hok p).1,(hok p).2.1⟩,fun p h1 h2=>(hok p).2.2.2 ((hP.mem p).2 ⟨h1,h2⟩)⟩
 by_cases hn:2<=P.length
 . rw[KK hG hP hn];exact VC _
 . have h2:=Ke (Cl l P m) (fun j _=>by have:=hok j;omega) (Cl l P m).length (VC _);rw[List.take_length,Hp]at h2;rw[<-h2]
   have h4:∀k,k<=l.length->Q6 (Cl l P m) k<=(wpl l k).length*16384:=by
    intro k
    induction k with
    |zero=>intro _;exact VC _
    |succ k ih=>
     intro hk;have:=ih (by omega)
     rw[wpl,VB,Q6];have hx:=hok k
     by_cases h:0<l.getD k 0
     . have h1:=hx.2.2.2 ((hP.mem k).2 ⟨by omega,h⟩);rw[if_pos h,if_pos h1];have:2^(15-((Cl l P m).getD k 0).toNat)<=2^14:=VV (by decide) (by omega)
       simp only[VH,VQ];omega
     . rw[if_neg h,if_neg (fun h5=>h ((hP.mem k).1 (hx.2.2.1 h5)).2)];simp only[VQ];omega
   have h5:=h4 l.length (VC _);rw[<-hP.length]at h5;omega
theorem Ji (l:List Int)(least:Nat):∀n,Gv l least n<=n
 |0=>VC _
 |n+1=>by
  rw[Gv];have:=Ji l least n
  split<;>omega
theorem Vw (l:List Int)(least:Nat):∀n,least<=n->least<=Gv l least n
 |0,h=>h
 |n+1,h=>by
  rw[Gv]
  by_cases e:least<n+1/\l.getD n 0=0
  . rw[if_pos e];exact Vw l least n (by omega)
  . rw[if_neg e];exact h
theorem Tu (l:List Int)(least:Nat):∀n j,Gv l least n<=j->j<n->l.getD j 0=0
 |0,j,h1,h2=>by omega
 |n+1,j,h1,h2=>by
  rw[Gv]at h1
  by_cases e:least<n+1/\l.getD n 0=0
  . rw[if_pos e]at h1
    by_cases e2:j=n
    . subst e2;exact e.2
    . exact Tu l least n j h1 (by omega)
  . rw[if_neg e]at h1;omega
theorem Bz (l:List Int)(least:Nat):(trimL l least).length=Gv l least l.length:=by
 have:=Ji l least l.length
 simp[trimL];omega
theorem Oq (l:List Int)(least k:Nat):(trimL l least).getD k 0=l.getD k 0:=by
 have hl:=Bz l least
 by_cases h:k<Gv l least l.length
 . simp only[trimL,List.getD];rw[XM h]
 . have e1:(trimL l least).getD k 0=0:=by
    simp only[List.getD];rw[WA (by omega)];rfl
   rw[e1]
   by_cases h2:k<l.length
   . exact(Tu l least l.length k (by omega) h2).symm
   . simp only[List.getD];rw[WA (by omega)];rfl
theorem Qd {c d:Nat->Nat}(h:∀n,c n<=d n):∀k,takenN c k<=takenN d k
 |0=>VC _
 |k+1=>by
  rw[takenN,takenN];have h1:=Qd h k;have h2:=YQ (2^(14-k)) (h (k+1));omega
theorem Za {l:List Int}(hG:Good l)(least:Nat):Good (trimL l least):=by
 have hl:=Bz l least;have hle:=Ji l least l.length;refine⟨by have:=hG.len;omega,fun j hj=>by rw[Oq];exact hG.ok j (by omega), ?_⟩;refine VX (Qd (fun n=> ?_) 15) hG.room;unfold cnt trimL;exact(List.take_sublist _ _).count_le _
def VT (t:Tk):Prop:=t.1<256/\(t.2.1=0\/ (3<=t.2.1/\t.2.1<=258/\1<=t.2.2/\t.2.2<=3000))
theorem CH:∀(ts:List Tk) (n:Nat),Mh ts n=0->∀t∈ts,∃k,k<=3000/\Cu t k=0
 | [],n,h,t,ht=>by cases ht
 |t0::ts,n,h,t,ht=>by
  have he:Cu t0 n=0:=by
   rw[Mh]at h
   by_cases e:Cu t0 n=0
   . exact e
   . rw[if_neg e]at h;exact absurd h e
  rw[Mh,if_pos he]at h;have hz:=L4 h
  rcases VW.1 ht with rfl|ht
  . exact⟨n,by omega,he⟩
  . exact CH ts _ h t ht
theorem JF (bs:List Nat):∀m k,∀t∈tks bs m k,∃j,t=Od bs j
 |0,k,t,ht=>by cases ht
 |m+1,k,t,ht=>by
  rw[tks]at ht
  by_cases h:k<bs.length
  . rw[if_pos h]at ht
    rcases VW.1 ht with rfl|ht
    . exact⟨k,rfl⟩
    . exact JF bs m _ t ht
  . rw[if_neg h]at ht;cases ht
theorem Z2 (bs:List Nat)(h:bs.length<=3000):Mh (Dm bs) 0=0:=JI bs h bs.length 0 (VM _)
theorem Kb {bs:List Nat}(hb:∀j,bs.getD j 0<256)(h:bs.length<=3000):∀t∈Dm bs,VT t:=by
 intro t ht;obtain⟨j,rfl⟩:=JF bs _ _ t ht;obtain⟨k,h1,h2⟩:=CH _ _ (Z2 bs h) _ ht;refine⟨Z1w hb j, ?_⟩
 rcases Dv h2 with ⟨e1,_⟩|⟨_,e2,e3,e4,e5⟩
 . exact .inl e1
 . exact .inr ⟨e2,e3,e4,by omega⟩
def VI:It->Prop
 | .sym k=>k<286
 | .far k=>k<30
 | .rest n s=>n<2^s/\s<=10
theorem Z39 {t:Tk}(h:VT t):∀i∈Nu t,VI i:=by
 obtain⟨h0,h1⟩:=h;intro i hi;unfold Nu at hi
 rcases h1 with e|⟨e1,e2,e3,e4⟩
 . rw[if_pos e]at hi;simp only[VW,WV,or_false]at hi;subst hi;show t.1<286
   omega
 . rw[if_neg (by omega)]at hi;obtain⟨m1,m2,m3,m4,m5,m6,_⟩:=LS (n:=t.2.1.toNat) (by omega) (by omega);obtain⟨f1,f2,f3,f4,f5⟩:=Z18 (d:=t.2.2.toNat) (by omega) (by omega);simp only[VW,WV,or_false]at hi
   rcases hi with rfl|rfl|rfl|rfl
   . show _<286;omega
   . exact⟨m5,by omega⟩
   . show _<30;omega
   . exact⟨f4,f5⟩
theorem Hr {ts:List Tk}(h:∀t∈ts,VT t):∀i∈itsOf ts,VI i:=by
 intro i hi;unfold itsOf Oj at hi
 rcases VZ.1 hi with hi|hi
 . obtain⟨t,ht,hi⟩:=List.mem_flatMap.1 hi;exact Z39 (h t ht) i hi
 . simp only[VW,WV,or_false]at hi;subst hi;show 256<286
   decide
theorem TC (t:Tk):(Nu t).length<=4:=by unfold Nu;split<;>simp
theorem Gd:∀ts:List Tk,(itsOf ts).length<=4*ts.length+1
 | []=>by simp[itsOf,Oj]
 |t::ts=>by
  have e:itsOf (t::ts)=Nu t++itsOf ts:=by simp[itsOf,Oj]
  have:=Gd ts
  have:=TC t
  rw[e,VB,VH];omega
theorem SP {is:List It}{k:Nat}:k∈QZ is↔It.sym k∈is:=by
 unfold QZ;rw[List.mem_filterMap]
 constructor
 . rintro ⟨i,h1,h2⟩
   cases i with
   |sym q=>simp at h2;subst h2;exact h1
   |far q=>simp at h2
   |rest a b=>simp at h2
 . intro h;exact⟨_,h,rfl⟩
theorem SQ {is:List It}{k:Nat}:k∈TV is↔It.far k∈is:=by
 unfold TV;rw[List.mem_filterMap]
 constructor
 . rintro ⟨i,h1,h2⟩
   cases i with
   |far q=>simp at h2;subst h2;exact h1
   |sym q=>simp at h2
   |rest a b=>simp at h2
 . intro h;exact⟨_,h,rfl⟩
structure Dyn (ts:List Tk)(a b:List Int):Prop where
 ga:Good a
 gb:Good b
 la:257<=a.length
 la2:a.length<=286
 lb:1<=b.length
 lb2:b.length<=30
 has:Has a b (itsOf ts)
 end':0<a.getD 256 0
theorem Rl {l:List Int}{k:Nat}(h:0<l.getD k 0):k<l.length:=by
 rcases YO k l.length with e|e
 . exact e
 . simp only[List.getD]at h;rw[WA e]at h;simp at h
theorem Zk {ts:List Tk}(hl:ts.length<=3000):GoodW (symC (itsOf ts)) 15:=by
 refine Ni 286 15 _ (by decide) ?_ (by decide) (by decide) (by decide);have h2:=Gd ts;unfold QZ;exact VX (YT _ _) (by omega)
theorem I2 {ts:List Tk}(hl:ts.length<=3000):GoodW (farC (itsOf ts)) 15:=by
 refine Ni 30 15 _ (by decide) ?_ (by decide) (by decide) (by decide);have h2:=Gd ts;unfold TV;exact VX (YT _ _) (by omega)
theorem Kx (is:List It):(symC is).length=286:=by unfold symC;rw[Bo];simp
theorem Ma (is:List It):(farC is).length=30:=by unfold farC;rw[Bo];simp
theorem RA {is:List It}{k:Nat}(hk:k<286)(h:It.sym k∈is):0<(symC is).getD k 0:=by
 unfold symC;rw[Gr _ _ k (by simpa using hk),Hg];have:=List.count_pos_iff.2 (SP.2 h)
 omega
theorem TW {is:List It}{k:Nat}(hk:k<30)(h:It.far k∈is):0<(farC is).getD k 0:=by
 unfold farC;rw[Gr _ _ k (by simpa using hk),Hg];have:=List.count_pos_iff.2 (SQ.2 h)
 omega
theorem Z1a {ts:List Tk}{s f:List Int}(hv:∀t∈ts,VT t)(hl:ts.length<=3000)(hs:IsLens (symC (itsOf ts)) 15 s)(hf:IsLens (farC (itsOf ts)) 15 f):Dyn ts (trimL s 257) (trimL f 1):=by
 obtain⟨g1,l1,v1,p1⟩:=Ir (Zk hl) hs;obtain⟨g2,l2,v2,p2⟩:=Ir (I2 hl) hf;rw[Kx]at l1 p1;rw[Ma]at l2 p2;have hi:=Hr hv
 have hA:∀k,It.sym k∈itsOf ts->k<(trimL s 257).length/\0<(trimL s 257).getD k 0:=by
  intro k hk;have h286:k<286:=hi _ hk;have hpos:0<(trimL s 257).getD k 0:=by rw[Oq];exact p1 k h286 (RA h286 hk)
  exact⟨Rl hpos,hpos⟩
 have hB:∀k,It.far k∈itsOf ts->k<(trimL f 1).length/\0<(trimL f 1).getD k 0:=by
  intro k hk;have h30:k<30:=hi _ hk;have hpos:0<(trimL f 1).getD k 0:=by rw[Oq];exact p2 k h30 (TW h30 hk)
  exact⟨Rl hpos,hpos⟩
 have t1:=Vw s 257 s.length (by omega);have t2:=Ji s 257 s.length;have t3:=Vw f 1 f.length (by omega);have t4:=Ji f 1 f.length;refine⟨Za g1 257,Za g2 1, ?_, ?_, ?_, ?_,⟨hA,hB⟩,(hA 256 (by simp[itsOf])).2⟩
 . rw[Bz];exact t1
 . rw[Bz];omega
 . rw[Bz];exact t3
 . rw[Bz];omega
theorem Wc (x:Nat)(hx:x<=15):∀f m,∀i∈Ej x f m,i.1<19
 |0,m,i,h=>by cases h
 |f+1,m,i,h=>by
  rw[Ej]at h;have ih:=Wc x hx f
  split at h
  . cases h
  . split at h
    . rcases VW.1 h with rfl|h
      . simp only;omega
      . exact ih _ i h
    . split at h
      . rcases VW.1 h with rfl|h
        . show 16<19;decide
        . exact ih _ i h
      . split at h
        . rcases VW.1 h with rfl|h
          . show 17<19;decide
          . exact ih _ i h
        . rcases VW.1 h with rfl|h
          . show 18<19;decide
          . exact ih _ i h
theorem RM (x m:Nat)(hx:x<=15):∀i∈Mm x m,i.1<19:=by
 intro i h;unfold Mm at h
 split at h
 . rcases VW.1 h with rfl|h
   . simp only;omega
   . exact Wc x hx _ _ i h
 . exact Wc x hx _ _ i h
theorem Xa:∀(f:Nat) (l:List Int),(∀x∈l,0<=x/\x<=15)->∀i∈Oi f l,i.1<19
 |0,l,h,i,hi=>by cases hi
 |f+1,[],h,i,hi=>by cases hi
 |f+1,x::r,h,i,hi=>by
  have e:Oi (f+1) (x::r)=Mm x.toNat (Bm x r+1)++Oi f (r.drop (Bm x r)):=rfl;rw[e]at hi
  rcases VZ.1 hi with hi|hi
  . exact RM _ _ (by have:=h x (by simp);omega) i hi
  . exact Xa f _ (fun y hy=>h y (by simp[WB hy])) i hi
theorem Qo (own:List Int)(hG:Good own)(h7:∀k,own.getD k 0<=7)(x:Nat):∀f m,(putRs own (Ej x f m)).length<=7*m/\(Ej x f m).length<=m
 |0,m=>by rw[Ej];exact⟨VM _,VM _⟩
 |f+1,m=>by
  have hc:∀k,(An own k).length<=7:=fun k=>by rw[Fh own hG];have:=h7 k;omega
  have ih:=Qo own hG h7 x f;rw[Ej]
  split
  . exact⟨VM _,VM _⟩
  . split
    . have:=ih (m-1);have:=hc x;rw[Em,VB,Jj own hG,VH];simp only;omega
    . split
      . have:=ih (m-min m 6);have:=hc 16;rw[Em,VB,Jj own hG,VH];simp only;omega
      . split
        . have:=ih 0;have:=hc 17;rw[Em,VB,Jj own hG,VH];simp only;omega
        . have:=ih (m-min m 138);have:=hc 18;rw[Em,VB,Jj own hG,VH];simp only;omega
theorem KF (own:List Int)(hG:Good own)(h7:∀k,own.getD k 0<=7)(x m:Nat)(hm:1<=m):(putRs own (Mm x m)).length<=7*m/\(Mm x m).length<=m:=by
 have hc:∀k,(An own k).length<=7:=fun k=>by rw[Fh own hG];have:=h7 k;omega
 unfold Mm
 split
 . have:=Qo own hG h7 x m (m-1)
   have:=hc x
   rw[Em,VB,Jj own hG,VH];simp only
   omega
 . exact Qo own hG h7 x m m
theorem Lo (own:List Int)(hG:Good own)(h7:∀k,own.getD k 0<=7):∀(f:Nat) (l:List Int),(putRs own (Oi f l)).length<=7*l.length/\(Oi f l).length<=l.length
 |0,l=>by rw[Oi];exact⟨VM _,VM _⟩
 |f+1,[]=>⟨VM _,VM _⟩
 |f+1,x::r=>by
  have e:Oi (f+1) (x::r)=Mm x.toNat (Bm x r+1)++Oi f (r.drop (Bm x r)):=rfl;have h1:=KF own hG h7 x.toNat (Bm x r+1) (by omega);have h2:=Lo own hG h7 f (r.drop (Bm x r));have h3:=Pf x r;rw[VO]at h2;rw[e,Ld,VB,VB,VH];omega
theorem NH:Good (List.replicate 19 0):=by
 refine Ci ?_;decide+kernel
theorem D3 (all:List Int):(lenIs all).length<=all.length:=(Lo (List.replicate 19 0) NH (fun k=>by rw[Hg];decide) _ all).2
structure Own (all own:List Int):Prop where
 go:Good own
 lo:own.length=19
 vo:∀k,0<=own.getD k 0/\own.getD k 0<=7
 has:HasR own (lenIs all)
theorem Zu {all:List Int}(hl:all.length<=1000):GoodW (Yf (lenIs all)) 7:=by
 refine Ni 19 7 _ (by decide) ?_ (by decide) (by decide) (by decide);have:=D3 all
 simp
 omega
theorem Ov (is:List (Nat×Nat×Nat)):(Yf is).length=19:=by unfold Yf;rw[Bo];simp
theorem Z0w {all own:List Int}(hl:all.length<=1000)(hx:∀x∈all,0<=x/\x<=15)(hs:IsLens (Yf (lenIs all)) 7 own):Own all own:=by
 obtain⟨g1,l1,v1,p1⟩:=Ir (Zu hl) hs;rw[Ov]at l1 p1;refine⟨g1,l1,fun k=> ?_, ?_⟩
 . have:=v1 k
   simpa using this
 . intro i hi;have h19:=Xa _ all hx i hi;refine⟨by omega,p1 i.1 h19 ?_⟩;unfold Yf;rw[Gr _ _ i.1 (by simpa using h19),Hg];have:=List.count_pos_iff.2 (WY.2 ⟨i,hi,rfl⟩:i.1∈(lenIs all).map Prod.fst)
   omega
theorem Pg {l:List Int}(hG:Good l):∀x∈l,0<=x/\x<=15:=by
 intro x hm;obtain⟨j,hj,rfl⟩:=XC hm;have:=hG.ok j hj
 simpa[List.getD,hj]using this
end Go.Proofs.YtieianhejdcgdaaGreatDoor
namespace Go.Proofs.YtieianhejdcgdaaGreatDoor
open Go.RowKit
set_option linter.unusedVariables false
set_option maxRecDepth 100000
theorem Fw (x f:Nat):Ej x f 0= []:=by cases f<;>simp[Ej]
theorem Zt (x:Nat):∀m f,m<=f->Ej x f m=Ej x m m:=by
 intro m
 induction m using Nat.strongRecOn with
 |ind m ih=>
  intro f hf
  by_cases h0:m=0
  . subst h0;rw[Fw,Fw]
  . obtain⟨f',rfl⟩:∃f',f=f'+1:=⟨f-1,by omega⟩
    obtain⟨m',rfl⟩:∃m',m=m'+1:=⟨m-1,by omega⟩
    have t:∀c,0<c->Ej x f' (m'+1-c)=Ej x m' (m'+1-c):=fun c hc=>by rw[ih (m'+1-c) (by omega) f' (by omega),ih (m'+1-c) (by omega) m' (by omega)]
    rw[Ej,Ej,if_neg h0,if_neg h0,t 1 (by omega),t (min (m'+1) 6) (by omega),t (min (m'+1) 138) (by omega),Fw,Fw]
theorem KE (x q:Nat)(h0:0<q):Ej x q q=if q<3 then (x,0,0)::Ej x (q-1) (q-1)else if 0<x then (16,min q 6-3,2)::Ej x (q-min q 6) (q-min q 6)else if q<11 then (17,q-3,3)::Ej x (q-q) (q-q)else (18,min q 138-11,7)::Ej x (q-min q 138) (q-min q 138):=by
 obtain⟨q',rfl⟩:∃q',q=q'+1:=⟨q-1,by omega⟩
 have t:∀c,0<c->Ej x q' (q'+1-c)=Ej x (q'+1-c) (q'+1-c):=fun c hc=>Zt x _ _ (by omega)
 rw[Ej,if_neg (by omega),t 1 (by omega),t (min (q'+1) 6) (by omega),t (min (q'+1) 138) (by omega),XK,Fw,Fw]
structure Snk3 (J:List (Nat×Nat×Nat)->World->Prop)(Ki:World->World->Prop)(kf:Nat)(cf:Array Value)(all:List (Nat×Nat×Nat)):Prop where
 ef:∀(args:Array Value) (w:World),(callFunc kf args).run Tryz.prog w=.ok (.enter kf args) w
 step:∀ {is R:List (Nat×Nat×Nat)} {i:Nat×Nat×Nat} {W:World},is++i::R=all->J is W->Calls Tryz.prog kf (#[.int .i64 (i.1:Int),.int .i64 (i.2.1:Int),.int .i64 (i.2.2:Int)]++cf) W fun e W'=>e=.returned (.tuple #[])/\J (is++ [i]) W'/\Ki W W'
 refl:∀W,Ki W W
 jd:∀ {is:List (Nat×Nat×Nat)} {W:World} (q:Nat),J is W->J is (W.drewN q)
 kd:∀(W:World) (q:Nat),Ki W (W.drewN q)
 trans:∀ {a b c},Ki a b->Ki b c->Ki a c
theorem Qu (J:List (Nat×Nat×Nat)->World->Prop)(Ki:World->World->Prop)(kf:Nat)(cf:Array Value)(all:List (Nat×Nat×Nat))(hK:Snk3 J Ki kf cf all)(x m:Nat)(IS R:List (Nat×Nat×Nat))(w:World)(hx:x<=15)(hm:1<=m)(hm2:m<=1000)(he:IS++Mm x m++R=all)(hJ:J IS w):
 Calls Tryz.prog 271 #[.int .i64 (x:Int),.int .i64 (m:Int),.func (.func kf) #[] cf] w fun e w'=>e=.returned (.tuple #[])/\J (IS++Mm x m) w'/\Ki w w':=by
 have ef:=hK.ef;have HK:=Ab hK;have HJ:=Ab hJ;clear hK hJ;obtain⟨T,hT⟩:∃T,IS++Mm x m=T:=⟨_,rfl⟩
 rw[hT]at he;have HE:=Ab he;have HT:=Ab hT;clear he;rw[hT];clear hT;go_enter Tryz.func271,Tryz.ntmps271
 go_upto_if 8 with (fail)
 go_cut [1] (fun v wc=>∃(q:Nat) (IS2:List (Nat×Nat×Nat)),v=.int .i64 (q:Int)/\q<=1000/\Hid (J IS2 wc/\Ki w wc/\IS2++Ej x q q=T))
 case first=>
  by_cases h0:0<x
  . have h0I:(0:Int)<(x:Int):=by omega
    have hr:Mm x m=(x,0,0)::Ej x (m-1) (m-1):=by unfold Mm;rw[if_pos h0,Zt x _ _ (by omega)]
    have HS:=Ab ((Aa HK).step (is:=IS) (i:=(x,0,0)) (R:=Ej x (m-1) (m-1)++R) (W:=w) (by rw[<-Aa HE,<-Aa HT,hr];simp) (Aa HJ));have HT2:Hid (IS++ [(x,0,0)]++Ej x (m-1) (m-1)=T):=Ab (by rw[<-Aa HT,hr];simp);go_wp2_with fail
    refine(Aa HS).mono ?_;rintro e w1 ⟨rfl,hJ1,hK1⟩;have H1:=Ab (And.intro hJ1 hK1);clear hJ1 hK1;go_wp2
    all_goals go_meet
    all_goals exact⟨m-1,IS++ [(x,0,0)],by go_num,by omega,Ab ⟨(Aa H1).1,(Aa H1).2,Aa HT2⟩⟩
  . have h0I:¬(0:Int)<(x:Int):=by omega
    have hr:Mm x m=Ej x m m:=by unfold Mm;rw[if_neg h0]
    have HT2:Hid (IS++Ej x m m=T):=Ab (by rw[<-Aa HT,hr]);go_wp2
    all_goals go_meet
    all_goals exact⟨m,IS,rfl,hm2,Ab ⟨Aa HJ,(Aa HK).refl _,Aa HT2⟩⟩
 case rest=>
  obtain⟨q0,IS0,rfl,hq0,hst0⟩:=hcut;go_wp2_with fail
  go_loopw [1] (fun v wr=>∃(q:Nat) (IS2:List (Nat×Nat×Nat)),v=.int .i64 (q:Int)/\q<=1000/\Hid (J IS2 wr/\Ki w wr/\IS2++Ej x q q=T)) (fun v _=>(intOf v).toNat)
  case atStart=>exact⟨q0,IS0,rfl,hq0,hst0⟩
  case round=>
   obtain⟨q,IS2,rfl,hq,hst⟩:=hrel;obtain⟨j1,j2,j3⟩:=Aa hst
   by_cases h0:0<q
   . have h0I:(0:Int)<(q:Int):=by omega
     have hs:=KE x q h0
     have STEP:∀(i:Nat×Nat×Nat) (c:Nat),Ej x q q=i::Ej x (q-c) (q-c)->Hid (Calls Tryz.prog kf (#[.int .i64 (i.1:Int),.int .i64 (i.2.1:Int),.int .i64 (i.2.2:Int)]++cf) wr fun e W'=>e=.returned (.tuple #[])/\J (IS2++ [i]) W'/\Ki wr W')/\Hid (IS2++ [i]++Ej x (q-c) (q-c)=T):=by
      intro i c hc;refine⟨Ab ((Aa HK).step (is:=IS2) (i:=i) (R:=Ej x (q-c) (q-c)++R) (by rw[<-Aa HE,<-j3,hc];simp) j1),Ab (by rw[<-j3,hc];simp)⟩
     have HK2:=Ab j2;clear hst j1 j2 j3
     by_cases h3:q<3
     . rw[if_pos h3]at hs;obtain⟨S1,S2⟩:=STEP _ _ hs;have h3I:(q:Int)<3:=by omega
       clear STEP hs;go_wp2_with fail
       refine(Aa S1).mono ?_;rintro e w1 ⟨rfl,hJ1,hK1⟩;have H1:=Ab (And.intro hJ1 ((Aa HK).trans (Aa HK2) hK1));clear hJ1 hK1;go_wp2;go_roundw
       case rel=>exact⟨q-1,_,by go_num,by omega,Ab ⟨(Aa H1).1,(Aa H1).2,Aa S2⟩⟩
       case measure=>simp[intOf];omega
     . rw[if_neg h3]at hs;have h3I:¬(q:Int)<3:=by omega
       by_cases hx0:0<x
       . rw[if_pos hx0]at hs;have hxI:(0:Int)<(x:Int):=by omega
         rcases Nat.lt_trichotomy q 6 with h6|h6|h6
         . rw[show min q 6=q by omega]at hs;have h6I:(q:Int)<6:=by omega
           obtain⟨S1,S2⟩:=STEP _ _ hs;rw[show ((q-3:Nat):Int)=(q:Int)-3 by omega]at S1;clear STEP hs;go_wp2_with fail
           refine(Aa S1).mono ?_;rintro e w1 ⟨rfl,hJ1,hK1⟩;have H1:=Ab (And.intro hJ1 ((Aa HK).trans (Aa HK2) hK1));clear hJ1 hK1;go_wp2;go_roundw
           case rel=>exact⟨q-q,_,by go_num,by omega,Ab ⟨(Aa H1).1,(Aa H1).2,Aa S2⟩⟩
           case measure=>simp[intOf];omega
         . subst h6;obtain⟨S1,S2⟩:=STEP _ _ hs;clear STEP hs;go_wp2_with fail
           refine(Aa S1).mono ?_;rintro e w1 ⟨rfl,hJ1,hK1⟩;have H1:=Ab (And.intro hJ1 ((Aa HK).trans (Aa HK2) hK1));clear hJ1 hK1;go_wp2;go_roundw
           case rel=>exact⟨0,_,by go_num,by omega,Ab ⟨(Aa H1).1,(Aa H1).2,Aa S2⟩⟩
           case measure=>simp[intOf]
         . rw[show min q 6=6 by omega]at hs;have h6I:(6:Int)<(q:Int):=by omega
           obtain⟨S1,S2⟩:=STEP _ _ hs;clear STEP hs;go_wp2_with fail
           refine(Aa S1).mono ?_;rintro e w1 ⟨rfl,hJ1,hK1⟩;have H1:=Ab (And.intro hJ1 ((Aa HK).trans (Aa HK2) hK1));clear hJ1 hK1;go_wp2;go_roundw
           case rel=>exact⟨q-6,_,by go_num,by omega,Ab ⟨(Aa H1).1,(Aa H1).2,Aa S2⟩⟩
           case measure=>simp[intOf];omega
       . rw[if_neg hx0]at hs;have hxI:¬(0:Int)<(x:Int):=by omega
         by_cases h11:q<11
         . rw[if_pos h11]at hs;have h11I:(q:Int)<11:=by omega
           obtain⟨S1,S2⟩:=STEP _ _ hs;rw[show ((q-3:Nat):Int)=(q:Int)-3 by omega]at S1;clear STEP hs;go_wp2_with fail
           refine(Aa S1).mono ?_;rintro e w1 ⟨rfl,hJ1,hK1⟩;have H1:=Ab (And.intro hJ1 ((Aa HK).trans (Aa HK2) hK1));clear hJ1 hK1;go_wp2;go_roundw
           case rel=>exact⟨q-q,_,by go_num,by omega,Ab ⟨(Aa H1).1,(Aa H1).2,Aa S2⟩⟩
           case measure=>simp[intOf];omega
         . rw[if_neg h11]at hs;have h11I:¬(q:Int)<11:=by omega
           rcases Nat.lt_trichotomy q 138 with h6|h6|h6
           . rw[show min q 138=q by omega]at hs;have h6I:(q:Int)<138:=by omega
             obtain⟨S1,S2⟩:=STEP _ _ hs;rw[show ((q-11:Nat):Int)=(q:Int)-11 by omega]at S1;clear STEP hs;go_wp2_with fail
             refine(Aa S1).mono ?_;rintro e w1 ⟨rfl,hJ1,hK1⟩;have H1:=Ab (And.intro hJ1 ((Aa HK).trans (Aa HK2) hK1));clear hJ1 hK1;go_wp2;go_roundw
             case rel=>exact⟨q-q,_,by go_num,by omega,Ab ⟨(Aa H1).1,(Aa H1).2,Aa S2⟩⟩
             case measure=>simp[intOf];omega
           . subst h6;obtain⟨S1,S2⟩:=STEP _ _ hs;clear STEP hs;go_wp2_with fail
             refine(Aa S1).mono ?_;rintro e w1 ⟨rfl,hJ1,hK1⟩;have H1:=Ab (And.intro hJ1 ((Aa HK).trans (Aa HK2) hK1));clear hJ1 hK1;go_wp2;go_roundw
             case rel=>exact⟨0,_,by go_num,by omega,Ab ⟨(Aa H1).1,(Aa H1).2,Aa S2⟩⟩
             case measure=>simp[intOf]
           . rw[show min q 138=138 by omega]at hs;have h6I:(138:Int)<(q:Int):=by omega
             obtain⟨S1,S2⟩:=STEP _ _ hs;clear STEP hs;go_wp2_with fail
             refine(Aa S1).mono ?_;rintro e w1 ⟨rfl,hJ1,hK1⟩;have H1:=Ab (And.intro hJ1 ((Aa HK).trans (Aa HK2) hK1));clear hJ1 hK1;go_wp2;go_roundw
             case rel=>exact⟨q-138,_,by go_num,by omega,Ab ⟨(Aa H1).1,(Aa H1).2,Aa S2⟩⟩
             case measure=>simp[intOf];omega
   . obtain rfl:q=0:=by omega
     rw[Fw,WO]at j3;have HF:Hid (J T wr/\Ki w wr):=Ab ⟨by rw[<-j3];exact j1,j2⟩;clear hst j1 j2 j3;go_wp2;go_end0
     exact⟨rfl,Aa HF⟩
end Go.Proofs.YtieianhejdcgdaaGreatDoor
