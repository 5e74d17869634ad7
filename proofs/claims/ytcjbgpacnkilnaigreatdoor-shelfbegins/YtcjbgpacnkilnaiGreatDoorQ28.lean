import Derived.Test.YtcjbgpacnkilnaiGreatDoorQ2
import Derived.Test.YtcjbgpacnkilnaiGreatDoorQ27
import Derived.Test.YtcjbgpacnkilnaiGreatDoorQ20
import Derived.Test.YtcjbgpacnkilnaiGreatDoorQ1
import Derived.Shelf.Abstract
import Derived.Deep.DeepCutAuto
set_option maxHeartbeats 4000000
namespace Go.Proofs.YtcjbgpacnkilnaiGreatDoor
open Go.RowKit
set_option linter.unusedVariables false
set_option maxRecDepth 100000
def Z0f (l:List Int):Nat->Nat
 |0=>0
 |k+1=>Z0f l k+(if 0<l.getD k 0 then 2^(15-(l.getD k 0).toNat)else 0)
theorem Iw (l:List Int)(hok:∀j,j<l.length->0<=l.getD j 0/\l.getD j 0<=15):∀k,k<=l.length->Z0f l k=takenN (cnt (l.take k)) 15
 |0,_=>by
  show 0=takenN (cnt []) 15
  decide
 |k+1,hk=>by
  have ih:=Iw l hok k (by omega);have hkl:k<l.length:=by omega
  obtain⟨m,hm⟩:=Int.eq_ofNat_of_zero_le (hok k hkl).1;have h15:=(hok k hkl).2;rw[Z0f,ih,<-Ij l hkl hm,hm];rw[hm]at h15
  by_cases h0:m=0
  . subst h0;rw[Rj];simp
  . rw[Vz _ m (by omega) (by omega) 15 (by omega),if_pos (show (0:Int)<(m:Int) by omega),if_pos (by omega),Int.toNat_natCast]
end Go.Proofs.YtcjbgpacnkilnaiGreatDoor
namespace Go.Proofs.YtcjbgpacnkilnaiGreatDoor
open Go.RowKit
set_option linter.unusedVariables false
theorem Z81 {l:List Int}{P:List Nat}{m:Nat}(hG:GoodW l m)(hP:RiseOf l P)(hn:2<=P.length):takenN (cnt (Ce l P m)) 15=32768:=by
 have hm15:=hG.hi;have hle:∀j,0<=(Ce l P m).getD j 0/\(Ce l P m).getD j 0<=15:=fun j=>by have:=Tz hG hP j;omega
 have h2:=Iw (Ce l P m) (fun j _=>hle j) (Ce l P m).length (Nat.le_refl _);rw[List.take_length,Gv]at h2;rw[<-h2];have hk:=Z4v hG hP hn
 have h3:∀A B:List Nat,Fz (A++B)=Fz A+Fz B:=by
  intro A B
  induction A with
  |nil=>simp[Fz]
  |cons x A ih=>rw[List.cons_append,Fz,Fz,ih];omega
 have h4:∀k,k<=l.length->Z0f (Ce l P m) k=Fz ((wpl l k).map fun p=>2^(15-((Ce l P m).getD p 0).toNat)):=by
  intro k
  induction k with
  |zero=>intro _;rfl
  |succ k ih=>
   intro hk;rw[wpl,List.map_append,h3,Z0f,ih (by omega)];have hx:=Tz hG hP k
   by_cases h:0<l.getD k 0
   . rw[if_pos h,if_pos (hx.2.2.2 ((hP.mem k).2 ⟨by omega,h⟩))];simp[Fz]
   . rw[if_neg h,if_neg (fun h5=>h ((hP.mem k).1 (hx.2.2.1 h5)).2)];simp[Fz]
 rw[h4 l.length (Nat.le_refl _),<-Z8o (hP.perm.map _)]
 have e:(P.map fun p=>2^(15-((Ce l P m).getD p 0).toNat))=P.map fun p=>2^(15-m)*2^(m-((Ce l P m).getD p 0).toNat):=by
  apply List.map_congr_left
  intro p hp;have:=Tz hG hP p
  rw[<-Nat.pow_add]
  congr 1
  omega
 rw[e,Zd1,hk,<-Nat.pow_add,show 15-m+m=15 by omega]
end Go.Proofs.YtcjbgpacnkilnaiGreatDoor
namespace Go.Proofs.YtcjbgpacnkilnaiGreatDoor
set_option linter.unusedVariables false
set_option maxRecDepth 100000
theorem Ni (l:List Int)(hG:Good l)(q:Nat):(Bj l q).length=(l.getD q 0).toNat:=by unfold Bj;rw[Ci]
def Zip (n:Nat):Bool:=decide (257<=(Cm n).1/\(Cm n).1<=285/\(Z2c.getD ((Cm n).1-257) (0,0)).2=(Cm n).2.2/\(Z2c.getD ((Cm n).1-257) (0,0)).1+(Cm n).2.1=n/\(Cm n).2.1<2^(Cm n).2.2/\(Cm n).2.2<=5/\(n<=10->(Cm n).2.2=0))
def Zk5 (d:Nat):Bool:=decide ((Km d).1<=29/\(Zds.getD (Km d).1 (0,0)).2=(Km d).2.2/\(Zds.getD (Km d).1 (0,0)).1+(Km d).2.1=d/\(Km d).2.1<2^(Km d).2.2/\(Km d).2.2<=10)
theorem Zd7:(List.range 256).all (fun n=>Zip (n+3))=true:=by decide+kernel
theorem Zh0:(List.range 3000).all (fun d=>Zk5 (d+1))=true:=by decide+kernel
theorem Zgi {n:Nat}(h3:3<=n)(h:n<=258):257<=(Cm n).1/\(Cm n).1<=285/\(Z2c.getD ((Cm n).1-257) (0,0)).2=(Cm n).2.2/\(Z2c.getD ((Cm n).1-257) (0,0)).1+(Cm n).2.1=n/\(Cm n).2.1<2^(Cm n).2.2/\(Cm n).2.2<=5/\(n<=10->(Cm n).2.2=0):=by
 have:=List.all_eq_true.1 Zd7 (n-3) (by simp;omega)
 rw[show n-3+3=n by omega]at this;exact of_decide_eq_true this
theorem Zj8 {d:Nat}(h1:1<=d)(h:d<=3000):(Km d).1<=29/\(Zds.getD (Km d).1 (0,0)).2=(Km d).2.2/\(Zds.getD (Km d).1 (0,0)).1+(Km d).2.1=d/\(Km d).2.1<2^(Km d).2.2/\(Km d).2.2<=10:=by
 have:=List.all_eq_true.1 Zh0 (d-1) (by simp;omega)
 rw[show d-1+1=d by omega]at this;exact of_decide_eq_true this
def Has (a b:List Int)(is:List It):Prop:=(∀k,It.sym k∈is->k<a.length/\0<a.getD k 0)/\(∀k,It.far k∈is->k<b.length/\0<b.getD k 0)
theorem Has.app {a b:List Int}{x y:List It}(h:Has a b (x++y)):Has a b x/\Has a b y:=
 ⟨⟨fun k hk=>h.1 k (by simp[hk]),fun k hk=>h.2 k (by simp[hk])⟩,⟨fun k hk=>h.1 k (by simp[hk]),fun k hk=>h.2 k (by simp[hk])⟩⟩
theorem Z85 (a b:List Int)(x y:List It):putIs a b (x++y)=putIs a b x++putIs a b y:=by simp[putIs]
def HasR (own:List Int)(is:List (Nat×Nat×Nat)):Prop:=∀i∈is,i.1<own.length/\0<own.getD i.1 0
theorem Jr (own:List Int)(hG:Good own)(i:Nat×Nat×Nat):(Zfz own i).length=(Bj own i.1).length+i.2.2:=by unfold Zfz;rw[List.length_append,Af]
theorem Ge (own:List Int)(i:Nat×Nat×Nat)(is:List (Nat×Nat×Nat)):putRs own (i::is)=Zfz own i++putRs own is:=by simp[putRs]
theorem Oj (own:List Int)(x y:List (Nat×Nat×Nat)):putRs own (x++y)=putRs own x++putRs own y:=by simp[putRs]
theorem Uj (x:Int):∀r:List Int,Cb x r<=r.length
 | []=>Nat.le_refl _
 |y::r=>by
  rw[Cb];have:=Uj x r
  split<;>simp<;>omega
theorem Zhd (xs:List Int)(p j:Nat):(Qa xs p).getD j 0=xs.getD j 0+(if j=p/\p<xs.length then 1 else 0):=by
 unfold Qa
 by_cases e:j=p
 . subst e
   by_cases h:j<xs.length
   . simp[List.getD,h]
   . simp[List.getD,h]
 . simp only[List.getD];rw[List.getElem?_set_ne (Ne.symm e),if_neg (fun h=>e h.1)];omega
theorem Fq:∀(ps:List Nat) (xs:List Int) (j:Nat),j<xs.length->(Cc xs ps).getD j 0=xs.getD j 0+(ps.count j:Nat)
 | [],xs,j,h=>by simp[Cc]
 |p::ps,xs,j,h=>by
  show (Cc (Qa xs p) ps).getD j 0=_
  rw[Fq ps _ j (by rw[Je];exact h),Zhd,List.count_cons]
  by_cases e:j=p
  . subst e;simp[h]
    omega
  . have e2:¬p=j:=fun h=>e h.symm
    simp[e,e2]
theorem Hi (n j:Nat):(List.replicate n (0:Int)).getD j 0=0:=by by_cases h:j<n<;>simp[List.getD,h]
theorem Lr (n m:Nat)(ps:List Nat)(hn:n<=288)(hp:ps.length<=1000000)(hm:1<=m)(hm2:m<=15)(hr:n<=2^m):GoodW (Cc (List.replicate n 0) ps) m:=by
 have hl:(Cc (List.replicate n (0:Int)) ps).length=n:=by rw[Bh];simp
 refine⟨by omega, ?_,hm,hm2, ?_⟩
 . intro j hj;rw[Fq ps _ j (by simp;omega),Hi];have:=List.count_le_length (a:=j) (l:=ps)
   omega
 . have:=Nl (Cc (List.replicate n 0) ps) (Cc (List.replicate n (0:Int)) ps).length
   omega
theorem Zdc {l:List Int}{m:Nat}{s:List Int}(h:IsLens l m s):lensD l m=s:=by
 have h2:IsLens l m (lensD l m):=Classical.epsilon_spec (p:=fun s=>IsLens l m s) ⟨s,h⟩;obtain⟨P,hP,e⟩:=h;obtain⟨Q,hQ,e2⟩:=h2;rw[e2,e,hP.one hQ]
theorem Hr {l:List Int}{m:Nat}{s:List Int}(hG:GoodW l m)(hs:IsLens l m s):Good s/\s.length=l.length/\(∀p,0<=s.getD p 0/\s.getD p 0<=m)/\∀p,p<l.length->0<l.getD p 0->0<s.getD p 0:=by
 obtain⟨P,hP,rfl⟩:=hs;have hlen:=Gv l P m;have hl:=hG.len;have hm15:=hG.hi;have hok:=Tz hG hP;refine⟨⟨by omega,fun j hj=>by have:=hok j;omega, ?_⟩,hlen,fun p=>⟨(hok p).1,(hok p).2.1⟩,fun p h1 h2=>(hok p).2.2.2 ((hP.mem p).2 ⟨h1,h2⟩)⟩
 by_cases hn:2<=P.length
 . rw[Z81 hG hP hn];exact Nat.le_refl _
 . have h2:=Iw (Ce l P m) (fun j _=>by have:=hok j;omega) (Ce l P m).length (Nat.le_refl _);rw[List.take_length,Gv]at h2;rw[<-h2]
   have h4:∀k,k<=l.length->Z0f (Ce l P m) k<=(wpl l k).length*16384:=by
    intro k
    induction k with
    |zero=>intro _;exact Nat.le_refl _
    |succ k ih=>
     intro hk;have:=ih (by omega)
     rw[wpl,List.length_append,Z0f];have hx:=hok k
     by_cases h:0<l.getD k 0
     . have h1:=hx.2.2.2 ((hP.mem k).2 ⟨by omega,h⟩);rw[if_pos h,if_pos h1];have:2^(15-((Ce l P m).getD k 0).toNat)<=2^14:=Nat.pow_le_pow_right (by decide) (by omega)
       simp only[List.length_cons,List.length_nil];omega
     . rw[if_neg h,if_neg (fun h5=>h ((hP.mem k).1 (hx.2.2.1 h5)).2)];simp only[List.length_nil];omega
   have h5:=h4 l.length (Nat.le_refl _);rw[<-hP.length]at h5;omega
theorem Ib (l:List Int)(least:Nat):∀n,Fu l least n<=n
 |0=>Nat.le_refl _
 |n+1=>by
  rw[Fu];have:=Ib l least n
  split<;>omega
theorem Tb (l:List Int)(least:Nat):∀n,least<=n->least<=Fu l least n
 |0,h=>h
 |n+1,h=>by
  rw[Fu]
  by_cases e:least<n+1/\l.getD n 0=0
  . rw[if_pos e];exact Tb l least n (by omega)
  . rw[if_neg e];exact h
theorem Rf (l:List Int)(least:Nat):∀n j,Fu l least n<=j->j<n->l.getD j 0=0
 |0,j,h1,h2=>by omega
 |n+1,j,h1,h2=>by
  rw[Fu]at h1
  by_cases e:least<n+1/\l.getD n 0=0
  . rw[if_pos e]at h1
    by_cases e2:j=n
    . subst e2;exact e.2
    . exact Rf l least n j h1 (by omega)
  . rw[if_neg e]at h1;omega
theorem Br (l:List Int)(least:Nat):(trimL l least).length=Fu l least l.length:=by
 have:=Ib l least l.length
 simp[trimL];omega
theorem Mo (l:List Int)(least k:Nat):(trimL l least).getD k 0=l.getD k 0:=by
 have hl:=Br l least
 by_cases h:k<Fu l least l.length
 . simp only[trimL,List.getD];rw[List.getElem?_take_of_lt h]
 . have e1:(trimL l least).getD k 0=0:=by
    simp only[List.getD];rw[List.getElem?_eq_none (by omega)];rfl
   rw[e1]
   by_cases h2:k<l.length
   . exact(Rf l least l.length k (by omega) h2).symm
   . simp only[List.getD];rw[List.getElem?_eq_none (by omega)];rfl
theorem Ny {c d:Nat->Nat}(h:∀n,c n<=d n):∀k,takenN c k<=takenN d k
 |0=>Nat.le_refl _
 |k+1=>by
  rw[takenN,takenN];have h1:=Ny h k;have h2:=Nat.mul_le_mul_right (2^(14-k)) (h (k+1));omega
theorem Vu {l:List Int}(hG:Good l)(least:Nat):Good (trimL l least):=by
 have hl:=Br l least;have hle:=Ib l least l.length;refine⟨by have:=hG.len;omega,fun j hj=>by rw[Mo];exact hG.ok j (by omega), ?_⟩;refine Nat.le_trans (Ny (fun n=> ?_) 15) hG.room;unfold cnt trimL;exact(List.take_sublist _ _).count_le _
def VT (t:Tk):Prop:=t.1<256/\(t.2.1=0\/ (3<=t.2.1/\t.2.1<=258/\1<=t.2.2/\t.2.2<=3000))
theorem Z3r:∀(ts:List Tk) (n:Nat),Z6l ts n=0->∀t∈ts,∃k,k<=3000/\Gj t k=0
 | [],n,h,t,ht=>by cases ht
 |t0::ts,n,h,t,ht=>by
  have he:Gj t0 n=0:=by
   rw[Z6l]at h
   by_cases e:Gj t0 n=0
   . exact e
   . rw[if_neg e]at h;exact absurd h e
  rw[Z6l,if_pos he]at h;have hz:=Zas h
  rcases List.mem_cons.1 ht with rfl|ht
  . exact⟨n,by omega,he⟩
  . exact Z3r ts _ h t ht
theorem Z7c (bs:List Nat):∀m k,∀t∈tks bs m k,∃j,t=Nv bs j
 |0,k,t,ht=>by cases ht
 |m+1,k,t,ht=>by
  rw[tks]at ht
  by_cases h:k<bs.length
  . rw[if_pos h]at ht
    rcases List.mem_cons.1 ht with rfl|ht
    . exact⟨k,rfl⟩
    . exact Z7c bs m _ t ht
  . rw[if_neg h]at ht;cases ht
theorem Zc0 (bs:List Nat)(h:bs.length<=3000):Z6l (Ff bs) 0=0:=Z7e bs h bs.length 0 (Nat.zero_le _)
theorem Tc {bs:List Nat}(hb:∀j,bs.getD j 0<256)(h:bs.length<=3000):∀t∈Ff bs,VT t:=by
 intro t ht;obtain⟨j,rfl⟩:=Z7c bs _ _ t ht;obtain⟨k,h1,h2⟩:=Z3r _ _ (Zc0 bs h) _ ht;refine⟨Zff hb j, ?_⟩
 rcases Hv h2 with ⟨e1,_⟩|⟨_,e2,e3,e4,e5⟩
 . exact .inl e1
 . exact .inr ⟨e2,e3,e4,by omega⟩
def VI:It->Prop
 | .sym k=>k<286
 | .far k=>k<30
 | .rest n s=>n<2^s/\s<=10
theorem Zgp {t:Tk}(h:VT t):∀i∈Z51 t,VI i:=by
 obtain⟨h0,h1⟩:=h;intro i hi;unfold Z51 at hi
 rcases h1 with e|⟨e1,e2,e3,e4⟩
 . rw[if_pos e]at hi;simp only[List.mem_cons,List.not_mem_nil,or_false]at hi;subst hi;show t.1<286
   omega
 . rw[if_neg (by omega)]at hi;obtain⟨m1,m2,m3,m4,m5,m6,_⟩:=Zgi (n:=t.2.1.toNat) (by omega) (by omega);obtain⟨f1,f2,f3,f4,f5⟩:=Zj8 (d:=t.2.2.toNat) (by omega) (by omega);simp only[List.mem_cons,List.not_mem_nil,or_false]at hi
   rcases hi with rfl|rfl|rfl|rfl
   . show _<286;omega
   . exact⟨m5,by omega⟩
   . show _<30;omega
   . exact⟨f4,f5⟩
theorem Ih {ts:List Tk}(h:∀t∈ts,VT t):∀i∈itsOf ts,VI i:=by
 intro i hi;unfold itsOf Qn at hi
 rcases List.mem_append.1 hi with hi|hi
 . obtain⟨t,ht,hi⟩:=List.mem_flatMap.1 hi;exact Zgp (h t ht) i hi
 . simp only[List.mem_cons,List.not_mem_nil,or_false]at hi;subst hi;show 256<286
   decide
theorem Zde (t:Tk):(Z51 t).length<=4:=by unfold Z51;split<;>simp
theorem Ez:∀ts:List Tk,(itsOf ts).length<=4*ts.length+1
 | []=>by simp[itsOf,Qn]
 |t::ts=>by
  have e:itsOf (t::ts)=Z51 t++itsOf ts:=by simp[itsOf,Qn]
  have:=Ez ts
  have:=Zde t
  rw[e,List.length_append,List.length_cons];omega
theorem Zd4 {is:List It}{k:Nat}:k∈Zc4 is↔It.sym k∈is:=by
 unfold Zc4;rw[List.mem_filterMap]
 constructor
 . rintro ⟨i,h1,h2⟩
   cases i with
   |sym q=>simp at h2;subst h2;exact h1
   |far q=>simp at h2
   |rest a b=>simp at h2
 . intro h;exact⟨_,h,rfl⟩
theorem Zd5 {is:List It}{k:Nat}:k∈Zdt is↔It.far k∈is:=by
 unfold Zdt;rw[List.mem_filterMap]
 constructor
 . rintro ⟨i,h1,h2⟩
   cases i with
   |far q=>simp at h2;subst h2;exact h1
   |sym q=>simp at h2
   |rest a b=>simp at h2
 . intro h;exact⟨_,h,rfl⟩
structure Dyn (ts:List Tk)(a b:List Int):Prop where
 ga:Good a
 gb:Good b
 la:257<=a.length
 la2:a.length<=286
 lb:1<=b.length
 lb2:b.length<=30
 has:Has a b (itsOf ts)
 end':0<a.getD 256 0
theorem Pe {l:List Int}{k:Nat}(h:0<l.getD k 0):k<l.length:=by
 rcases Nat.lt_or_ge k l.length with e|e
 . exact e
 . simp only[List.getD]at h;rw[List.getElem?_eq_none e]at h;simp at h
theorem Wd {ts:List Tk}(hl:ts.length<=3000):GoodW (symC (itsOf ts)) 15:=by
 refine Lr 286 15 _ (by decide) ?_ (by decide) (by decide) (by decide);have h2:=Ez ts;unfold Zc4;exact Nat.le_trans (List.length_filterMap_le _ _) (by omega)
theorem Yo {ts:List Tk}(hl:ts.length<=3000):GoodW (farC (itsOf ts)) 15:=by
 refine Lr 30 15 _ (by decide) ?_ (by decide) (by decide) (by decide);have h2:=Ez ts;unfold Zdt;exact Nat.le_trans (List.length_filterMap_le _ _) (by omega)
theorem Jm (is:List It):(symC is).length=286:=by unfold symC;rw[Bh];simp
theorem Kn (is:List It):(farC is).length=30:=by unfold farC;rw[Bh];simp
theorem Zc6 {is:List It}{k:Nat}(hk:k<286)(h:It.sym k∈is):0<(symC is).getD k 0:=by
 unfold symC;rw[Fq _ _ k (by simpa using hk),Hi];have:=List.count_pos_iff.2 (Zd4.2 h)
 omega
theorem Zdv {is:List It}{k:Nat}(hk:k<30)(h:It.far k∈is):0<(farC is).getD k 0:=by
 unfold farC;rw[Fq _ _ k (by simpa using hk),Hi];have:=List.count_pos_iff.2 (Zd5.2 h)
 omega
theorem Zj9 {ts:List Tk}{s f:List Int}(hv:∀t∈ts,VT t)(hl:ts.length<=3000)(hs:IsLens (symC (itsOf ts)) 15 s)(hf:IsLens (farC (itsOf ts)) 15 f):Dyn ts (trimL s 257) (trimL f 1):=by
 obtain⟨g1,l1,v1,p1⟩:=Hr (Wd hl) hs;obtain⟨g2,l2,v2,p2⟩:=Hr (Yo hl) hf;rw[Jm]at l1 p1;rw[Kn]at l2 p2;have hi:=Ih hv
 have hA:∀k,It.sym k∈itsOf ts->k<(trimL s 257).length/\0<(trimL s 257).getD k 0:=by
  intro k hk;have h286:k<286:=hi _ hk;have hpos:0<(trimL s 257).getD k 0:=by rw[Mo];exact p1 k h286 (Zc6 h286 hk)
  exact⟨Pe hpos,hpos⟩
 have hB:∀k,It.far k∈itsOf ts->k<(trimL f 1).length/\0<(trimL f 1).getD k 0:=by
  intro k hk;have h30:k<30:=hi _ hk;have hpos:0<(trimL f 1).getD k 0:=by rw[Mo];exact p2 k h30 (Zdv h30 hk)
  exact⟨Pe hpos,hpos⟩
 have t1:=Tb s 257 s.length (by omega);have t2:=Ib s 257 s.length;have t3:=Tb f 1 f.length (by omega);have t4:=Ib f 1 f.length;refine⟨Vu g1 257,Vu g2 1, ?_, ?_, ?_, ?_,⟨hA,hB⟩,(hA 256 (by simp[itsOf])).2⟩
 . rw[Br];exact t1
 . rw[Br];omega
 . rw[Br];exact t3
 . rw[Br];omega
theorem Ti (x:Nat)(hx:x<=15):∀f m,∀i∈Gd x f m,i.1<19
 |0,m,i,h=>by cases h
 |f+1,m,i,h=>by
  rw[Gd]at h;have ih:=Ti x hx f
  split at h
  . cases h
  . split at h
    . rcases List.mem_cons.1 h with rfl|h
      . simp only;omega
      . exact ih _ i h
    . split at h
      . rcases List.mem_cons.1 h with rfl|h
        . show 16<19;decide
        . exact ih _ i h
      . split at h
        . rcases List.mem_cons.1 h with rfl|h
          . show 17<19;decide
          . exact ih _ i h
        . rcases List.mem_cons.1 h with rfl|h
          . show 18<19;decide
          . exact ih _ i h
theorem Zcg (x m:Nat)(hx:x<=15):∀i∈Oi x m,i.1<19:=by
 intro i h;unfold Oi at h
 split at h
 . rcases List.mem_cons.1 h with rfl|h
   . simp only;omega
   . exact Ti x hx _ _ i h
 . exact Ti x hx _ _ i h
theorem Ua:∀(f:Nat) (l:List Int),(∀x∈l,0<=x/\x<=15)->∀i∈Ub f l,i.1<19
 |0,l,h,i,hi=>by cases hi
 |f+1,[],h,i,hi=>by cases hi
 |f+1,x::r,h,i,hi=>by
  have e:Ub (f+1) (x::r)=Oi x.toNat (Cb x r+1)++Ub f (r.drop (Cb x r)):=rfl;rw[e]at hi
  rcases List.mem_append.1 hi with hi|hi
  . exact Zcg _ _ (by have:=h x (by simp);omega) i hi
  . exact Ua f _ (fun y hy=>h y (by simp[List.mem_of_mem_drop hy])) i hi
theorem Oh (own:List Int)(hG:Good own)(h7:∀k,own.getD k 0<=7)(x:Nat):∀f m,(putRs own (Gd x f m)).length<=7*m/\(Gd x f m).length<=m
 |0,m=>by rw[Gd];exact⟨Nat.zero_le _,Nat.zero_le _⟩
 |f+1,m=>by
  have hc:∀k,(Bj own k).length<=7:=fun k=>by rw[Ni own hG];have:=h7 k;omega
  have ih:=Oh own hG h7 x f;rw[Gd]
  split
  . exact⟨Nat.zero_le _,Nat.zero_le _⟩
  . split
    . have:=ih (m-1);have:=hc x;rw[Ge,List.length_append,Jr own hG,List.length_cons];simp only;omega
    . split
      . have:=ih (m-min m 6);have:=hc 16;rw[Ge,List.length_append,Jr own hG,List.length_cons];simp only;omega
      . split
        . have:=ih 0;have:=hc 17;rw[Ge,List.length_append,Jr own hG,List.length_cons];simp only;omega
        . have:=ih (m-min m 138);have:=hc 18;rw[Ge,List.length_append,Jr own hG,List.length_cons];simp only;omega
theorem Z7y (own:List Int)(hG:Good own)(h7:∀k,own.getD k 0<=7)(x m:Nat)(hm:1<=m):(putRs own (Oi x m)).length<=7*m/\(Oi x m).length<=m:=by
 have hc:∀k,(Bj own k).length<=7:=fun k=>by rw[Ni own hG];have:=h7 k;omega
 unfold Oi
 split
 . have:=Oh own hG h7 x m (m-1)
   have:=hc x
   rw[Ge,List.length_append,Jr own hG,List.length_cons];simp only
   omega
 . exact Oh own hG h7 x m m
theorem Ka (own:List Int)(hG:Good own)(h7:∀k,own.getD k 0<=7):∀(f:Nat) (l:List Int),(putRs own (Ub f l)).length<=7*l.length/\(Ub f l).length<=l.length
 |0,l=>by rw[Ub];exact⟨Nat.zero_le _,Nat.zero_le _⟩
 |f+1,[]=>⟨Nat.zero_le _,Nat.zero_le _⟩
 |f+1,x::r=>by
  have e:Ub (f+1) (x::r)=Oi x.toNat (Cb x r+1)++Ub f (r.drop (Cb x r)):=rfl;have h1:=Z7y own hG h7 x.toNat (Cb x r+1) (by omega);have h2:=Ka own hG h7 f (r.drop (Cb x r));have h3:=Uj x r;rw[List.length_drop]at h2;rw[e,Oj,List.length_append,List.length_append,List.length_cons];omega
theorem Z9p:Good (List.replicate 19 0):=by
 refine Cn ?_;decide+kernel
theorem Xp (all:List Int):(lenIs all).length<=all.length:=(Ka (List.replicate 19 0) Z9p (fun k=>by rw[Hi];decide) _ all).2
structure Own (all own:List Int):Prop where
 go:Good own
 lo:own.length=19
 vo:∀k,0<=own.getD k 0/\own.getD k 0<=7
 has:HasR own (lenIs all)
theorem Wn {all:List Int}(hl:all.length<=1000):GoodW (Vc (lenIs all)) 7:=by
 refine Lr 19 7 _ (by decide) ?_ (by decide) (by decide) (by decide);have:=Xp all
 simp
 omega
theorem Mr (is:List (Nat×Nat×Nat)):(Vc is).length=19:=by unfold Vc;rw[Bh];simp
theorem Zih {all own:List Int}(hl:all.length<=1000)(hx:∀x∈all,0<=x/\x<=15)(hs:IsLens (Vc (lenIs all)) 7 own):Own all own:=by
 obtain⟨g1,l1,v1,p1⟩:=Hr (Wn hl) hs;rw[Mr]at l1 p1;refine⟨g1,l1,fun k=> ?_, ?_⟩
 . have:=v1 k
   simpa using this
 . intro i hi;have h19:=Ua _ all hx i hi;refine⟨by omega,p1 i.1 h19 ?_⟩;unfold Vc;rw[Fq _ _ i.1 (by simpa using h19),Hi];have:=List.count_pos_iff.2 (List.mem_map.2 ⟨i,hi,rfl⟩:i.1∈(lenIs all).map Prod.fst)
   omega
theorem Z3b {l:List Int}(hG:Good l):∀x∈l,0<=x/\x<=15:=by
 intro x hm;obtain⟨j,hj,rfl⟩:=List.getElem_of_mem hm;have:=hG.ok j hj
 simpa[List.getD,hj]using this
end Go.Proofs.YtcjbgpacnkilnaiGreatDoor
namespace Go.Proofs.YtcjbgpacnkilnaiGreatDoor
open Go.RowKit
set_option linter.unusedVariables false
set_option maxRecDepth 100000
theorem Ew (x f:Nat):Gd x f 0= []:=by cases f<;>simp[Gd]
theorem Wm (x:Nat):∀m f,m<=f->Gd x f m=Gd x m m:=by
 intro m
 induction m using Nat.strongRecOn with
 |ind m ih=>
  intro f hf
  by_cases h0:m=0
  . subst h0;rw[Ew,Ew]
  . obtain⟨f',rfl⟩:∃f',f=f'+1:=⟨f-1,by omega⟩
    obtain⟨m',rfl⟩:∃m',m=m'+1:=⟨m-1,by omega⟩
    have t:∀c,0<c->Gd x f' (m'+1-c)=Gd x m' (m'+1-c):=fun c hc=>by rw[ih (m'+1-c) (by omega) f' (by omega),ih (m'+1-c) (by omega) m' (by omega)]
    rw[Gd,Gd,if_neg h0,if_neg h0,t 1 (by omega),t (min (m'+1) 6) (by omega),t (min (m'+1) 138) (by omega),Ew,Ew]
theorem Z7x (x q:Nat)(h0:0<q):Gd x q q=if q<3 then (x,0,0)::Gd x (q-1) (q-1)else if 0<x then (16,min q 6-3,2)::Gd x (q-min q 6) (q-min q 6)else if q<11 then (17,q-3,3)::Gd x (q-q) (q-q)else (18,min q 138-11,7)::Gd x (q-min q 138) (q-min q 138):=by
 obtain⟨q',rfl⟩:∃q',q=q'+1:=⟨q-1,by omega⟩
 have t:∀c,0<c->Gd x q' (q'+1-c)=Gd x (q'+1-c) (q'+1-c):=fun c hc=>Wm x _ _ (by omega)
 rw[Gd,if_neg (by omega),t 1 (by omega),t (min (q'+1) 6) (by omega),t (min (q'+1) 138) (by omega),Nat.sub_self,Ew,Ew]
structure Snk3 (J:List (Nat×Nat×Nat)->World->Prop)(Ki:World->World->Prop)(kf:Nat)(cf:Array Value)(all:List (Nat×Nat×Nat)):Prop where
 ef:∀(args:Array Value) (w:World),(callFunc kf args).run Tryz.prog w=.ok (.enter kf args) w
 step:∀ {is R:List (Nat×Nat×Nat)} {i:Nat×Nat×Nat} {W:World},is++i::R=all->J is W->Calls Tryz.prog kf (#[.int .i64 (i.1:Int),.int .i64 (i.2.1:Int),.int .i64 (i.2.2:Int)]++cf) W fun e W'=>e=.returned (.tuple #[])/\J (is++ [i]) W'/\Ki W W'
 refl:∀W,Ki W W
 jd:∀ {is:List (Nat×Nat×Nat)} {W:World} (q:Nat),J is W->J is (W.drewN q)
 kd:∀(W:World) (q:Nat),Ki W (W.drewN q)
 trans:∀ {a b c},Ki a b->Ki b c->Ki a c
theorem On (J:List (Nat×Nat×Nat)->World->Prop)(Ki:World->World->Prop)(kf:Nat)(cf:Array Value)(all:List (Nat×Nat×Nat))(hK:Snk3 J Ki kf cf all)(x m:Nat)(IS R:List (Nat×Nat×Nat))(w:World)(hx:x<=15)(hm:1<=m)(hm2:m<=1000)(he:IS++Oi x m++R=all)(hJ:J IS w):
 Calls Tryz.prog 163 #[.int .i64 (x:Int),.int .i64 (m:Int),.func (.func kf) #[] cf] w fun e w'=>e=.returned (.tuple #[])/\J (IS++Oi x m) w'/\Ki w w':=by
 have ef:=hK.ef;have HK:=Ab hK;have HJ:=Ab hJ;clear hK hJ;obtain⟨T,hT⟩:∃T,IS++Oi x m=T:=⟨_,rfl⟩
 rw[hT]at he;have HE:=Ab he;have HT:=Ab hT;clear he;rw[hT];clear hT;go_enter Tryz.func163,Tryz.ntmps163
 go_upto_if 8 with (fail)
 go_cut [1] (fun v wc=>∃(q:Nat) (IS2:List (Nat×Nat×Nat)),v=.int .i64 (q:Int)/\q<=1000/\Hid (J IS2 wc/\Ki w wc/\IS2++Gd x q q=T))
 case first=>
  by_cases h0:0<x
  . have h0I:(0:Int)<(x:Int):=by omega
    have hr:Oi x m=(x,0,0)::Gd x (m-1) (m-1):=by unfold Oi;rw[if_pos h0,Wm x _ _ (by omega)]
    have HS:=Ab ((Aa HK).step (is:=IS) (i:=(x,0,0)) (R:=Gd x (m-1) (m-1)++R) (W:=w) (by rw[<-Aa HE,<-Aa HT,hr];simp) (Aa HJ));have HT2:Hid (IS++ [(x,0,0)]++Gd x (m-1) (m-1)=T):=Ab (by rw[<-Aa HT,hr];simp);go_wp2_with fail
    refine(Aa HS).mono ?_;rintro e w1 ⟨rfl,hJ1,hK1⟩;have H1:=Ab (And.intro hJ1 hK1);clear hJ1 hK1;go_wp2
    all_goals go_meet
    all_goals exact⟨m-1,IS++ [(x,0,0)],by go_num,by omega,Ab ⟨(Aa H1).1,(Aa H1).2,Aa HT2⟩⟩
  . have h0I:¬(0:Int)<(x:Int):=by omega
    have hr:Oi x m=Gd x m m:=by unfold Oi;rw[if_neg h0]
    have HT2:Hid (IS++Gd x m m=T):=Ab (by rw[<-Aa HT,hr]);go_wp2
    all_goals go_meet
    all_goals exact⟨m,IS,rfl,hm2,Ab ⟨Aa HJ,(Aa HK).refl _,Aa HT2⟩⟩
 case rest=>
  obtain⟨q0,IS0,rfl,hq0,hst0⟩:=hcut;go_wp2_with fail
  go_loopw [1] (fun v wr=>∃(q:Nat) (IS2:List (Nat×Nat×Nat)),v=.int .i64 (q:Int)/\q<=1000/\Hid (J IS2 wr/\Ki w wr/\IS2++Gd x q q=T)) (fun v _=>(intOf v).toNat)
  case atStart=>exact⟨q0,IS0,rfl,hq0,hst0⟩
  case round=>
   obtain⟨q,IS2,rfl,hq,hst⟩:=hrel;obtain⟨j1,j2,j3⟩:=Aa hst
   by_cases h0:0<q
   . have h0I:(0:Int)<(q:Int):=by omega
     have hs:=Z7x x q h0
     have STEP:∀(i:Nat×Nat×Nat) (c:Nat),Gd x q q=i::Gd x (q-c) (q-c)->Hid (Calls Tryz.prog kf (#[.int .i64 (i.1:Int),.int .i64 (i.2.1:Int),.int .i64 (i.2.2:Int)]++cf) wr fun e W'=>e=.returned (.tuple #[])/\J (IS2++ [i]) W'/\Ki wr W')/\Hid (IS2++ [i]++Gd x (q-c) (q-c)=T):=by
      intro i c hc;refine⟨Ab ((Aa HK).step (is:=IS2) (i:=i) (R:=Gd x (q-c) (q-c)++R) (by rw[<-Aa HE,<-j3,hc];simp) j1),Ab (by rw[<-j3,hc];simp)⟩
     have HK2:=Ab j2;clear hst j1 j2 j3
     by_cases h3:q<3
     . rw[if_pos h3]at hs;obtain⟨S1,S2⟩:=STEP _ _ hs;have h3I:(q:Int)<3:=by omega
       clear STEP hs;go_wp2_with fail
       refine(Aa S1).mono ?_;rintro e w1 ⟨rfl,hJ1,hK1⟩;have H1:=Ab (And.intro hJ1 ((Aa HK).trans (Aa HK2) hK1));clear hJ1 hK1;go_wp2;go_roundw
       case rel=>exact⟨q-1,_,by go_num,by omega,Ab ⟨(Aa H1).1,(Aa H1).2,Aa S2⟩⟩
       case measure=>simp[intOf];omega
     . rw[if_neg h3]at hs;have h3I:¬(q:Int)<3:=by omega
       by_cases hx0:0<x
       . rw[if_pos hx0]at hs;have hxI:(0:Int)<(x:Int):=by omega
         rcases Nat.lt_trichotomy q 6 with h6|h6|h6
         . rw[show min q 6=q by omega]at hs;have h6I:(q:Int)<6:=by omega
           obtain⟨S1,S2⟩:=STEP _ _ hs;rw[show ((q-3:Nat):Int)=(q:Int)-3 by omega]at S1;clear STEP hs;go_wp2_with fail
           refine(Aa S1).mono ?_;rintro e w1 ⟨rfl,hJ1,hK1⟩;have H1:=Ab (And.intro hJ1 ((Aa HK).trans (Aa HK2) hK1));clear hJ1 hK1;go_wp2;go_roundw
           case rel=>exact⟨q-q,_,by go_num,by omega,Ab ⟨(Aa H1).1,(Aa H1).2,Aa S2⟩⟩
           case measure=>simp[intOf];omega
         . subst h6;obtain⟨S1,S2⟩:=STEP _ _ hs;clear STEP hs;go_wp2_with fail
           refine(Aa S1).mono ?_;rintro e w1 ⟨rfl,hJ1,hK1⟩;have H1:=Ab (And.intro hJ1 ((Aa HK).trans (Aa HK2) hK1));clear hJ1 hK1;go_wp2;go_roundw
           case rel=>exact⟨0,_,by go_num,by omega,Ab ⟨(Aa H1).1,(Aa H1).2,Aa S2⟩⟩
           case measure=>simp[intOf]
         . rw[show min q 6=6 by omega]at hs;have h6I:(6:Int)<(q:Int):=by omega
           obtain⟨S1,S2⟩:=STEP _ _ hs;clear STEP hs;go_wp2_with fail
           refine(Aa S1).mono ?_;rintro e w1 ⟨rfl,hJ1,hK1⟩;have H1:=Ab (And.intro hJ1 ((Aa HK).trans (Aa HK2) hK1));clear hJ1 hK1;go_wp2;go_roundw
           case rel=>exact⟨q-6,_,by go_num,by omega,Ab ⟨(Aa H1).1,(Aa H1).2,Aa S2⟩⟩
           case measure=>simp[intOf];omega
       . rw[if_neg hx0]at hs;have hxI:¬(0:Int)<(x:Int):=by omega
         by_cases h11:q<11
         . rw[if_pos h11]at hs;have h11I:(q:Int)<11:=by omega
           obtain⟨S1,S2⟩:=STEP _ _ hs;rw[show ((q-3:Nat):Int)=(q:Int)-3 by omega]at S1;clear STEP hs;go_wp2_with fail
           refine(Aa S1).mono ?_;rintro e w1 ⟨rfl,hJ1,hK1⟩;have H1:=Ab (And.intro hJ1 ((Aa HK).trans (Aa HK2) hK1));clear hJ1 hK1;go_wp2;go_roundw
           case rel=>exact⟨q-q,_,by go_num,by omega,Ab ⟨(Aa H1).1,(Aa H1).2,Aa S2⟩⟩
           case measure=>simp[intOf];omega
         . rw[if_neg h11]at hs;have h11I:¬(q:Int)<11:=by omega
           rcases Nat.lt_trichotomy q 138 with h6|h6|h6
           . rw[show min q 138=q by omega]at hs;have h6I:(q:Int)<138:=by omega
             obtain⟨S1,S2⟩:=STEP _ _ hs;rw[show ((q-11:Nat):Int)=(q:Int)-11 by omega]at S1;clear STEP hs;go_wp2_with fail
             refine(Aa S1).mono ?_;rintro e w1 ⟨rfl,hJ1,hK1⟩;have H1:=Ab (And.intro hJ1 ((Aa HK).trans (Aa HK2) hK1));clear hJ1 hK1;go_wp2;go_roundw
             case rel=>exact⟨q-q,_,by go_num,by omega,Ab ⟨(Aa H1).1,(Aa H1).2,Aa S2⟩⟩
             case measure=>simp[intOf];omega
           . subst h6;obtain⟨S1,S2⟩:=STEP _ _ hs;clear STEP hs;go_wp2_with fail
             refine(Aa S1).mono ?_;rintro e w1 ⟨rfl,hJ1,hK1⟩;have H1:=Ab (And.intro hJ1 ((Aa HK).trans (Aa HK2) hK1));clear hJ1 hK1;go_wp2;go_roundw
             case rel=>exact⟨0,_,by go_num,by omega,Ab ⟨(Aa H1).1,(Aa H1).2,Aa S2⟩⟩
             case measure=>simp[intOf]
           . rw[show min q 138=138 by omega]at hs;have h6I:(138:Int)<(q:Int):=by omega
             obtain⟨S1,S2⟩:=STEP _ _ hs;clear STEP hs;go_wp2_with fail
             refine(Aa S1).mono ?_;rintro e w1 ⟨rfl,hJ1,hK1⟩;have H1:=Ab (And.intro hJ1 ((Aa HK).trans (Aa HK2) hK1));clear hJ1 hK1;go_wp2;go_roundw
             case rel=>exact⟨q-138,_,by go_num,by omega,Ab ⟨(Aa H1).1,(Aa H1).2,Aa S2⟩⟩
             case measure=>simp[intOf];omega
   . obtain rfl:q=0:=by omega
     rw[Ew,List.append_nil]at j3;have HF:Hid (J T wr/\Ki w wr):=Ab ⟨by rw[<-j3];exact j1,j2⟩;clear hst j1 j2 j3;go_wp2;go_end0
     exact⟨rfl,Aa HF⟩
end Go.Proofs.YtcjbgpacnkilnaiGreatDoor
