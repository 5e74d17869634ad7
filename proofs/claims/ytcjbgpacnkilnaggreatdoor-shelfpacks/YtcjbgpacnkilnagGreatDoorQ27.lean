import Derived.Test.YtcjbgpacnkilnagGreatDoorQ2
import Derived.Test.YtcjbgpacnkilnagGreatDoorQ26
import Derived.Test.YtcjbgpacnkilnagGreatDoorQ19
import Derived.Test.YtcjbgpacnkilnagGreatDoorQ1
import Derived.Shelf.Abstract
import Derived.Deep.DeepCutAuto
set_option maxHeartbeats 4000000
namespace Go.Proofs.YtcjbgpacnkilnagGreatDoor
open Go.RowKit
set_option linter.unusedVariables false
set_option maxRecDepth 100000
def Z2i (l:List Int):Nat->Nat
 |0=>0
 |k+1=>Z2i l k+(if 0<l.getD k 0 then 2^(15-(l.getD k 0).toNat)else 0)
theorem Kc (l:List Int)(hok:∀j,j<l.length->0<=l.getD j 0/\l.getD j 0<=15):∀k,k<=l.length->Z2i l k=takenN (cnt (l.take k)) 15
 |0,_=>by
  show 0=takenN (cnt []) 15
  decide
 |k+1,hk=>by
  have ih:=Kc l hok k (by omega);have hkl:k<l.length:=by omega
  obtain⟨m,hm⟩:=Int.eq_ofNat_of_zero_le (hok k hkl).1;have h15:=(hok k hkl).2;rw[Z2i,ih,<-Jo l hkl hm,hm];rw[hm]at h15
  by_cases h0:m=0
  . subst h0;rw[Th];simp
  . rw[Yl _ m (by omega) (by omega) 15 (by omega),if_pos (show (0:Int)<(m:Int) by omega),if_pos (by omega),Int.toNat_natCast]
end Go.Proofs.YtcjbgpacnkilnagGreatDoor
namespace Go.Proofs.YtcjbgpacnkilnagGreatDoor
open Go.RowKit
set_option linter.unusedVariables false
theorem Zaj {l:List Int}{P:List Nat}{m:Nat}(hG:GoodW l m)(hP:RiseOf l P)(hn:2<=P.length):takenN (cnt (Cl l P m)) 15=32768:=by
 have hm15:=hG.hi;have hle:∀j,0<=(Cl l P m).getD j 0/\(Cl l P m).getD j 0<=15:=fun j=>by have:=We hG hP j;omega
 have h2:=Kc (Cl l P m) (fun j _=>hle j) (Cl l P m).length (Nat.le_refl _);rw[List.take_length,Hn]at h2;rw[<-h2];have hk:=Z78 hG hP hn
 have h3:∀A B:List Nat,Gu (A++B)=Gu A+Gu B:=by
  intro A B
  induction A with
  |nil=>simp[Gu]
  |cons x A ih=>rw[List.cons_append,Gu,Gu,ih];omega
 have h4:∀k,k<=l.length->Z2i (Cl l P m) k=Gu ((wpl l k).map fun p=>2^(15-((Cl l P m).getD p 0).toNat)):=by
  intro k
  induction k with
  |zero=>intro _;rfl
  |succ k ih=>
   intro hk;rw[wpl,List.map_append,h3,Z2i,ih (by omega)];have hx:=We hG hP k
   by_cases h:0<l.getD k 0
   . rw[if_pos h,if_pos (hx.2.2.2 ((hP.mem k).2 ⟨by omega,h⟩))];simp[Gu]
   . rw[if_neg h,if_neg (fun h5=>h ((hP.mem k).1 (hx.2.2.1 h5)).2)];simp[Gu]
 rw[h4 l.length (Nat.le_refl _),<-Zba (hP.perm.map _)]
 have e:(P.map fun p=>2^(15-((Cl l P m).getD p 0).toNat))=P.map fun p=>2^(15-m)*2^(m-((Cl l P m).getD p 0).toNat):=by
  apply List.map_congr_left
  intro p hp;have:=We hG hP p
  rw[<-Nat.pow_add]
  congr 1
  omega
 rw[e,Zfu,hk,<-Nat.pow_add,show 15-m+m=15 by omega]
end Go.Proofs.YtcjbgpacnkilnagGreatDoor
namespace Go.Proofs.YtcjbgpacnkilnagGreatDoor
set_option linter.unusedVariables false
set_option maxRecDepth 100000
theorem Fi (l:List Int)(hG:Good l)(q:Nat):(An l q).length=(l.getD q 0).toNat:=by unfold An;rw[Bi]
def Zm3 (n:Nat):Bool:=decide (257<=(Cc n).1/\(Cc n).1<=285/\(samesL.getD ((Cc n).1-257) (0,0)).2=(Cc n).2.2/\(samesL.getD ((Cc n).1-257) (0,0)).1+(Cc n).2.1=n/\(Cc n).2.1<2^(Cc n).2.2/\(Cc n).2.2<=5/\(n<=10->(Cc n).2.2=0))
def Znk (d:Nat):Bool:=decide ((Ib d).1<=29/\(farsL.getD (Ib d).1 (0,0)).2=(Ib d).2.2/\(farsL.getD (Ib d).1 (0,0)).1+(Ib d).2.1=d/\(Ib d).2.1<2^(Ib d).2.2/\(Ib d).2.2<=10)
theorem Zg0:(List.range 256).all (fun n=>Zm3 (n+3))=true:=by decide+kernel
theorem Zke:(List.range 3000).all (fun d=>Znk (d+1))=true:=by decide+kernel
theorem Zbi {n:Nat}(h3:3<=n)(h:n<=258):257<=(Cc n).1/\(Cc n).1<=285/\(samesL.getD ((Cc n).1-257) (0,0)).2=(Cc n).2.2/\(samesL.getD ((Cc n).1-257) (0,0)).1+(Cc n).2.1=n/\(Cc n).2.1<2^(Cc n).2.2/\(Cc n).2.2<=5/\(n<=10->(Cc n).2.2=0):=by
 have:=List.all_eq_true.1 Zg0 (n-3) (by simp;omega)
 rw[show n-3+3=n by omega]at this;exact of_decide_eq_true this
theorem Zi0 {d:Nat}(h1:1<=d)(h:d<=3000):(Ib d).1<=29/\(farsL.getD (Ib d).1 (0,0)).2=(Ib d).2.2/\(farsL.getD (Ib d).1 (0,0)).1+(Ib d).2.1=d/\(Ib d).2.1<2^(Ib d).2.2/\(Ib d).2.2<=10:=by
 have:=List.all_eq_true.1 Zke (d-1) (by simp;omega)
 rw[show d-1+1=d by omega]at this;exact of_decide_eq_true this
def Has (a b:List Int)(is:List It):Prop:=(∀k,It.sym k∈is->k<a.length/\0<a.getD k 0)/\(∀k,It.far k∈is->k<b.length/\0<b.getD k 0)
theorem Has.app {a b:List Int}{x y:List It}(h:Has a b (x++y)):Has a b x/\Has a b y:=
 ⟨⟨fun k hk=>h.1 k (by simp[hk]),fun k hk=>h.2 k (by simp[hk])⟩,⟨fun k hk=>h.1 k (by simp[hk]),fun k hk=>h.2 k (by simp[hk])⟩⟩
theorem Qe (a b:List Int)(x y:List It):putIs a b (x++y)=putIs a b x++putIs a b y:=by simp[putIs]
def HasR (own:List Int)(is:List (Nat×Nat×Nat)):Prop:=∀i∈is,i.1<own.length/\0<own.getD i.1 0
theorem Jg (own:List Int)(hG:Good own)(i:Nat×Nat×Nat):(Z72 own i).length=(An own i.1).length+i.2.2:=by unfold Z72;rw[List.length_append,Ae]
theorem Eo (own:List Int)(i:Nat×Nat×Nat)(is:List (Nat×Nat×Nat)):putRs own (i::is)=Z72 own i++putRs own is:=by simp[putRs]
theorem Lb (own:List Int)(x y:List (Nat×Nat×Nat)):putRs own (x++y)=putRs own x++putRs own y:=by simp[putRs]
theorem HasR.app {own:List Int}{x y:List (Nat×Nat×Nat)}(h:HasR own (x++y)):HasR own x/\HasR own y:=⟨fun i hi=>h i (by simp[hi]),fun i hi=>h i (by simp[hi])⟩
theorem Ox (x:Int):∀r:List Int,Bm x r<=r.length
 | []=>Nat.le_refl _
 |y::r=>by
  rw[Bm];have:=Ox x r
  split<;>simp<;>omega
theorem Z0f (x:Int):∀r:List Int,r=List.replicate (Bm x r) x++r.drop (Bm x r)
 | []=>rfl
 |y::r=>by
  rw[Bm]
  by_cases e:y=x
  . subst e;rw[if_pos rfl,List.replicate_succ,List.drop_succ_cons,List.cons_append,<-Z0f y r]
  . rw[if_neg e];rfl
theorem Zks (xs:List Int)(p j:Nat):(Sa xs p).getD j 0=xs.getD j 0+(if j=p/\p<xs.length then 1 else 0):=by
 unfold Sa
 by_cases e:j=p
 . subst e
   by_cases h:j<xs.length
   . simp[List.getD,h]
   . simp[List.getD,h]
 . simp only[List.getD];rw[List.getElem?_set_ne (Ne.symm e),if_neg (fun h=>e h.1)];omega
theorem Gp:∀(ps:List Nat) (xs:List Int) (j:Nat),j<xs.length->(Cj xs ps).getD j 0=xs.getD j 0+(ps.count j:Nat)
 | [],xs,j,h=>by simp[Cj]
 |p::ps,xs,j,h=>by
  show (Cj (Sa xs p) ps).getD j 0=_
  rw[Gp ps _ j (by rw[Kk];exact h),Zks,List.count_cons]
  by_cases e:j=p
  . subst e;simp[h]
    omega
  . have e2:¬p=j:=fun h=>e h.symm
    simp[e,e2]
theorem He (n j:Nat):(List.replicate n (0:Int)).getD j 0=0:=by by_cases h:j<n<;>simp[List.getD,h]
theorem Nc (n m:Nat)(ps:List Nat)(hn:n<=288)(hp:ps.length<=1000000)(hm:1<=m)(hm2:m<=15)(hr:n<=2^m):GoodW (Cj (List.replicate n 0) ps) m:=by
 have hl:(Cj (List.replicate n (0:Int)) ps).length=n:=by rw[Bo];simp
 refine⟨by omega, ?_,hm,hm2, ?_⟩
 . intro j hj;rw[Gp ps _ j (by simp;omega),He];have:=List.count_le_length (a:=j) (l:=ps)
   omega
 . have:=Pi (Cj (List.replicate n 0) ps) (Cj (List.replicate n (0:Int)) ps).length
   omega
theorem Zg5 {l:List Int}{m:Nat}{s:List Int}(h:IsLens l m s):lensD l m=s:=by
 have h2:IsLens l m (lensD l m):=Classical.epsilon_spec (p:=fun s=>IsLens l m s) ⟨s,h⟩;obtain⟨P,hP,e⟩:=h;obtain⟨Q,hQ,e2⟩:=h2;rw[e2,e,hP.one hQ]
theorem Ip {l:List Int}{m:Nat}{s:List Int}(hG:GoodW l m)(hs:IsLens l m s):Good s/\s.length=l.length/\(∀p,0<=s.getD p 0/\s.getD p 0<=m)/\∀p,p<l.length->0<l.getD p 0->0<s.getD p 0:=by
 obtain⟨P,hP,rfl⟩:=hs;have hlen:=Hn l P m;have hl:=hG.len;have hm15:=hG.hi;have hok:=We hG hP;refine⟨⟨by omega,fun j hj=>by have:=hok j;omega, ?_⟩,hlen,fun p=>⟨(hok p).1,(hok p).2.1⟩,fun p h1 h2=>(hok p).2.2.2 ((hP.mem p).2 ⟨h1,h2⟩)⟩
 by_cases hn:2<=P.length
 . rw[Zaj hG hP hn];exact Nat.le_refl _
 . have h2:=Kc (Cl l P m) (fun j _=>by have:=hok j;omega) (Cl l P m).length (Nat.le_refl _);rw[List.take_length,Hn]at h2;rw[<-h2]
   have h4:∀k,k<=l.length->Z2i (Cl l P m) k<=(wpl l k).length*16384:=by
    intro k
    induction k with
    |zero=>intro _;exact Nat.le_refl _
    |succ k ih=>
     intro hk;have:=ih (by omega)
     rw[wpl,List.length_append,Z2i];have hx:=hok k
     by_cases h:0<l.getD k 0
     . have h1:=hx.2.2.2 ((hP.mem k).2 ⟨by omega,h⟩);rw[if_pos h,if_pos h1];have:2^(15-((Cl l P m).getD k 0).toNat)<=2^14:=Nat.pow_le_pow_right (by decide) (by omega)
       simp only[List.length_cons,List.length_nil];omega
     . rw[if_neg h,if_neg (fun h5=>h ((hP.mem k).1 (hx.2.2.1 h5)).2)];simp only[List.length_nil];omega
   have h5:=h4 l.length (Nat.le_refl _);rw[<-hP.length]at h5;omega
theorem Je (l:List Int)(least:Nat):∀n,Gs l least n<=n
 |0=>Nat.le_refl _
 |n+1=>by
  rw[Gs];have:=Je l least n
  split<;>omega
theorem Vd (l:List Int)(least:Nat):∀n,least<=n->least<=Gs l least n
 |0,h=>h
 |n+1,h=>by
  rw[Gs]
  by_cases e:least<n+1/\l.getD n 0=0
  . rw[if_pos e];exact Vd l least n (by omega)
  . rw[if_neg e];exact h
theorem Td (l:List Int)(least:Nat):∀n j,Gs l least n<=j->j<n->l.getD j 0=0
 |0,j,h1,h2=>by omega
 |n+1,j,h1,h2=>by
  rw[Gs]at h1
  by_cases e:least<n+1/\l.getD n 0=0
  . rw[if_pos e]at h1
    by_cases e2:j=n
    . subst e2;exact e.2
    . exact Td l least n j h1 (by omega)
  . rw[if_neg e]at h1;omega
theorem Bz (l:List Int)(least:Nat):(trimL l least).length=Gs l least l.length:=by
 have:=Je l least l.length
 simp[trimL];omega
theorem Oi (l:List Int)(least k:Nat):(trimL l least).getD k 0=l.getD k 0:=by
 have hl:=Bz l least
 by_cases h:k<Gs l least l.length
 . simp only[trimL,List.getD];rw[List.getElem?_take_of_lt h]
 . have e1:(trimL l least).getD k 0=0:=by
    simp only[List.getD];rw[List.getElem?_eq_none (by omega)];rfl
   rw[e1]
   by_cases h2:k<l.length
   . exact(Td l least l.length k (by omega) h2).symm
   . simp only[List.getD];rw[List.getElem?_eq_none (by omega)];rfl
theorem Pt {c d:Nat->Nat}(h:∀n,c n<=d n):∀k,takenN c k<=takenN d k
 |0=>Nat.le_refl _
 |k+1=>by
  rw[takenN,takenN];have h1:=Pt h k;have h2:=Nat.mul_le_mul_right (2^(14-k)) (h (k+1));omega
theorem Yg {l:List Int}(hG:Good l)(least:Nat):Good (trimL l least):=by
 have hl:=Bz l least;have hle:=Je l least l.length;refine⟨by have:=hG.len;omega,fun j hj=>by rw[Oi];exact hG.ok j (by omega), ?_⟩;refine Nat.le_trans (Pt (fun n=> ?_) 15) hG.room;unfold cnt trimL;exact(List.take_sublist _ _).count_le _
def VT (t:Tk):Prop:=t.1<256/\(t.2.1=0\/ (3<=t.2.1/\t.2.1<=258/\1<=t.2.2/\t.2.2<=3000))
theorem Z64:∀(ts:List Tk) (n:Nat),Mf ts n=0->∀t∈ts,∃k,k<=3000/\Cu t k=0
 | [],n,h,t,ht=>by cases ht
 |t0::ts,n,h,t,ht=>by
  have he:Cu t0 n=0:=by
   rw[Mf]at h
   by_cases e:Cu t0 n=0
   . exact e
   . rw[if_neg e]at h;exact absurd h e
  rw[Mf,if_pos he]at h;have hz:=Z1a h
  rcases List.mem_cons.1 ht with rfl|ht
  . exact⟨n,by omega,he⟩
  . exact Z64 ts _ h t ht
theorem Z9s (bs:List Nat):∀m k,∀t∈tks bs m k,∃j,t=Ny bs j
 |0,k,t,ht=>by cases ht
 |m+1,k,t,ht=>by
  rw[tks]at ht
  by_cases h:k<bs.length
  . rw[if_pos h]at ht
    rcases List.mem_cons.1 ht with rfl|ht
    . exact⟨k,rfl⟩
    . exact Z9s bs m _ t ht
  . rw[if_neg h]at ht;cases ht
theorem Z4f (bs:List Nat)(h:bs.length<=3000):Mf (Dn bs) 0=0:=Z9v bs h bs.length 0 (Nat.zero_le _)
theorem Jz {bs:List Nat}(hb:∀j,bs.getD j 0<256)(h:bs.length<=3000):∀t∈Dn bs,VT t:=by
 intro t ht;obtain⟨j,rfl⟩:=Z9s bs _ _ t ht;obtain⟨k,h1,h2⟩:=Z64 _ _ (Z4f bs h) _ ht;refine⟨Zip hb j, ?_⟩
 rcases Dx h2 with ⟨e1,_⟩|⟨_,e2,e3,e4,e5⟩
 . exact .inl e1
 . exact .inr ⟨e2,e3,e4,by omega⟩
def VI:It->Prop
 | .sym k=>k<286
 | .far k=>k<30
 | .rest n s=>n<2^s/\s<=10
theorem Zk1 {t:Tk}(h:VT t):∀i∈Nn t,VI i:=by
 obtain⟨h0,h1⟩:=h;intro i hi;unfold Nn at hi
 rcases h1 with e|⟨e1,e2,e3,e4⟩
 . rw[if_pos e]at hi;simp only[List.mem_cons,List.not_mem_nil,or_false]at hi;subst hi;show t.1<286
   omega
 . rw[if_neg (by omega)]at hi;obtain⟨m1,m2,m3,m4,m5,m6,_⟩:=Zbi (n:=t.2.1.toNat) (by omega) (by omega);obtain⟨f1,f2,f3,f4,f5⟩:=Zi0 (d:=t.2.2.toNat) (by omega) (by omega);simp only[List.mem_cons,List.not_mem_nil,or_false]at hi
   rcases hi with rfl|rfl|rfl|rfl
   . show _<286;omega
   . exact⟨m5,by omega⟩
   . show _<30;omega
   . exact⟨f4,f5⟩
theorem Hp {ts:List Tk}(h:∀t∈ts,VT t):∀i∈itsOf ts,VI i:=by
 intro i hi;unfold itsOf Oc at hi
 rcases List.mem_append.1 hi with hi|hi
 . obtain⟨t,ht,hi⟩:=List.mem_flatMap.1 hi;exact Zk1 (h t ht) i hi
 . simp only[List.mem_cons,List.not_mem_nil,or_false]at hi;subst hi;show 256<286
   decide
theorem Zg7 (t:Tk):(Nn t).length<=4:=by unfold Nn;split<;>simp
theorem Gc:∀ts:List Tk,(itsOf ts).length<=4*ts.length+1
 | []=>by simp[itsOf,Oc]
 |t::ts=>by
  have e:itsOf (t::ts)=Nn t++itsOf ts:=by simp[itsOf,Oc]
  have:=Gc ts
  have:=Zg7 t
  rw[e,List.length_append,List.length_cons];omega
theorem Zfx {is:List It}{k:Nat}:k∈Zev is↔It.sym k∈is:=by
 unfold Zev;rw[List.mem_filterMap]
 constructor
 . rintro ⟨i,h1,h2⟩
   cases i with
   |sym q=>simp at h2;subst h2;exact h1
   |far q=>simp at h2
   |rest a b=>simp at h2
 . intro h;exact⟨_,h,rfl⟩
theorem Zfy {is:List It}{k:Nat}:k∈Zgm is↔It.far k∈is:=by
 unfold Zgm;rw[List.mem_filterMap]
 constructor
 . rintro ⟨i,h1,h2⟩
   cases i with
   |far q=>simp at h2;subst h2;exact h1
   |sym q=>simp at h2
   |rest a b=>simp at h2
 . intro h;exact⟨_,h,rfl⟩
structure Dyn (ts:List Tk)(a b:List Int):Prop where
 ga:Good a
 gb:Good b
 la:257<=a.length
 la2:a.length<=286
 lb:1<=b.length
 lb2:b.length<=30
 has:Has a b (itsOf ts)
 end':0<a.getD 256 0
theorem Qx {l:List Int}{k:Nat}(h:0<l.getD k 0):k<l.length:=by
 rcases Nat.lt_or_ge k l.length with e|e
 . exact e
 . simp only[List.getD]at h;rw[List.getElem?_eq_none e]at h;simp at h
theorem Yp {ts:List Tk}(hl:ts.length<=3000):GoodW (symC (itsOf ts)) 15:=by
 refine Nc 286 15 _ (by decide) ?_ (by decide) (by decide) (by decide);have h2:=Gc ts;unfold Zev;exact Nat.le_trans (List.length_filterMap_le _ _) (by omega)
theorem Z0r {ts:List Tk}(hl:ts.length<=3000):GoodW (farC (itsOf ts)) 15:=by
 refine Nc 30 15 _ (by decide) ?_ (by decide) (by decide) (by decide);have h2:=Gc ts;unfold Zgm;exact Nat.le_trans (List.length_filterMap_le _ _) (by omega)
theorem Ku (is:List It):(symC is).length=286:=by unfold symC;rw[Bo];simp
theorem Ly (is:List It):(farC is).length=30:=by unfold farC;rw[Bo];simp
theorem Zew {is:List It}{k:Nat}(hk:k<286)(h:It.sym k∈is):0<(symC is).getD k 0:=by
 unfold symC;rw[Gp _ _ k (by simpa using hk),He];have:=List.count_pos_iff.2 (Zfx.2 h)
 omega
theorem Zgn {is:List It}{k:Nat}(hk:k<30)(h:It.far k∈is):0<(farC is).getD k 0:=by
 unfold farC;rw[Gp _ _ k (by simpa using hk),He];have:=List.count_pos_iff.2 (Zfy.2 h)
 omega
theorem Zi2 {ts:List Tk}{s f:List Int}(hv:∀t∈ts,VT t)(hl:ts.length<=3000)(hs:IsLens (symC (itsOf ts)) 15 s)(hf:IsLens (farC (itsOf ts)) 15 f):Dyn ts (trimL s 257) (trimL f 1):=by
 obtain⟨g1,l1,v1,p1⟩:=Ip (Yp hl) hs;obtain⟨g2,l2,v2,p2⟩:=Ip (Z0r hl) hf;rw[Ku]at l1 p1;rw[Ly]at l2 p2;have hi:=Hp hv
 have hA:∀k,It.sym k∈itsOf ts->k<(trimL s 257).length/\0<(trimL s 257).getD k 0:=by
  intro k hk;have h286:k<286:=hi _ hk;have hpos:0<(trimL s 257).getD k 0:=by rw[Oi];exact p1 k h286 (Zew h286 hk)
  exact⟨Qx hpos,hpos⟩
 have hB:∀k,It.far k∈itsOf ts->k<(trimL f 1).length/\0<(trimL f 1).getD k 0:=by
  intro k hk;have h30:k<30:=hi _ hk;have hpos:0<(trimL f 1).getD k 0:=by rw[Oi];exact p2 k h30 (Zgn h30 hk)
  exact⟨Qx hpos,hpos⟩
 have t1:=Vd s 257 s.length (by omega);have t2:=Je s 257 s.length;have t3:=Vd f 1 f.length (by omega);have t4:=Je f 1 f.length;refine⟨Yg g1 257,Yg g2 1, ?_, ?_, ?_, ?_,⟨hA,hB⟩,(hA 256 (by simp[itsOf])).2⟩
 . rw[Bz];exact t1
 . rw[Bz];omega
 . rw[Bz];exact t3
 . rw[Bz];omega
theorem Vk (x:Nat)(hx:x<=15):∀f m,∀i∈El x f m,i.1<19
 |0,m,i,h=>by cases h
 |f+1,m,i,h=>by
  rw[El]at h;have ih:=Vk x hx f
  split at h
  . cases h
  . split at h
    . rcases List.mem_cons.1 h with rfl|h
      . simp only;omega
      . exact ih _ i h
    . split at h
      . rcases List.mem_cons.1 h with rfl|h
        . show 16<19;decide
        . exact ih _ i h
      . split at h
        . rcases List.mem_cons.1 h with rfl|h
          . show 17<19;decide
          . exact ih _ i h
        . rcases List.mem_cons.1 h with rfl|h
          . show 18<19;decide
          . exact ih _ i h
theorem Zf8 (x m:Nat)(hx:x<=15):∀i∈Mk x m,i.1<19:=by
 intro i h;unfold Mk at h
 split at h
 . rcases List.mem_cons.1 h with rfl|h
   . simp only;omega
   . exact Vk x hx _ _ i h
 . exact Vk x hx _ _ i h
theorem Wg:∀(f:Nat) (l:List Int),(∀x∈l,0<=x/\x<=15)->∀i∈Ob f l,i.1<19
 |0,l,h,i,hi=>by cases hi
 |f+1,[],h,i,hi=>by cases hi
 |f+1,x::r,h,i,hi=>by
  have e:Ob (f+1) (x::r)=Mk x.toNat (Bm x r+1)++Ob f (r.drop (Bm x r)):=rfl;rw[e]at hi
  rcases List.mem_append.1 hi with hi|hi
  . exact Zf8 _ _ (by have:=h x (by simp);omega) i hi
  . exact Wg f _ (fun y hy=>h y (by simp[List.mem_of_mem_drop hy])) i hi
theorem Qc (own:List Int)(hG:Good own)(h7:∀k,own.getD k 0<=7)(x:Nat):∀f m,(putRs own (El x f m)).length<=7*m/\(El x f m).length<=m
 |0,m=>by rw[El];exact⟨Nat.zero_le _,Nat.zero_le _⟩
 |f+1,m=>by
  have hc:∀k,(An own k).length<=7:=fun k=>by rw[Fi own hG];have:=h7 k;omega
  have ih:=Qc own hG h7 x f;rw[El]
  split
  . exact⟨Nat.zero_le _,Nat.zero_le _⟩
  . split
    . have:=ih (m-1);have:=hc x;rw[Eo,List.length_append,Jg own hG,List.length_cons];simp only;omega
    . split
      . have:=ih (m-min m 6);have:=hc 16;rw[Eo,List.length_append,Jg own hG,List.length_cons];simp only;omega
      . split
        . have:=ih 0;have:=hc 17;rw[Eo,List.length_append,Jg own hG,List.length_cons];simp only;omega
        . have:=ih (m-min m 138);have:=hc 18;rw[Eo,List.length_append,Jg own hG,List.length_cons];simp only;omega
theorem Zag (own:List Int)(hG:Good own)(h7:∀k,own.getD k 0<=7)(x m:Nat)(hm:1<=m):(putRs own (Mk x m)).length<=7*m/\(Mk x m).length<=m:=by
 have hc:∀k,(An own k).length<=7:=fun k=>by rw[Fi own hG];have:=h7 k;omega
 unfold Mk
 split
 . have:=Qc own hG h7 x m (m-1)
   have:=hc x
   rw[Eo,List.length_append,Jg own hG,List.length_cons];simp only
   omega
 . exact Qc own hG h7 x m m
theorem Lm (own:List Int)(hG:Good own)(h7:∀k,own.getD k 0<=7):∀(f:Nat) (l:List Int),(putRs own (Ob f l)).length<=7*l.length/\(Ob f l).length<=l.length
 |0,l=>by rw[Ob];exact⟨Nat.zero_le _,Nat.zero_le _⟩
 |f+1,[]=>⟨Nat.zero_le _,Nat.zero_le _⟩
 |f+1,x::r=>by
  have e:Ob (f+1) (x::r)=Mk x.toNat (Bm x r+1)++Ob f (r.drop (Bm x r)):=rfl;have h1:=Zag own hG h7 x.toNat (Bm x r+1) (by omega);have h2:=Lm own hG h7 f (r.drop (Bm x r));have h3:=Ox x r;rw[List.length_drop]at h2;rw[e,Lb,List.length_append,List.length_append,List.length_cons];omega
theorem Zcg:Good (List.replicate 19 0):=by
 refine Ci ?_;decide+kernel
theorem Z03 (all:List Int):(lenIs all).length<=all.length:=(Lm (List.replicate 19 0) Zcg (fun k=>by rw[He];decide) _ all).2
structure Own (all own:List Int):Prop where
 go:Good own
 lo:own.length=19
 vo:∀k,0<=own.getD k 0/\own.getD k 0<=7
 has:HasR own (lenIs all)
theorem Za {all:List Int}(hl:all.length<=1000):GoodW (Xl (lenIs all)) 7:=by
 refine Nc 19 7 _ (by decide) ?_ (by decide) (by decide) (by decide);have:=Z03 all
 simp
 omega
theorem Ok (is:List (Nat×Nat×Nat)):(Xl is).length=19:=by unfold Xl;rw[Bo];simp
theorem Zhp {all own:List Int}(hl:all.length<=1000)(hx:∀x∈all,0<=x/\x<=15)(hs:IsLens (Xl (lenIs all)) 7 own):Own all own:=by
 obtain⟨g1,l1,v1,p1⟩:=Ip (Za hl) hs;rw[Ok]at l1 p1;refine⟨g1,l1,fun k=> ?_, ?_⟩
 . have:=v1 k
   simpa using this
 . intro i hi;have h19:=Wg _ all hx i hi;refine⟨by omega,p1 i.1 h19 ?_⟩;unfold Xl;rw[Gp _ _ i.1 (by simpa using h19),He];have:=List.count_pos_iff.2 (List.mem_map.2 ⟨i,hi,rfl⟩:i.1∈(lenIs all).map Prod.fst)
   omega
theorem Oy {l:List Int}(hG:Good l):∀x∈l,0<=x/\x<=15:=by
 intro x hm;obtain⟨j,hj,rfl⟩:=List.getElem_of_mem hm;have:=hG.ok j hj
 simpa[List.getD,hj]using this
end Go.Proofs.YtcjbgpacnkilnagGreatDoor
namespace Go.Proofs.YtcjbgpacnkilnagGreatDoor
open Go.RowKit
set_option linter.unusedVariables false
set_option maxRecDepth 100000
theorem Fw (x f:Nat):El x f 0= []:=by cases f<;>simp[El]
theorem Yz (x:Nat):∀m f,m<=f->El x f m=El x m m:=by
 intro m
 induction m using Nat.strongRecOn with
 |ind m ih=>
  intro f hf
  by_cases h0:m=0
  . subst h0;rw[Fw,Fw]
  . obtain⟨f',rfl⟩:∃f',f=f'+1:=⟨f-1,by omega⟩
    obtain⟨m',rfl⟩:∃m',m=m'+1:=⟨m-1,by omega⟩
    have t:∀c,0<c->El x f' (m'+1-c)=El x m' (m'+1-c):=fun c hc=>by rw[ih (m'+1-c) (by omega) f' (by omega),ih (m'+1-c) (by omega) m' (by omega)]
    rw[El,El,if_neg h0,if_neg h0,t 1 (by omega),t (min (m'+1) 6) (by omega),t (min (m'+1) 138) (by omega),Fw,Fw]
theorem Zaf (x q:Nat)(h0:0<q):El x q q=if q<3 then (x,0,0)::El x (q-1) (q-1)else if 0<x then (16,min q 6-3,2)::El x (q-min q 6) (q-min q 6)else if q<11 then (17,q-3,3)::El x (q-q) (q-q)else (18,min q 138-11,7)::El x (q-min q 138) (q-min q 138):=by
 obtain⟨q',rfl⟩:∃q',q=q'+1:=⟨q-1,by omega⟩
 have t:∀c,0<c->El x q' (q'+1-c)=El x (q'+1-c) (q'+1-c):=fun c hc=>Yz x _ _ (by omega)
 rw[El,if_neg (by omega),t 1 (by omega),t (min (q'+1) 6) (by omega),t (min (q'+1) 138) (by omega),Nat.sub_self,Fw,Fw]
structure Snk3 (J:List (Nat×Nat×Nat)->World->Prop)(Ki:World->World->Prop)(kf:Nat)(cf:Array Value)(all:List (Nat×Nat×Nat)):Prop where
 ef:∀(args:Array Value) (w:World),(callFunc kf args).run Tryz.prog w=.ok (.enter kf args) w
 step:∀ {is R:List (Nat×Nat×Nat)} {i:Nat×Nat×Nat} {W:World},is++i::R=all->J is W->Calls Tryz.prog kf (#[.int .i64 (i.1:Int),.int .i64 (i.2.1:Int),.int .i64 (i.2.2:Int)]++cf) W fun e W'=>e=.returned (.tuple #[])/\J (is++ [i]) W'/\Ki W W'
 refl:∀W,Ki W W
 jd:∀ {is:List (Nat×Nat×Nat)} {W:World} (q:Nat),J is W->J is (W.drewN q)
 kd:∀(W:World) (q:Nat),Ki W (W.drewN q)
 trans:∀ {a b c},Ki a b->Ki b c->Ki a c
theorem Qi (J:List (Nat×Nat×Nat)->World->Prop)(Ki:World->World->Prop)(kf:Nat)(cf:Array Value)(all:List (Nat×Nat×Nat))(hK:Snk3 J Ki kf cf all)(x m:Nat)(IS R:List (Nat×Nat×Nat))(w:World)(hx:x<=15)(hm:1<=m)(hm2:m<=1000)(he:IS++Mk x m++R=all)(hJ:J IS w):
 Calls Tryz.prog 144 #[.int .i64 (x:Int),.int .i64 (m:Int),.func (.func kf) #[] cf] w fun e w'=>e=.returned (.tuple #[])/\J (IS++Mk x m) w'/\Ki w w':=by
 have ef:=hK.ef;have HK:=Ab hK;have HJ:=Ab hJ;clear hK hJ;obtain⟨T,hT⟩:∃T,IS++Mk x m=T:=⟨_,rfl⟩
 rw[hT]at he;have HE:=Ab he;have HT:=Ab hT;clear he;rw[hT];clear hT;go_enter Tryz.func144,Tryz.ntmps144
 go_upto_if 8 with (fail)
 go_cut [1] (fun v wc=>∃(q:Nat) (IS2:List (Nat×Nat×Nat)),v=.int .i64 (q:Int)/\q<=1000/\Hid (J IS2 wc/\Ki w wc/\IS2++El x q q=T))
 case first=>
  by_cases h0:0<x
  . have h0I:(0:Int)<(x:Int):=by omega
    have hr:Mk x m=(x,0,0)::El x (m-1) (m-1):=by unfold Mk;rw[if_pos h0,Yz x _ _ (by omega)]
    have HS:=Ab ((Aa HK).step (is:=IS) (i:=(x,0,0)) (R:=El x (m-1) (m-1)++R) (W:=w) (by rw[<-Aa HE,<-Aa HT,hr];simp) (Aa HJ));have HT2:Hid (IS++ [(x,0,0)]++El x (m-1) (m-1)=T):=Ab (by rw[<-Aa HT,hr];simp);go_wp2_with fail
    refine(Aa HS).mono ?_;rintro e w1 ⟨rfl,hJ1,hK1⟩;have H1:=Ab (And.intro hJ1 hK1);clear hJ1 hK1;go_wp2
    all_goals go_meet
    all_goals exact⟨m-1,IS++ [(x,0,0)],by go_num,by omega,Ab ⟨(Aa H1).1,(Aa H1).2,Aa HT2⟩⟩
  . have h0I:¬(0:Int)<(x:Int):=by omega
    have hr:Mk x m=El x m m:=by unfold Mk;rw[if_neg h0]
    have HT2:Hid (IS++El x m m=T):=Ab (by rw[<-Aa HT,hr]);go_wp2
    all_goals go_meet
    all_goals exact⟨m,IS,rfl,hm2,Ab ⟨Aa HJ,(Aa HK).refl _,Aa HT2⟩⟩
 case rest=>
  obtain⟨q0,IS0,rfl,hq0,hst0⟩:=hcut;go_wp2_with fail
  go_loopw [1] (fun v wr=>∃(q:Nat) (IS2:List (Nat×Nat×Nat)),v=.int .i64 (q:Int)/\q<=1000/\Hid (J IS2 wr/\Ki w wr/\IS2++El x q q=T)) (fun v _=>(intOf v).toNat)
  case atStart=>exact⟨q0,IS0,rfl,hq0,hst0⟩
  case round=>
   obtain⟨q,IS2,rfl,hq,hst⟩:=hrel;obtain⟨j1,j2,j3⟩:=Aa hst
   by_cases h0:0<q
   . have h0I:(0:Int)<(q:Int):=by omega
     have hs:=Zaf x q h0
     have STEP:∀(i:Nat×Nat×Nat) (c:Nat),El x q q=i::El x (q-c) (q-c)->Hid (Calls Tryz.prog kf (#[.int .i64 (i.1:Int),.int .i64 (i.2.1:Int),.int .i64 (i.2.2:Int)]++cf) wr fun e W'=>e=.returned (.tuple #[])/\J (IS2++ [i]) W'/\Ki wr W')/\Hid (IS2++ [i]++El x (q-c) (q-c)=T):=by
      intro i c hc;refine⟨Ab ((Aa HK).step (is:=IS2) (i:=i) (R:=El x (q-c) (q-c)++R) (by rw[<-Aa HE,<-j3,hc];simp) j1),Ab (by rw[<-j3,hc];simp)⟩
     have HK2:=Ab j2;clear hst j1 j2 j3
     by_cases h3:q<3
     . rw[if_pos h3]at hs;obtain⟨S1,S2⟩:=STEP _ _ hs;have h3I:(q:Int)<3:=by omega
       clear STEP hs;go_wp2_with fail
       refine(Aa S1).mono ?_;rintro e w1 ⟨rfl,hJ1,hK1⟩;have H1:=Ab (And.intro hJ1 ((Aa HK).trans (Aa HK2) hK1));clear hJ1 hK1;go_wp2;go_roundw
       case rel=>exact⟨q-1,_,by go_num,by omega,Ab ⟨(Aa H1).1,(Aa H1).2,Aa S2⟩⟩
       case measure=>simp[intOf];omega
     . rw[if_neg h3]at hs;have h3I:¬(q:Int)<3:=by omega
       by_cases hx0:0<x
       . rw[if_pos hx0]at hs;have hxI:(0:Int)<(x:Int):=by omega
         rcases Nat.lt_trichotomy q 6 with h6|h6|h6
         . rw[show min q 6=q by omega]at hs;have h6I:(q:Int)<6:=by omega
           obtain⟨S1,S2⟩:=STEP _ _ hs;rw[show ((q-3:Nat):Int)=(q:Int)-3 by omega]at S1;clear STEP hs;go_wp2_with fail
           refine(Aa S1).mono ?_;rintro e w1 ⟨rfl,hJ1,hK1⟩;have H1:=Ab (And.intro hJ1 ((Aa HK).trans (Aa HK2) hK1));clear hJ1 hK1;go_wp2;go_roundw
           case rel=>exact⟨q-q,_,by go_num,by omega,Ab ⟨(Aa H1).1,(Aa H1).2,Aa S2⟩⟩
           case measure=>simp[intOf];omega
         . subst h6;obtain⟨S1,S2⟩:=STEP _ _ hs;clear STEP hs;go_wp2_with fail
           refine(Aa S1).mono ?_;rintro e w1 ⟨rfl,hJ1,hK1⟩;have H1:=Ab (And.intro hJ1 ((Aa HK).trans (Aa HK2) hK1));clear hJ1 hK1;go_wp2;go_roundw
           case rel=>exact⟨0,_,by go_num,by omega,Ab ⟨(Aa H1).1,(Aa H1).2,Aa S2⟩⟩
           case measure=>simp[intOf]
         . rw[show min q 6=6 by omega]at hs;have h6I:(6:Int)<(q:Int):=by omega
           obtain⟨S1,S2⟩:=STEP _ _ hs;clear STEP hs;go_wp2_with fail
           refine(Aa S1).mono ?_;rintro e w1 ⟨rfl,hJ1,hK1⟩;have H1:=Ab (And.intro hJ1 ((Aa HK).trans (Aa HK2) hK1));clear hJ1 hK1;go_wp2;go_roundw
           case rel=>exact⟨q-6,_,by go_num,by omega,Ab ⟨(Aa H1).1,(Aa H1).2,Aa S2⟩⟩
           case measure=>simp[intOf];omega
       . rw[if_neg hx0]at hs;have hxI:¬(0:Int)<(x:Int):=by omega
         by_cases h11:q<11
         . rw[if_pos h11]at hs;have h11I:(q:Int)<11:=by omega
           obtain⟨S1,S2⟩:=STEP _ _ hs;rw[show ((q-3:Nat):Int)=(q:Int)-3 by omega]at S1;clear STEP hs;go_wp2_with fail
           refine(Aa S1).mono ?_;rintro e w1 ⟨rfl,hJ1,hK1⟩;have H1:=Ab (And.intro hJ1 ((Aa HK).trans (Aa HK2) hK1));clear hJ1 hK1;go_wp2;go_roundw
           case rel=>exact⟨q-q,_,by go_num,by omega,Ab ⟨(Aa H1).1,(Aa H1).2,Aa S2⟩⟩
           case measure=>simp[intOf];omega
         . rw[if_neg h11]at hs;have h11I:¬(q:Int)<11:=by omega
           rcases Nat.lt_trichotomy q 138 with h6|h6|h6
           . rw[show min q 138=q by omega]at hs;have h6I:(q:Int)<138:=by omega
             obtain⟨S1,S2⟩:=STEP _ _ hs;rw[show ((q-11:Nat):Int)=(q:Int)-11 by omega]at S1;clear STEP hs;go_wp2_with fail
             refine(Aa S1).mono ?_;rintro e w1 ⟨rfl,hJ1,hK1⟩;have H1:=Ab (And.intro hJ1 ((Aa HK).trans (Aa HK2) hK1));clear hJ1 hK1;go_wp2;go_roundw
             case rel=>exact⟨q-q,_,by go_num,by omega,Ab ⟨(Aa H1).1,(Aa H1).2,Aa S2⟩⟩
             case measure=>simp[intOf];omega
           . subst h6;obtain⟨S1,S2⟩:=STEP _ _ hs;clear STEP hs;go_wp2_with fail
             refine(Aa S1).mono ?_;rintro e w1 ⟨rfl,hJ1,hK1⟩;have H1:=Ab (And.intro hJ1 ((Aa HK).trans (Aa HK2) hK1));clear hJ1 hK1;go_wp2;go_roundw
             case rel=>exact⟨0,_,by go_num,by omega,Ab ⟨(Aa H1).1,(Aa H1).2,Aa S2⟩⟩
             case measure=>simp[intOf]
           . rw[show min q 138=138 by omega]at hs;have h6I:(138:Int)<(q:Int):=by omega
             obtain⟨S1,S2⟩:=STEP _ _ hs;clear STEP hs;go_wp2_with fail
             refine(Aa S1).mono ?_;rintro e w1 ⟨rfl,hJ1,hK1⟩;have H1:=Ab (And.intro hJ1 ((Aa HK).trans (Aa HK2) hK1));clear hJ1 hK1;go_wp2;go_roundw
             case rel=>exact⟨q-138,_,by go_num,by omega,Ab ⟨(Aa H1).1,(Aa H1).2,Aa S2⟩⟩
             case measure=>simp[intOf];omega
   . obtain rfl:q=0:=by omega
     rw[Fw,List.append_nil]at j3;have HF:Hid (J T wr/\Ki w wr):=Ab ⟨by rw[<-j3];exact j1,j2⟩;clear hst j1 j2 j3;go_wp2;go_end0
     exact⟨rfl,Aa HF⟩
end Go.Proofs.YtcjbgpacnkilnagGreatDoor
