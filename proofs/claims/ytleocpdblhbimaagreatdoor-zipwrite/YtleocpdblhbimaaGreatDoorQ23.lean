import Derived.Test.YtleocpdblhbimaaGreatDoorQ22
import Derived.Shelf.Abstract
import Derived.Deep.DeepCutAuto
set_option linter.unusedSimpArgs false
set_option maxHeartbeats 4000000
namespace Go.Proofs.YtleocpdblhbimaaGreatDoor
set_option linter.unusedVariables false
set_option maxRecDepth 100000
theorem Ff (l:List Int)(hG:Good l)(q:Nat):(codeT l q).length=(l.getD q 0).toNat:=by unfold codeT;rw[Az]
def Z3n (n:Nat):Bool:=decide (257<=(Cb n).1/\(Cb n).1<=285/\(samesL.getD ((Cb n).1-257) (0,0)).2=(Cb n).2.2/\(samesL.getD ((Cb n).1-257) (0,0)).1+(Cb n).2.1=n/\(Cb n).2.1<2^(Cb n).2.2/\(Cb n).2.2<=5/\(n<=10->(Cb n).2.2=0))
def Z57 (d:Nat):Bool:=decide ((Ie d).1<=29/\(farsL.getD (Ie d).1 (0,0)).2=(Ie d).2.2/\(farsL.getD (Ie d).1 (0,0)).1+(Ie d).2.1=d/\(Ie d).2.1<2^(Ie d).2.2/\(Ie d).2.2<=10)
theorem QU:(List.range 256).all (fun n=>Z3n (n+3))=true:=by decide+kernel
theorem Z26:(List.range 3000).all (fun d=>Z57 (d+1))=true:=by decide+kernel
theorem JU {n:Nat}(h3:3<=n)(h:n<=258):257<=(Cb n).1/\(Cb n).1<=285/\(samesL.getD ((Cb n).1-257) (0,0)).2=(Cb n).2.2/\(samesL.getD ((Cb n).1-257) (0,0)).1+(Cb n).2.1=n/\(Cb n).2.1<2^(Cb n).2.2/\(Cb n).2.2<=5/\(n<=10->(Cb n).2.2=0):=by
 have:=WT.1 QU (n-3) (by simp;omega)
 rw[show n-3+3=n by omega]at this;exact of_decide_eq_true this
theorem TW {d:Nat}(h1:1<=d)(h:d<=3000):(Ie d).1<=29/\(farsL.getD (Ie d).1 (0,0)).2=(Ie d).2.2/\(farsL.getD (Ie d).1 (0,0)).1+(Ie d).2.1=d/\(Ie d).2.1<2^(Ie d).2.2/\(Ie d).2.2<=10:=by
 have:=WT.1 Z26 (d-1) (by simp;omega)
 rw[show d-1+1=d by omega]at this;exact of_decide_eq_true this
def Has (a b:List Int)(is:List It):Prop:=(∀k,It.sym k∈is->k<a.length/\0<a.getD k 0)/\(∀k,It.far k∈is->k<b.length/\0<b.getD k 0)
theorem Has.app {a b:List Int}{x y:List It}(h:Has a b (x++y)):Has a b x/\Has a b y:=
 ⟨⟨fun k hk=>h.1 k (by simp[hk]),fun k hk=>h.2 k (by simp[hk])⟩,⟨fun k hk=>h.1 k (by simp[hk]),fun k hk=>h.2 k (by simp[hk])⟩⟩
theorem Qn (a b:List Int)(x y:List It):putIs a b (x++y)=putIs a b x++putIs a b y:=by simp[putIs]
def HasR (own:List Int)(is:List (Nat×Nat×Nat)):Prop:=∀i∈is,i.1<own.length/\0<own.getD i.1 0
theorem Jm (own:List Int)(hG:Good own)(i:Nat×Nat×Nat):(CP own i).length=(codeT own i.1).length+i.2.2:=by unfold CP;rw[VB,Ae]
theorem Dz (own:List Int)(i:Nat×Nat×Nat)(is:List (Nat×Nat×Nat)):putRs own (i::is)=CP own i++putRs own is:=by simp[putRs]
theorem Lg (own:List Int)(x y:List (Nat×Nat×Nat)):putRs own (x++y)=putRs own x++putRs own y:=by simp[putRs]
theorem HasR.app {own:List Int}{x y:List (Nat×Nat×Nat)}(h:HasR own (x++y)):HasR own x/\HasR own y:=⟨fun i hi=>h i (by simp[hi]),fun i hi=>h i (by simp[hi])⟩
theorem Pf (x:Int):∀r:List Int,Bm x r<=r.length
 | []=>VC _
 |y::r=>by
  rw[Bm];have:=Pf x r
  split<;>simp<;>omega
theorem B7 (x:Int):∀r:List Int,r=List.replicate (Bm x r) x++r.drop (Bm x r)
 | []=>rfl
 |y::r=>by
  rw[Bm]
  by_cases e:y=x
  . subst e;rw[if_pos rfl,List.replicate_succ,List.drop_succ_cons,XH,<-B7 y r]
  . rw[if_neg e];rfl
theorem Z2l (xs:List Int)(p j:Nat):(Sn xs p).getD j 0=xs.getD j 0+(if j=p/\p<xs.length then 1 else 0):=by
 unfold Sn
 by_cases e:j=p
 . subst e
   by_cases h:j<xs.length
   . simp[List.getD,h]
   . simp[List.getD,h]
 . simp only[List.getD];rw[List.getElem?_set_ne (Ne.symm e),if_neg (fun h=>e h.1)];omega
theorem Gf:∀(ps:List Nat) (xs:List Int) (j:Nat),j<xs.length->(Ce xs ps).getD j 0=xs.getD j 0+(ps.count j:Nat)
 | [],xs,j,h=>by simp[Ce]
 |p::ps,xs,j,h=>by
  show (Ce (Sn xs p) ps).getD j 0=_
  rw[Gf ps _ j (by rw[Kq];exact h),Z2l,List.count_cons]
  by_cases e:j=p
  . subst e;simp[h]
    omega
  . have e2:¬p=j:=fun h=>e h.symm
    simp[e,e2]
theorem Hb (n j:Nat):(List.replicate n (0:Int)).getD j 0=0:=by by_cases h:j<n<;>simp[List.getD,h]
theorem Nj (n m:Nat)(ps:List Nat)(hn:n<=288)(hp:ps.length<=1000000)(hm:1<=m)(hm2:m<=15)(hr:n<=2^m):GoodW (Ce (List.replicate n 0) ps) m:=by
 have hl:(Ce (List.replicate n (0:Int)) ps).length=n:=by rw[Bp];simp
 refine⟨by omega, ?_,hm,hm2, ?_⟩
 . intro j hj;rw[Gf ps _ j (by simp;omega),Hb];have:=YH (a:=j) (l:=ps)
   omega
 . have:=Pq (Ce (List.replicate n 0) ps) (Ce (List.replicate n (0:Int)) ps).length
   omega
theorem QY {l:List Int}{m:Nat}{s:List Int}(h:IsLens l m s):lensD l m=s:=by
 have h2:IsLens l m (lensD l m):=Classical.epsilon_spec (p:=fun s=>IsLens l m s) ⟨s,h⟩;obtain⟨P,hP,e⟩:=h;obtain⟨Q,hQ,e2⟩:=h2;rw[e2,e,hP.one hQ]
theorem Iv {l:List Int}{m:Nat}{s:List Int}(hG:GoodW l m)(hs:IsLens l m s):Good s/\s.length=l.length/\(∀p,0<=s.getD p 0/\s.getD p 0<=m)/\∀p,p<l.length->0<l.getD p 0->0<s.getD p 0:=by
 obtain⟨P,hP,rfl⟩:=hs;have hlen:=Hp l P m;have hl:=hG.len;have hm15:=hG.hi;have hok:=Wk hG hP;refine⟨⟨by omega,fun j hj=>by have:=hok j;omega, ?_⟩,hlen,fun p=>⟨(hok p).1,(hok p).2.1⟩,fun p h1 h2=>(hok p).2.2.2 ((hP.mem p).2 ⟨h1,h2⟩)⟩
 by_cases hn:2<=P.length
 . rw[IG hG hP hn];exact VC _
 . have h2:=Hj (Cg l P m) (fun j _=>by have:=hok j;omega) (Cg l P m).length (VC _);rw[YT,Hp]at h2;rw[<-h2]
   have h4:∀k,k<=l.length->Kf (Cg l P m) k<=(wpl l k).length*16384:=by
    intro k
    induction k with
    |zero=>intro _;exact VC _
    |succ k ih=>
     intro hk;have:=ih (by omega)
     rw[wpl,VB,Kf];have hx:=hok k
     by_cases h:0<l.getD k 0
     . have h1:=hx.2.2.2 ((hP.mem k).2 ⟨by omega,h⟩);rw[if_pos h,if_pos h1];have:2^(15-((Cg l P m).getD k 0).toNat)<=2^14:=VU (by decide) (by omega)
       simp only[VJ,WO];omega
     . rw[if_neg h,if_neg (fun h5=>h ((hP.mem k).1 (hx.2.2.1 h5)).2)];simp only[WO];omega
   have h5:=h4 l.length (VC _);rw[<-hP.length]at h5;omega
theorem Jj (l:List Int)(least:Nat):∀n,Gi l least n<=n
 |0=>VC _
 |n+1=>by
  rw[Gi];have:=Jj l least n
  split<;>omega
theorem Vp (l:List Int)(least:Nat):∀n,least<=n->least<=Gi l least n
 |0,h=>h
 |n+1,h=>by
  rw[Gi]
  by_cases e:least<n+1/\l.getD n 0=0
  . rw[if_pos e];exact Vp l least n (by omega)
  . rw[if_neg e];exact h
theorem Ts (l:List Int)(least:Nat):∀n j,Gi l least n<=j->j<n->l.getD j 0=0
 |0,j,h1,h2=>by omega
 |n+1,j,h1,h2=>by
  rw[Gi]at h1
  by_cases e:least<n+1/\l.getD n 0=0
  . rw[if_pos e]at h1
    by_cases e2:j=n
    . subst e2;exact e.2
    . exact Ts l least n j h1 (by omega)
  . rw[if_neg e]at h1;omega
theorem Bz (l:List Int)(least:Nat):(trimL l least).length=Gi l least l.length:=by
 have:=Jj l least l.length
 simp[trimL];omega
theorem Ol (l:List Int)(least k:Nat):(trimL l least).getD k 0=l.getD k 0:=by
 have hl:=Bz l least
 by_cases h:k<Gi l least l.length
 . simp only[trimL,List.getD];rw[YE h]
 . have e1:(trimL l least).getD k 0=0:=by
    simp only[List.getD];rw[WN (by omega)];rfl
   rw[e1]
   by_cases h2:k<l.length
   . exact(Ts l least l.length k (by omega) h2).symm
   . simp only[List.getD];rw[WN (by omega)];rfl
theorem Pz {c d:Nat->Nat}(h:∀n,c n<=d n):∀k,takenN c k<=takenN d k
 |0=>VC _
 |k+1=>by
  rw[takenN,takenN];have h1:=Pz h k;have h2:=Nat.mul_le_mul_right (2^(14-k)) (h (k+1));omega
theorem Yc {l:List Int}(hG:Good l)(least:Nat):Good (trimL l least):=by
 have hl:=Bz l least;have hle:=Jj l least l.length;refine⟨by have:=hG.len;omega,fun j hj=>by rw[Ol];exact hG.ok j (by omega), ?_⟩;refine WC (Pz (fun n=> ?_) 15) hG.room;unfold cnt trimL;exact(List.take_sublist _ _).count_le _
def VT (t:Tk):Prop:=t.1<256/\(t.2.1=0\/ (3<=t.2.1/\t.2.1<=258/\1<=t.2.2/\t.2.2<=3000))
theorem AZ:∀(ts:List Tk) (n:Nat),Mj ts n=0->∀t∈ts,∃k,k<=3000/\Ct t k=0
 | [],n,h,t,ht=>by cases ht
 |t0::ts,n,h,t,ht=>by
  have he:Ct t0 n=0:=by
   rw[Mj]at h
   by_cases e:Ct t0 n=0
   . exact e
   . rw[if_neg e]at h;exact absurd h e
  rw[Mj,if_pos he]at h;have hz:=F3 h
  rcases WE.1 ht with rfl|ht
  . exact⟨n,by omega,he⟩
  . exact AZ ts _ h t ht
theorem GG (bs:List Nat):∀m k,∀t∈tks bs m k,∃j,t=Ob bs j
 |0,k,t,ht=>by cases ht
 |m+1,k,t,ht=>by
  rw[tks]at ht
  by_cases h:k<bs.length
  . rw[if_pos h]at ht
    rcases WE.1 ht with rfl|ht
    . exact⟨k,rfl⟩
    . exact GG bs m _ t ht
  . rw[if_neg h]at ht;cases ht
theorem W0 (bs:List Nat)(h:bs.length<=3000):Mj (Dc bs) 0=0:=GJ bs h bs.length 0 (VK _)
theorem Kd {bs:List Nat}(hb:∀j,bs.getD j 0<256)(h:bs.length<=3000):∀t∈Dc bs,VT t:=by
 intro t ht;obtain⟨j,rfl⟩:=GG bs _ _ t ht;obtain⟨k,h1,h2⟩:=AZ _ _ (W0 bs h) _ ht;refine⟨Z0j hb j, ?_⟩
 rcases Dm h2 with ⟨e1,_⟩|⟨_,e2,e3,e4,e5⟩
 . exact .inl e1
 . exact .inr ⟨e2,e3,e4,by omega⟩
def VI:It->Prop
 | .sym k=>k<286
 | .far k=>k<30
 | .rest n s=>n<2^s/\s<=10
theorem Z1u {t:Tk}(h:VT t):∀i∈Nt t,VI i:=by
 obtain⟨h0,h1⟩:=h;intro i hi;unfold Nt at hi
 rcases h1 with e|⟨e1,e2,e3,e4⟩
 . rw[if_pos e]at hi;simp only[WE,XB,or_false]at hi;subst hi;show t.1<286
   omega
 . rw[if_neg (by omega)]at hi;obtain⟨m1,m2,m3,m4,m5,m6,_⟩:=JU (n:=t.2.1.toNat) (by omega) (by omega);obtain⟨f1,f2,f3,f4,f5⟩:=TW (d:=t.2.2.toNat) (by omega) (by omega);simp only[WE,XB,or_false]at hi
   rcases hi with rfl|rfl|rfl|rfl
   . show _<286;omega
   . exact⟨m5,by omega⟩
   . show _<30;omega
   . exact⟨f4,f5⟩
theorem Hr {ts:List Tk}(h:∀t∈ts,VT t):∀i∈itsOf ts,VI i:=by
 intro i hi;unfold itsOf Of at hi
 rcases WJ.1 hi with hi|hi
 . obtain⟨t,ht,hi⟩:=List.mem_flatMap.1 hi;exact Z1u (h t ht) i hi
 . simp only[WE,XB,or_false]at hi;subst hi;show 256<286
   decide
theorem RD (t:Tk):(Nt t).length<=4:=by unfold Nt;split<;>simp
theorem Ft:∀ts:List Tk,(itsOf ts).length<=4*ts.length+1
 | []=>by simp[itsOf,Of]
 |t::ts=>by
  have e:itsOf (t::ts)=Nt t++itsOf ts:=by simp[itsOf,Of]
  have:=Ft ts
  have:=RD t
  rw[e,VB,VJ];omega
theorem QQ {is:List It}{k:Nat}:k∈OY is↔It.sym k∈is:=by
 unfold OY;rw[List.mem_filterMap]
 constructor
 . rintro ⟨i,h1,h2⟩
   cases i with
   |sym q=>simp at h2;subst h2;exact h1
   |far q=>simp at h2
   |rest a b=>simp at h2
 . intro h;exact⟨_,h,rfl⟩
theorem QR {is:List It}{k:Nat}:k∈RN is↔It.far k∈is:=by
 unfold RN;rw[List.mem_filterMap]
 constructor
 . rintro ⟨i,h1,h2⟩
   cases i with
   |far q=>simp at h2;subst h2;exact h1
   |sym q=>simp at h2
   |rest a b=>simp at h2
 . intro h;exact⟨_,h,rfl⟩
structure Dyn (ts:List Tk)(a b:List Int):Prop where
 ga:Good a
 gb:Good b
 la:257<=a.length
 la2:a.length<=286
 lb:1<=b.length
 lb2:b.length<=30
 has:Has a b (itsOf ts)
 end':0<a.getD 256 0
theorem Rj {l:List Int}{k:Nat}(h:0<l.getD k 0):k<l.length:=by
 rcases YW k l.length with e|e
 . exact e
 . simp only[List.getD]at h;rw[WN e]at h;simp at h
theorem Yn {ts:List Tk}(hl:ts.length<=3000):GoodW (symC (itsOf ts)) 15:=by
 refine Nj 286 15 _ (by decide) ?_ (by decide) (by decide) (by decide);have h2:=Ft ts;unfold OY;exact WC (ZD _ _) (by omega)
theorem C9 {ts:List Tk}(hl:ts.length<=3000):GoodW (farC (itsOf ts)) 15:=by
 refine Nj 30 15 _ (by decide) ?_ (by decide) (by decide) (by decide);have h2:=Ft ts;unfold RN;exact WC (ZD _ _) (by omega)
theorem La (is:List It):(symC is).length=286:=by unfold symC;rw[Bp];simp
theorem Me (is:List It):(farC is).length=30:=by unfold farC;rw[Bp];simp
theorem PA {is:List It}{k:Nat}(hk:k<286)(h:It.sym k∈is):0<(symC is).getD k 0:=by
 unfold symC;rw[Gf _ _ k (by simpa using hk),Hb];have:=List.count_pos_iff.2 (QQ.2 h)
 omega
theorem RO {is:List It}{k:Nat}(hk:k<30)(h:It.far k∈is):0<(farC is).getD k 0:=by
 unfold farC;rw[Gf _ _ k (by simpa using hk),Hb];have:=List.count_pos_iff.2 (QR.2 h)
 omega
theorem TZ {ts:List Tk}{s f:List Int}(hv:∀t∈ts,VT t)(hl:ts.length<=3000)(hs:IsLens (symC (itsOf ts)) 15 s)(hf:IsLens (farC (itsOf ts)) 15 f):Dyn ts (trimL s 257) (trimL f 1):=by
 obtain⟨g1,l1,v1,p1⟩:=Iv (Yn hl) hs;obtain⟨g2,l2,v2,p2⟩:=Iv (C9 hl) hf;rw[La]at l1 p1;rw[Me]at l2 p2;have hi:=Hr hv
 have hA:∀k,It.sym k∈itsOf ts->k<(trimL s 257).length/\0<(trimL s 257).getD k 0:=by
  intro k hk;have h286:k<286:=hi _ hk;have hpos:0<(trimL s 257).getD k 0:=by rw[Ol];exact p1 k h286 (PA h286 hk)
  exact⟨Rj hpos,hpos⟩
 have hB:∀k,It.far k∈itsOf ts->k<(trimL f 1).length/\0<(trimL f 1).getD k 0:=by
  intro k hk;have h30:k<30:=hi _ hk;have hpos:0<(trimL f 1).getD k 0:=by rw[Ol];exact p2 k h30 (RO h30 hk)
  exact⟨Rj hpos,hpos⟩
 have t1:=Vp s 257 s.length (by omega);have t2:=Jj s 257 s.length;have t3:=Vp f 1 f.length (by omega);have t4:=Jj f 1 f.length;refine⟨Yc g1 257,Yc g2 1, ?_, ?_, ?_, ?_,⟨hA,hB⟩,(hA 256 (by simp[itsOf])).2⟩
 . rw[Bz];exact t1
 . rw[Bz];omega
 . rw[Bz];exact t3
 . rw[Bz];omega
theorem Vv (x:Nat)(hx:x<=15):∀f m,∀i∈Dy x f m,i.1<19
 |0,m,i,h=>by cases h
 |f+1,m,i,h=>by
  rw[Dy]at h;have ih:=Vv x hx f
  split at h
  . cases h
  . split at h
    . rcases WE.1 h with rfl|h
      . simp only;omega
      . exact ih _ i h
    . split at h
      . rcases WE.1 h with rfl|h
        . show 16<19;decide
        . exact ih _ i h
      . split at h
        . rcases WE.1 h with rfl|h
          . show 17<19;decide
          . exact ih _ i h
        . rcases WE.1 h with rfl|h
          . show 18<19;decide
          . exact ih _ i h
theorem PO (x m:Nat)(hx:x<=15):∀i∈Mq x m,i.1<19:=by
 intro i h;unfold Mq at h
 split at h
 . rcases WE.1 h with rfl|h
   . simp only;omega
   . exact Vv x hx _ _ i h
 . exact Vv x hx _ _ i h
theorem Wl:∀(f:Nat) (l:List Int),(∀x∈l,0<=x/\x<=15)->∀i∈Oe f l,i.1<19
 |0,l,h,i,hi=>by cases hi
 |f+1,[],h,i,hi=>by cases hi
 |f+1,x::r,h,i,hi=>by
  have e:Oe (f+1) (x::r)=Mq x.toNat (Bm x r+1)++Oe f (r.drop (Bm x r)):=rfl;rw[e]at hi
  rcases WJ.1 hi with hi|hi
  . exact PO _ _ (by have:=h x (by simp);omega) i hi
  . exact Wl f _ (fun y hy=>h y (by simp[VY hy])) i hi
theorem Qk (own:List Int)(hG:Good own)(h7:∀k,own.getD k 0<=7)(x:Nat):∀f m,(putRs own (Dy x f m)).length<=7*m/\(Dy x f m).length<=m
 |0,m=>by rw[Dy];exact⟨VK _,VK _⟩
 |f+1,m=>by
  have hc:∀k,(codeT own k).length<=7:=fun k=>by rw[Ff own hG];have:=h7 k;omega
  have ih:=Qk own hG h7 x f;rw[Dy]
  split
  . exact⟨VK _,VK _⟩
  . split
    . have:=ih (m-1);have:=hc x;rw[Dz,VB,Jm own hG,VJ];simp only;omega
    . split
      . have:=ih (m-min m 6);have:=hc 16;rw[Dz,VB,Jm own hG,VJ];simp only;omega
      . split
        . have:=ih 0;have:=hc 17;rw[Dz,VB,Jm own hG,VJ];simp only;omega
        . have:=ih (m-min m 138);have:=hc 18;rw[Dz,VB,Jm own hG,VJ];simp only;omega
theorem IC (own:List Int)(hG:Good own)(h7:∀k,own.getD k 0<=7)(x m:Nat)(hm:1<=m):(putRs own (Mq x m)).length<=7*m/\(Mq x m).length<=m:=by
 have hc:∀k,(codeT own k).length<=7:=fun k=>by rw[Ff own hG];have:=h7 k;omega
 unfold Mq
 split
 . have:=Qk own hG h7 x m (m-1)
   have:=hc x
   rw[Dz,VB,Jm own hG,VJ];simp only
   omega
 . exact Qk own hG h7 x m m
theorem Ls (own:List Int)(hG:Good own)(h7:∀k,own.getD k 0<=7):∀(f:Nat) (l:List Int),(putRs own (Oe f l)).length<=7*l.length/\(Oe f l).length<=l.length
 |0,l=>by rw[Oe];exact⟨VK _,VK _⟩
 |f+1,[]=>⟨VK _,VK _⟩
 |f+1,x::r=>by
  have e:Oe (f+1) (x::r)=Mq x.toNat (Bm x r+1)++Oe f (r.drop (Bm x r)):=rfl;have h1:=IC own hG h7 x.toNat (Bm x r+1) (by omega);have h2:=Ls own hG h7 f (r.drop (Bm x r));have h3:=Pf x r;rw[VN]at h2;rw[e,Lg,VB,VB,VJ];omega
theorem LD:Good (List.replicate 19 0):=by
 refine Cn ?_;decide+kernel
theorem A0 (all:List Int):(lenIs all).length<=all.length:=(Ls (List.replicate 19 0) LD (fun k=>by rw[Hb];decide) _ all).2
structure Own (all own:List Int):Prop where
 go:Good own
 lo:own.length=19
 vo:∀k,0<=own.getD k 0/\own.getD k 0<=7
 has:HasR own (lenIs all)
theorem Zc {all:List Int}(hl:all.length<=1000):GoodW (Xi (lenIs all)) 7:=by
 refine Nj 19 7 _ (by decide) ?_ (by decide) (by decide) (by decide);have:=A0 all
 simp
 omega
theorem Oq (is:List (Nat×Nat×Nat)):(Xi is).length=19:=by unfold Xi;rw[Bp];simp
theorem TH {all own:List Int}(hl:all.length<=1000)(hx:∀x∈all,0<=x/\x<=15)(hs:IsLens (Xi (lenIs all)) 7 own):Own all own:=by
 obtain⟨g1,l1,v1,p1⟩:=Iv (Zc hl) hs;rw[Oq]at l1 p1;refine⟨g1,l1,fun k=> ?_, ?_⟩
 . have:=v1 k
   simpa using this
 . intro i hi;have h19:=Wl _ all hx i hi;refine⟨by omega,p1 i.1 h19 ?_⟩;unfold Xi;rw[Gf _ _ i.1 (by simpa using h19),Hb];have:=List.count_pos_iff.2 (XC.2 ⟨i,hi,rfl⟩:i.1∈(lenIs all).map Prod.fst)
   omega
theorem Ph {l:List Int}(hG:Good l):∀x∈l,0<=x/\x<=15:=by
 intro x hm;obtain⟨j,hj,rfl⟩:=XF hm;have:=hG.ok j hj
 simpa[List.getD,hj]using this
end Go.Proofs.YtleocpdblhbimaaGreatDoor
namespace Go.Proofs.YtleocpdblhbimaaGreatDoor
open Go.RowKit
set_option linter.unusedVariables false
set_option maxRecDepth 100000
theorem Fm (x f:Nat):Dy x f 0= []:=by cases f<;>simp[Dy]
theorem Zb (x:Nat):∀m f,m<=f->Dy x f m=Dy x m m:=by
 intro m
 induction m using Nat.strongRecOn with
 |ind m ih=>
  intro f hf
  by_cases h0:m=0
  . subst h0;rw[Fm,Fm]
  . obtain⟨f',rfl⟩:∃f',f=f'+1:=⟨f-1,by omega⟩
    obtain⟨m',rfl⟩:∃m',m=m'+1:=⟨m-1,by omega⟩
    have t:∀c,0<c->Dy x f' (m'+1-c)=Dy x m' (m'+1-c):=fun c hc=>by rw[ih (m'+1-c) (by omega) f' (by omega),ih (m'+1-c) (by omega) m' (by omega)]
    rw[Dy,Dy,if_neg h0,if_neg h0,t 1 (by omega),t (min (m'+1) 6) (by omega),t (min (m'+1) 138) (by omega),Fm,Fm]
theorem IB (x q:Nat)(h0:0<q):Dy x q q=if q<3 then (x,0,0)::Dy x (q-1) (q-1)else if 0<x then (16,min q 6-3,2)::Dy x (q-min q 6) (q-min q 6)else if q<11 then (17,q-3,3)::Dy x (q-q) (q-q)else (18,min q 138-11,7)::Dy x (q-min q 138) (q-min q 138):=by
 obtain⟨q',rfl⟩:∃q',q=q'+1:=⟨q-1,by omega⟩
 have t:∀c,0<c->Dy x q' (q'+1-c)=Dy x (q'+1-c) (q'+1-c):=fun c hc=>Zb x _ _ (by omega)
 rw[Dy,if_neg (by omega),t 1 (by omega),t (min (q'+1) 6) (by omega),t (min (q'+1) 138) (by omega),XM,Fm,Fm]
structure Snk3 (J:List (Nat×Nat×Nat)->World->Prop)(Ki:World->World->Prop)(kf:Nat)(cf:Array Value)(all:List (Nat×Nat×Nat)):Prop where
 ef:∀(args:Array Value) (w:World),(callFunc kf args).run Tryz.prog w=.ok (.enter kf args) w
 step:∀ {is R:List (Nat×Nat×Nat)} {i:Nat×Nat×Nat} {W:World},is++i::R=all->J is W->Calls Tryz.prog kf (#[.int .i64 (i.1:Int),.int .i64 (i.2.1:Int),.int .i64 (i.2.2:Int)]++cf) W fun e W'=>e=.returned (.tuple #[])/\J (is++ [i]) W'/\Ki W W'
 refl:∀W,Ki W W
 jd:∀ {is:List (Nat×Nat×Nat)} {W:World} (q:Nat),J is W->J is (W.drewN q)
 kd:∀(W:World) (q:Nat),Ki W (W.drewN q)
 trans:∀ {a b c},Ki a b->Ki b c->Ki a c
theorem Qr (J:List (Nat×Nat×Nat)->World->Prop)(Ki:World->World->Prop)(kf:Nat)(cf:Array Value)(all:List (Nat×Nat×Nat))(hK:Snk3 J Ki kf cf all)(x m:Nat)(IS R:List (Nat×Nat×Nat))(w:World)(hx:x<=15)(hm:1<=m)(hm2:m<=1000)(he:IS++Mq x m++R=all)(hJ:J IS w):
 Calls Tryz.prog 263 #[.int .i64 (x:Int),.int .i64 (m:Int),.func (.func kf) #[] cf] w fun e w'=>e=.returned (.tuple #[])/\J (IS++Mq x m) w'/\Ki w w':=by
 have ef:=hK.ef;have HK:=Ab hK;have HJ:=Ab hJ;clear hK hJ;obtain⟨T,hT⟩:∃T,IS++Mq x m=T:=⟨_,rfl⟩
 rw[hT]at he;have HE:=Ab he;have HT:=Ab hT;clear he;rw[hT];clear hT;go_enter Tryz.func263,Tryz.ntmps263
 go_upto_if 8 with (fail)
 go_cut [1] (fun v wc=>∃(q:Nat) (IS2:List (Nat×Nat×Nat)),v=.int .i64 (q:Int)/\q<=1000/\Hid (J IS2 wc/\Ki w wc/\IS2++Dy x q q=T))
 case first=>
  by_cases h0:0<x
  . have h0I:(0:Int)<(x:Int):=by omega
    have hr:Mq x m=(x,0,0)::Dy x (m-1) (m-1):=by unfold Mq;rw[if_pos h0,Zb x _ _ (by omega)]
    have HS:=Ab ((Aa HK).step (is:=IS) (i:=(x,0,0)) (R:=Dy x (m-1) (m-1)++R) (W:=w) (by rw[<-Aa HE,<-Aa HT,hr];simp) (Aa HJ));have HT2:Hid (IS++ [(x,0,0)]++Dy x (m-1) (m-1)=T):=Ab (by rw[<-Aa HT,hr];simp);go_wp2_with fail
    refine(Aa HS).mono ?_;rintro e w1 ⟨rfl,hJ1,hK1⟩;have H1:=Ab (And.intro hJ1 hK1);clear hJ1 hK1;go_wp2
    all_goals go_meet
    all_goals exact⟨m-1,IS++ [(x,0,0)],by go_num,by omega,Ab ⟨(Aa H1).1,(Aa H1).2,Aa HT2⟩⟩
  . have h0I:¬(0:Int)<(x:Int):=by omega
    have hr:Mq x m=Dy x m m:=by unfold Mq;rw[if_neg h0]
    have HT2:Hid (IS++Dy x m m=T):=Ab (by rw[<-Aa HT,hr]);go_wp2
    all_goals go_meet
    all_goals exact⟨m,IS,rfl,hm2,Ab ⟨Aa HJ,(Aa HK).refl _,Aa HT2⟩⟩
 case rest=>
  obtain⟨q0,IS0,rfl,hq0,hst0⟩:=hcut;go_wp2_with fail
  go_loopw [1] (fun v wr=>∃(q:Nat) (IS2:List (Nat×Nat×Nat)),v=.int .i64 (q:Int)/\q<=1000/\Hid (J IS2 wr/\Ki w wr/\IS2++Dy x q q=T)) (fun v _=>(intOf v).toNat)
  case atStart=>exact⟨q0,IS0,rfl,hq0,hst0⟩
  case round=>
   obtain⟨q,IS2,rfl,hq,hst⟩:=hrel;obtain⟨j1,j2,j3⟩:=Aa hst
   by_cases h0:0<q
   . have h0I:(0:Int)<(q:Int):=by omega
     have hs:=IB x q h0
     have STEP:∀(i:Nat×Nat×Nat) (c:Nat),Dy x q q=i::Dy x (q-c) (q-c)->Hid (Calls Tryz.prog kf (#[.int .i64 (i.1:Int),.int .i64 (i.2.1:Int),.int .i64 (i.2.2:Int)]++cf) wr fun e W'=>e=.returned (.tuple #[])/\J (IS2++ [i]) W'/\Ki wr W')/\Hid (IS2++ [i]++Dy x (q-c) (q-c)=T):=by
      intro i c hc;refine⟨Ab ((Aa HK).step (is:=IS2) (i:=i) (R:=Dy x (q-c) (q-c)++R) (by rw[<-Aa HE,<-j3,hc];simp) j1),Ab (by rw[<-j3,hc];simp)⟩
     have HK2:=Ab j2;clear hst j1 j2 j3
     by_cases h3:q<3
     . rw[if_pos h3]at hs;obtain⟨S1,S2⟩:=STEP _ _ hs;have h3I:(q:Int)<3:=by omega
       clear STEP hs;go_wp2_with fail
       refine(Aa S1).mono ?_;rintro e w1 ⟨rfl,hJ1,hK1⟩;have H1:=Ab (And.intro hJ1 ((Aa HK).trans (Aa HK2) hK1));clear hJ1 hK1;go_wp2;go_roundw
       case rel=>exact⟨q-1,_,by go_num,by omega,Ab ⟨(Aa H1).1,(Aa H1).2,Aa S2⟩⟩
       case measure=>simp[intOf];omega
     . rw[if_neg h3]at hs;have h3I:¬(q:Int)<3:=by omega
       by_cases hx0:0<x
       . rw[if_pos hx0]at hs;have hxI:(0:Int)<(x:Int):=by omega
         rcases ZK q 6 with h6|h6|h6
         . rw[show min q 6=q by omega]at hs;have h6I:(q:Int)<6:=by omega
           obtain⟨S1,S2⟩:=STEP _ _ hs;rw[show ((q-3:Nat):Int)=(q:Int)-3 by omega]at S1;clear STEP hs;go_wp2_with fail
           try rw[show min (q:Int) 6=(q:Int) by omega]
           refine(Aa S1).mono ?_;rintro e w1 ⟨rfl,hJ1,hK1⟩;have H1:=Ab (And.intro hJ1 ((Aa HK).trans (Aa HK2) hK1));clear hJ1 hK1;go_wp2;go_roundw
           case rel=>exact⟨q-q,_,by go_num,by omega,Ab ⟨(Aa H1).1,(Aa H1).2,Aa S2⟩⟩
           case measure=>simp[intOf];omega
         . subst h6;obtain⟨S1,S2⟩:=STEP _ _ hs;clear STEP hs;go_wp2_with fail
           refine(Aa S1).mono ?_;rintro e w1 ⟨rfl,hJ1,hK1⟩;have H1:=Ab (And.intro hJ1 ((Aa HK).trans (Aa HK2) hK1));clear hJ1 hK1;go_wp2;go_roundw
           case rel=>exact⟨0,_,by go_num,by omega,Ab ⟨(Aa H1).1,(Aa H1).2,Aa S2⟩⟩
           case measure=>simp[intOf]
         . rw[show min q 6=6 by omega]at hs;have h6I:(6:Int)<(q:Int):=by omega
           obtain⟨S1,S2⟩:=STEP _ _ hs;clear STEP hs;go_wp2_with fail
           try rw[show min (q:Int) 6=6 by omega]
           refine(Aa S1).mono ?_;rintro e w1 ⟨rfl,hJ1,hK1⟩;have H1:=Ab (And.intro hJ1 ((Aa HK).trans (Aa HK2) hK1));clear hJ1 hK1;go_wp2;go_roundw
           case rel=>exact⟨q-6,_,by go_num,by omega,Ab ⟨(Aa H1).1,(Aa H1).2,Aa S2⟩⟩
           case measure=>simp[intOf];omega
       . rw[if_neg hx0]at hs;have hxI:¬(0:Int)<(x:Int):=by omega
         by_cases h11:q<11
         . rw[if_pos h11]at hs;have h11I:(q:Int)<11:=by omega
           obtain⟨S1,S2⟩:=STEP _ _ hs;rw[show ((q-3:Nat):Int)=(q:Int)-3 by omega]at S1;clear STEP hs;go_wp2_with fail
           refine(Aa S1).mono ?_;rintro e w1 ⟨rfl,hJ1,hK1⟩;have H1:=Ab (And.intro hJ1 ((Aa HK).trans (Aa HK2) hK1));clear hJ1 hK1;go_wp2;go_roundw
           case rel=>exact⟨q-q,_,by go_num,by omega,Ab ⟨(Aa H1).1,(Aa H1).2,Aa S2⟩⟩
           case measure=>simp[intOf];omega
         . rw[if_neg h11]at hs;have h11I:¬(q:Int)<11:=by omega
           rcases ZK q 138 with h6|h6|h6
           . rw[show min q 138=q by omega]at hs;have h6I:(q:Int)<138:=by omega
             obtain⟨S1,S2⟩:=STEP _ _ hs;rw[show ((q-11:Nat):Int)=(q:Int)-11 by omega]at S1;clear STEP hs;go_wp2_with fail
             try rw[show min (q:Int) 138=(q:Int) by omega]
             refine(Aa S1).mono ?_;rintro e w1 ⟨rfl,hJ1,hK1⟩;have H1:=Ab (And.intro hJ1 ((Aa HK).trans (Aa HK2) hK1));clear hJ1 hK1;go_wp2;go_roundw
             case rel=>exact⟨q-q,_,by go_num,by omega,Ab ⟨(Aa H1).1,(Aa H1).2,Aa S2⟩⟩
             case measure=>simp[intOf];omega
           . subst h6;obtain⟨S1,S2⟩:=STEP _ _ hs;clear STEP hs;go_wp2_with fail
             refine(Aa S1).mono ?_;rintro e w1 ⟨rfl,hJ1,hK1⟩;have H1:=Ab (And.intro hJ1 ((Aa HK).trans (Aa HK2) hK1));clear hJ1 hK1;go_wp2;go_roundw
             case rel=>exact⟨0,_,by go_num,by omega,Ab ⟨(Aa H1).1,(Aa H1).2,Aa S2⟩⟩
             case measure=>simp[intOf]
           . rw[show min q 138=138 by omega]at hs;have h6I:(138:Int)<(q:Int):=by omega
             obtain⟨S1,S2⟩:=STEP _ _ hs;clear STEP hs;go_wp2_with fail
             try rw[show min (q:Int) 138=138 by omega]
             refine(Aa S1).mono ?_;rintro e w1 ⟨rfl,hJ1,hK1⟩;have H1:=Ab (And.intro hJ1 ((Aa HK).trans (Aa HK2) hK1));clear hJ1 hK1;go_wp2;go_roundw
             case rel=>exact⟨q-138,_,by go_num,by omega,Ab ⟨(Aa H1).1,(Aa H1).2,Aa S2⟩⟩
             case measure=>simp[intOf];omega
   . obtain rfl:q=0:=by omega
     rw[Fm,WZ]at j3;have HF:Hid (J T wr/\Ki w wr):=Ab ⟨by rw[<-j3];exact j1,j2⟩;clear hst j1 j2 j3;go_wp2;go_end0
     exact⟨rfl,Aa HF⟩
end Go.Proofs.YtleocpdblhbimaaGreatDoor
namespace Go.Proofs.YtleocpdblhbimaaGreatDoor
set_option linter.unusedVariables false
set_option maxRecDepth 100000
theorem Mf:Jx.length=257:=by decide
theorem Rq:Oh.length=1:=rfl
theorem ED:Good Jx:=Cn (by decide+kernel)
theorem EC:Good Oh:=Cn (by decide+kernel)
theorem Wu:(List.range 257).all (fun k=>decide (0<Jx.getD k 0))=true:=by decide+kernel
theorem D1 {k:Nat}(h:k<257):0<Jx.getD k 0:=by
 have:=WT.1 Wu k (by simpa using h)
 exact of_decide_eq_true this
theorem Jc (bs:List Nat):(Dh bs).length=bs.length:=by simp[Dh]
theorem Wt {bs:List Nat}(hb:∀j,bs.getD j 0<256):∀t∈Dh bs,VT t:=by
 intro t ht;unfold Dh at ht;obtain⟨b,h1,rfl⟩:=XC.1 ht;obtain⟨j,hj,rfl⟩:=XF h1;refine⟨?_,.inl rfl⟩;have:=hb j
 simpa[List.getD,hj]using this
theorem D0 (bs:List Nat):itsOf (Dh bs)=bs.map (fun b=>It.sym b)++ [.sym 256]:=by
 unfold itsOf Of Dh
 congr 1
 induction bs with
 |nil=>rfl
 |cons b bs ih=>
  rw[WP,WP,XR,ih];rfl
theorem Pk {bs:List Nat}(hb:∀j,bs.getD j 0<256):Dyn (Dh bs) Jx Oh:=by
 refine⟨ED,EC,by rw[Mf];decide,by rw[Mf];decide,by rw[Rq];decide,by rw[Rq];decide,⟨fun k hk=> ?_,fun k hk=> ?_⟩,D1 (by decide)⟩
 . rw[D0]at hk
   have h:k<257:=by
    rcases WJ.1 hk with h|h
    . obtain⟨b,h1,h2⟩:=XC.1 h
      cases h2
      obtain⟨j,hj,rfl⟩:=XF h1;have:=hb j
      simp[List.getD,hj]at this
      omega
    . simp at h;omega
   exact⟨by rw[Mf];exact h,D1 h⟩
 . rw[D0]at hk
   rcases WJ.1 hk with h|h
   . obtain⟨b,h1,h2⟩:=XC.1 h
     cases h2
   . simp at h
theorem We (own:List Int):∀n,Wg own n<=n
 |0=>VC _
 |n+1=>by
  rw[Wg];have:=We own n
  split<;>omega
theorem N3 (own:List Int):∀n,4<=n->4<=Wg own n
 |0,h=>h
 |n+1,h=>by
  rw[Wg]
  by_cases e:4<n+1/\own.getD (ord19.getD n 0) 0=0
  . rw[if_pos e];exact N3 own n (by omega)
  . rw[if_neg e];exact h
theorem Ox (own:List Int):∀ks:List Nat,(ks.flatMap (fun k=>Ah (own.getD k 0).toNat 3)).length=3*ks.length
 | []=>rfl
 |k::ks=>by
  rw[XR,VB,Ae,Ox own ks,VJ];omega
theorem B8 {a b own:List Int}(h:Own (a++b) own):(Ix a b own).length<=71+7*(a.length+b.length):=by
 have h1:=Ls own h.go (fun k=>(h.vo k).2) (a++b).length (a++b);have h2:=We own 19;unfold Ix;rw[VB,VB,VB,VB,Ae,Ae,Ae,Ox];have h3:(putRs own (lenIs (a++b))).length<=7*(a++b).length:=h1.1;rw[VB]at h3;have h4:(ord19.take (Wg own 19)).length<=19:=by rw[VM];omega
 omega
theorem JZ:∀(f:Nat) (l:List Int),l.length<=f->Oe f l=lenIs l:=by
 intro f
 induction f using Nat.strongRecOn with
 |ind f ih=>
  intro l hl
  cases l with
  |nil=>cases f<;>rfl
  |cons x r=>
   obtain⟨f',rfl⟩:∃f',f=f'+1:=⟨f-1,by simp at hl;omega⟩
   have hh:=Pf x r;have hl':r.length<=f':=by simp at hl;omega
   have hd:(r.drop (Bm x r)).length<=f':=by rw[VN];omega
   have e1:Oe (f'+1) (x::r)=Mq x.toNat (Bm x r+1)++Oe f' (r.drop (Bm x r)):=rfl;have e2:lenIs (x::r)=Mq x.toNat (Bm x r+1)++Oe r.length (r.drop (Bm x r)):=rfl;rw[e1,e2,ih f' (by omega) _ hd]
   by_cases e:r.length=f'
   . rw[e,ih f' (by omega) _ hd]
   . rw[ih r.length (by omega) _ (by rw[VN];omega)]
theorem Uj (x:Int)(r:List Int):lenIs (x::r)=Mq x.toNat (Bm x r+1)++lenIs (r.drop (Bm x r)):=by
 have e2:lenIs (x::r)=Mq x.toNat (Bm x r+1)++Oe r.length (r.drop (Bm x r)):=rfl;rw[e2,JZ _ _ (by rw[VN];omega)]
theorem Ww {r:List Int}{k:Nat}(hk:k<r.length):r.drop k=r.getD k 0::r.drop (k+1):=by
 rw[WU hk];simp[List.getD,hk]
theorem DP {x:Int}:∀(r:List Int) (k:Nat),k<r.length->r.getD k 0=x->Bm x r=k+Bm x (r.drop k)->Bm x r=(k+1)+Bm x (r.drop (k+1)):=by
 intro r k hk hx h;rw[h,Ww hk,Bm,if_pos hx];omega
theorem DO {x:Int}(r:List Int)(k:Nat)(hk:k<r.length)(hx:r.getD k 0≠x)(h:Bm x r=k+Bm x (r.drop k)):Bm x r=k:=by
 rw[h,Ww hk,Bm,if_neg hx];omega
theorem KX {x:Int}(r:List Int)(k:Nat)(hk:r.length<=k)(h:Bm x r=k+Bm x (r.drop k)):Bm x r=k:=by
 rw[h,XW hk,Bm];omega
end Go.Proofs.YtleocpdblhbimaaGreatDoor
namespace Go.Proofs.YtleocpdblhbimaaGreatDoor
open Go.RowKit
set_option linter.unusedVariables false
set_option maxRecDepth 100000
def Z4t:Value->Nat
 | .slice _ n _=>n
 |_=>0
theorem MF (w:World)(a b:Nat):(w.drewN a).drewN b=w.drewN (a+b):=by simp
theorem Ip (J:List (Nat×Nat×Nat)->World->Prop)(Ki:World->World->Prop)(kf:Nat)(cf:Array Value)(b o len cap:Nat)(l:List Int)(w:World)(hK:Snk3 J Ki kf cf (lenIs l))(hl:l.length=len)(hlen:len<=1000)(hcap:len<=cap)(hx:∀x∈l,0<=x/\x<=15)(hrow:∀W,Ki w W->Row .i64 W b o l)(hJ:J [] w):
 Calls Tryz.prog 243 #[.slice (some ⟨b,o,none⟩) len cap,.func (.func kf) #[] cf] w fun e w'=>e=.returned (.tuple #[])/\J (lenIs l) w'/\Ki w w':=by
 have HK:=Ab hK;have HROW:=Ab hrow;have HX:=Ab hx;have HL:=Ab hl;have HJ:=Ab hJ;clear hK hrow hx hl hJ;go_enter Tryz.func243,Tryz.ntmps243
 go_wp2_with fail
 go_loopw [0] (fun v wr=>∃i n c:Nat,i+n=len/\n<=c/\(∃a,v=.slice a n c/\(0<n->a=some ⟨b,o+i,none⟩))/\Hid (∃IS,J IS wr/\Ki w wr/\IS++lenIs (l.drop i)=lenIs l)) (fun v _=>Z4t v)
 case atStart=>exact⟨0,len,cap,by omega,hcap,⟨some ⟨b,o,none⟩,rfl,fun _=>rfl⟩,Ab ⟨[],Aa HJ,(Aa HK).refl _,rfl⟩⟩
 case round=>
  obtain⟨i,n,c,hi,hnc,⟨a,rfl,ha⟩,hst⟩:=hrel
  by_cases hlt:0<n
  . obtain rfl:=ha hlt;obtain⟨IS,hJ,hKi,hIS⟩:=Aa hst;have hR:=Aa HROW wr hKi;have hil:i<l.length:=by rw[Aa HL];omega
    have hd:=Ww hil;obtain⟨x,hxx⟩:=VW (show 0<=l.getD i 0 from (Aa HX _ (by simp[List.getD,hil])).1)
    have hx15:x<=15:=by
     have:=(Aa HX (l.getD i 0) (by simp[List.getD,hil])).2
     omega
    rw[hxx]at hd;obtain⟨r,hr⟩:∃r,l.drop (i+1)=r:=⟨_,rfl⟩
    rw[hr]at hd;have hrl:r.length=n-1:=by rw[<-hr,VN,Aa HL];omega
    have hc0:wr.cell? ⟨b,o+i,none⟩=some (.int .i64 (x:Int)):=by
     have:=hR i hil
     rw[hxx]at this;exact this
    have hcells:∀k:Nat,1<=k->k<n->wr.cell? ⟨b,o+i+k,none⟩=some (.int .i64 (r.getD (k-1) 0)):=by
     intro k hk1 hk;have h1:=hR (i+k) (by rw[Aa HL];omega)
     have h2:r.getD (k-1) 0=l.getD (i+k) 0:=by
      rw[<-hr];simp only[List.getD,YF]
      congr 2
      omega
     rw[h2,WH];exact h1
    have HC:=Ab hcells;have HD:=Ab hd;have HS:=Ab (And.intro hJ (And.intro hKi hIS));have HRL:=Ab hrl;have HR:=Ab hr;have hnI:(0:Int)<(n:Int):=by omega
    clear hst hJ hKi hIS hR hd hcells hrl hr hxx ha hil;generalize wr=wl at*;go_wp2;go_loopw [4] (fun v W=>∃k q:Nat,Hid (W=wl.drewN q)/\1<=k/\k<=n/\v=.int .i64 (k:Int)/\Hid (Bm x r=(k-1)+Bm x (r.drop (k-1)))) (fun v _=>n-(intOf v).toNat)
    case atStart=>exact⟨1,0,Ab rfl,VC _,by omega,rfl,Ab (by simp)⟩
    case round=>
     obtain⟨k,q,HW,hk1,hkn,rfl,hh⟩:=hrel;have hc0':wr.cell? ⟨b,o+i,none⟩=some (.int .i64 (x:Int)):=by rw[Aa HW];exact hc0
     by_cases hk:k<n
     . have c1:wr.cell? ⟨b,o+i+k,none⟩=some (.int .i64 (r.getD (k-1) 0)):=by rw[Aa HW];exact Aa HC k hk1 hk
       have hkI:(k:Int)<(n:Int):=by omega
       by_cases he:r.getD (k-1) 0=x
       . rw[he]at c1
         have HN:Hid (Bm x r=(k+1-1)+Bm x (r.drop (k+1-1))):=Ab (by
          have:=DP r (k-1) (by rw[Aa HRL];omega) he (Aa hh)
          rw[show k-1+1=k+1-1 by omega]at this;exact this)
         clear he hh;go_wp2;go_quiet (fail)
         go_wp2;go_roundw
         case rel=>exact⟨k+1,_,Ab (by rw[Aa HW];exact MF _ _ _),by omega,by omega,by go_num,HN⟩
         case measure=>simp[intOf];omega
       . have hb:(r.getD (k-1) 0==(x:Int))=false:=by rw[beq_eq_false_iff_ne];exact he
         have HN:Hid (Bm x r=k-1):=Ab (DO r (k-1) (by rw[Aa HRL];omega) he (Aa hh));generalize r.getD (k-1) 0=y at c1 hb;clear he hh;go_wp2;go_quiet (fail)
         have HALL:Hid (IS++Mq x k++lenIs (l.drop (i+k))=lenIs l):=Ab (by
          rw[<-(Aa HS).2.2,Aa HD,Uj,WD,Aa HN,show k-1+1=k by omega,<-Aa HR,YA,show i+1+(k-1)=i+k by omega,VH])
         go_wp2_with fail
         refine(Qr J Ki kf cf (lenIs l) (Aa HK) x k IS (lenIs (l.drop (i+k))) _ hx15 hk1 (by omega) (Aa HALL) ((Aa HK).jd _ (by rw[Aa HW];exact(Aa HK).jd _ (Aa HS).1))).mono ?_;rintro e w2 ⟨rfl,hJ2,hK2⟩;have H2:=Ab (And.intro hJ2 ((Aa HK).trans (Aa HS).2.1 ((Aa HK).trans (by rw[Aa HW];exact(Aa HK).kd wl q) ((Aa HK).trans ((Aa HK).kd wr _) hK2))));clear hJ2 hK2;go_wp2;go_roundw
         case rel=>exact⟨i+k,n-k,c-k,by omega,by omega,⟨_,rfl,fun _=>by rw[WH]⟩,Ab ⟨_,(Aa H2).1,(Aa H2).2,Aa HALL⟩⟩
         case measure=>simp[Z4t];omega
     . obtain rfl:k=n:=by omega
       have hkI:¬(k:Int)<(k:Int):=by omega
       have HN:Hid (Bm x r=k-1):=Ab (KX r (k-1) (by rw[Aa HRL];omega) (Aa hh));clear hh hkI;go_wp2;go_quiet (fail)
       have HALL:Hid (IS++Mq x k++lenIs (l.drop (i+k))=lenIs l):=Ab (by
        rw[<-(Aa HS).2.2,Aa HD,Uj,WD,Aa HN,show k-1+1=k by omega,<-Aa HR,YA,show i+1+(k-1)=i+k by omega,VH])
       go_wp2_with fail
       refine(Qr J Ki kf cf (lenIs l) (Aa HK) x k IS (lenIs (l.drop (i+k))) _ hx15 hk1 (by omega) (Aa HALL) ((Aa HK).jd _ (by rw[Aa HW];exact(Aa HK).jd _ (Aa HS).1))).mono ?_;rintro e w2 ⟨rfl,hJ2,hK2⟩;have H2:=Ab (And.intro hJ2 ((Aa HK).trans (Aa HS).2.1 ((Aa HK).trans (by rw[Aa HW];exact(Aa HK).kd wl q) ((Aa HK).trans ((Aa HK).kd wr _) hK2))));clear hJ2 hK2;go_wp2;go_roundw
       case rel=>exact⟨i+k,0,c-k,by omega,by omega,⟨_,rfl,fun h=>absurd h (by omega)⟩,Ab ⟨_,(Aa H2).1,(Aa H2).2,Aa HALL⟩⟩
       case measure=>simp[Z4t];omega
  . obtain rfl:n=0:=by omega
    obtain⟨IS,hJ,hKi,hIS⟩:=Aa hst;rw[XW (by rw[Aa HL];omega)]at hIS;have HF:Hid (J (lenIs l) wr/\Ki w wr):=Ab ⟨by rw[<-hIS];simpa[lenIs,Oe]using hJ,hKi⟩;clear hst hJ hKi hIS ha;go_wp2;go_end0
    exact⟨rfl,Aa HF⟩
end Go.Proofs.YtleocpdblhbimaaGreatDoor
