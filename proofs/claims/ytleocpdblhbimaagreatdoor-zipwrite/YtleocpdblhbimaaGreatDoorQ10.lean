import Derived.Test.YtleocpdblhbimaaGreatDoorQ7
set_option linter.unusedSimpArgs false
namespace Go.Proofs.YtleocpdblhbimaaGreatDoor
set_option linter.unusedVariables false
theorem AO:∀ {l:List Fl} {p:Option Fl},AP p l=0->∀f∈l,Ks f=0
 | [],p,h,f,hf=>by cases hf
 |g::r,p,h,f,hf=>by
  unfold AP at h
  by_cases e:Ks g=0
  . rw[if_neg (by rw[e];decide)]at h
    split at h
    . cases h
    . rcases WE.1 hf with rfl|hf
      . exact e
      . exact AO h f hf
  . rw[if_pos e]at h;exact absurd h e
theorem Jv {l:List Fl}(h:Nh l=0):l.length<=12/\∀f∈l,Ks f=0:=by
 unfold Nh at h
 split at h
 . cases h
 . exact⟨by omega,AO h⟩
theorem Hu {f:Fl}(h:Ks f=0):f.name.length<=40/\f.bytes.length<=3000/\0<=f.stamp/\f.stamp<=1000000/\0<=f.node/\f.node<=3:=by
 unfold Ks at h
 split at h
 . rename_i h1;exact absurd h h1
 . rename_i h1
   have h1':Jz f.name=0:=by
    by_cases e:Jz f.name=0
    . exact e
    . exact absurd e h1
   split at h
   . cases h
   . split at h
     . cases h
     . have:=(Z28 h1').1
       omega
structure ENd (n:Nat)(x:En):Prop where
 mt:x.meth<65536
 cr:x.crc<4294967296
 pl:x.pk.length<=n
 st:0<=x.f.stamp/\x.f.stamp<4294967296
 nd:0<=x.f.node/\x.f.node<65536
 nm:x.f.name.length<=n/\x.f.name.length<65536
 un:∃ys,unpF x.meth x.pk=some ys/\x.f.bytes=o8 ys
theorem ENd.mono {n m:Nat}{x:En}(h:ENd n x)(hm:n<=m):ENd m x:=⟨h.mt,h.cr,WC h.pl hm,h.st,h.nd,⟨WC h.nm.1 hm,h.nm.2⟩,h.un⟩
theorem Zw {l:List Nat}{k:Nat}(hl:l.length=k)(hv:∀x∈l,x<256):Al l<256^k:=by rw[<-hl];exact Jp l hv
theorem RR {r q:List Nat}{x:En}(hv:∀y∈r,y<256)(h:Fa r=some (x,q)):ENd r.length x:=by
 unfold Fa at h;obtain⟨a1,r1,rfl,l1,h⟩:=An h;dsimp only at h;obtain⟨a2,r2,rfl,l2,h⟩:=An h;dsimp only at h;obtain⟨a3,r3,rfl,l3,h⟩:=An h;dsimp only at h;obtain⟨a4,r4,rfl,l4,h⟩:=An h;dsimp only at h;obtain⟨a5,r5,rfl,l5,h⟩:=An h;dsimp only at h;obtain⟨a6,r6,rfl,l6,h⟩:=An h;dsimp only at h;obtain⟨a7,r7,rfl,l7,h⟩:=An h;dsimp only at h;obtain⟨a8,r8,rfl,l8,h⟩:=An h;dsimp only at h;obtain⟨a9,r9,rfl,l9,h⟩:=An h;dsimp only at h;obtain⟨a10,r10,rfl,l10,h⟩:=An h;dsimp only at h;obtain⟨a11,r11,rfl,l11,h⟩:=An h;dsimp only at h;obtain⟨a12,r12,rfl,l12,h⟩:=An h;dsimp only at h;obtain⟨a13,r13,rfl,l13,h⟩:=An h;dsimp only at h;obtain⟨a14,r14,rfl,l14,h⟩:=An h;dsimp only at h
 cases hu:unpF (Al a2) a14 with
 |none=>rw[hu]at h;cases h
 |some b=>
  rw[hu]at h;simp only[VF,YK,YU]at h;obtain⟨rfl,rfl⟩:=h;have v2:=Zw l2 (fun z hz=>hv z (by simp[hz]));have v4:=Zw l4 (fun z hz=>hv z (by simp[hz]));have v7:=Zw l7 (fun z hz=>hv z (by simp[hz]));have v11:=Zw l11 (fun z hz=>hv z (by simp[hz]));have v12:=Zw l12 (fun z hz=>hv z (by simp[hz]));simp only[Nat.reducePow]at v2 v4 v7 v11 v12;refine⟨v2,v4,by simp only[VB];omega,⟨by dsimp only;omega,by dsimp only;omega⟩,⟨by dsimp only;omega,by dsimp only;omega⟩,⟨by dsimp only;rw[Fr];simp only[VB];omega,by dsimp only;rw[Fr];omega⟩,b,hu,rfl⟩
theorem D9:∀ {F:Nat} {r:List Nat} {l:List En},(∀y∈r,y<256)->Ca F r=some l->l.length*41<=r.length/\∀x∈l,ENd r.length x
 |0,r,l,_,h=>by cases h
 |F+1,r,l,hv,h=>by
  unfold Ca at h;obtain⟨m,q,rfl,hl,h⟩:=An h;dsimp only at h
  split at h
  . cases he:Fa q with
    |none=>rw[he]at h;cases h
    |some p=>
     rw[he]at h;simp only[VF,XG]at h;obtain⟨l2,h1,rfl⟩:=h;have hm:=Rv (x:=p.1) (q:=p.2) he;have hvq:∀y∈q,y<256:=fun y hy=>hv y (by simp[hy])
     have ih:=D9 (hm.2.1 hvq).2 h1;have h3:=hm.1;refine⟨by rw[VJ,VB];omega,fun x hx=> ?_⟩
     rcases WE.1 hx with rfl|hx
     . exact(RR hvq he).mono (by rw[VB];omega)
     . exact(ih.2 x hx).mono (by rw[VB];omega)
  . cases h
    exact⟨VK _,fun x hx=>by cases hx⟩
end Go.Proofs.YtleocpdblhbimaaGreatDoor
namespace Go.Proofs.YtleocpdblhbimaaGreatDoor
set_option linter.unusedVariables false
set_option maxRecDepth 100000
def Vl (u:US):Prop:=∀x∈u.out,x<256
theorem Vl.same {u v:US}(h:Vl u)(e:v.out=u.out):Vl v:=fun x hx=>h x (by rw[<-e];exact hx)
theorem Vl.at {u:US}(h:Vl u)(j:Nat):u.out.getD j 0<256:=by
 by_cases hj:j<u.out.length
 . rw[List.getD,VR hj];exact h _ (WK hj)
 . rw[List.getD,WN (by omega)];exact(by decide:(0:Nat)<256)
theorem Dr (row:List Bool)(n:Nat)(u:US)(h:Vl u):Vl (uget row n u).2:=h.same (Eg row n u)
theorem Dq (l:List Int)(row:List Bool)(u:US)(h:Vl u):Vl (uplace l row u).2:=h.same (Ii l row u).1
theorem Xp (x:Int)(u:US)(h:Vl u):Vl (Ck x u):=h.same (Xq x u).2.1
theorem FQ (c:Nat)(u:US)(hc:c<256)(h:Vl u):Vl (Hy c u):=by
 unfold Hy
 split
 . split
   . exact h
   . intro x hx
     rcases WJ.1 hx with h1|h1
     . exact h x h1
     . rw[WQ.1 h1];exact hc
 . exact h
theorem Xs (row:List Bool):∀(k:Nat) (u:US),Vl u->Vl (ustore row k u)
 |0,u,h=>h
 |k+1,u,h=>by
  unfold ustore
  split
  . exact Xs row k _ (FQ _ _ (J8 row 8 u) (Dr _ _ _ h))
  . exact h
theorem V1 (d:Nat):∀(k:Nat) (u:US),Vl u->Vl (ucopy d k u)
 |0,u,h=>h
 |k+1,u,h=>by
  unfold ucopy
  split
  . exact V1 d k _ (FQ _ _ (h.at _) h)
  . exact h
theorem DF (row:List Bool)(u:US)(h:Vl u):Vl (Ey row u):=by
 have h0:Vl {u with p:=(u.p+7)/8*8}:=h
 have h1:Vl (Df row u).2:=by
  unfold Df;dsimp only
  split
  . exact Xp _ _ (Dr _ _ _ (Dr _ _ _ h0))
  . exact Dr _ _ _ (Dr _ _ _ h0)
 unfold Ey;dsimp only
 split
 . exact Xp _ _ h1
 . exact Xs _ _ _ h1
theorem KR (row:List Bool)(l:List Int)(u:US)(h:Vl u):Vl (Wp row l u).2:=by
 unfold Wp
 split
 . exact Dq _ _ _ h
 . split
   . exact Dq _ _ _ h
   . exact Dr _ _ _ (Dq _ _ _ h)
theorem RG (d k:Nat)(u:US)(h:Vl u):Vl (Sw d k u):=by
 unfold Sw
 split
 . exact h
 . split
   . exact h
   . exact V1 _ _ _ h
theorem AA (row:List Bool)(lb:List Int)(k:Nat)(u:US)(h:Vl u):Vl (Fu row lb k u):=by
 unfold Fu
 split
 . rename_i hk
   split
   . exact h
   . intro x hx
     rcases WJ.1 hx with h1|h1
     . exact h x h1
     . rw[WQ.1 h1];exact hk
 . split
   . exact h
   . split
     . exact Dr _ _ _ h
     . split
       . exact KR _ _ _ (Dr _ _ _ h)
       . exact RG _ _ _ (KR _ _ _ (Dr _ _ _ h))
theorem Wm (row:List Bool)(la lb:List Int):∀(f:Nat) (u:US),Vl u->Vl (Nf row la lb f u)
 |0,u,h=>by
  unfold Nf
  split
  . exact Dq _ _ _ h
  . exact Dq _ _ _ h
 |f+1,u,h=>by
  rw[Js]
  split
  . exact Dq _ _ _ h
  . split
    . exact Dq _ _ _ h
    . split
      . exact AA _ _ _ _ (Dq _ _ _ h)
      . exact Wm row la lb f _ (AA _ _ _ _ (Dq _ _ _ h))
theorem Wo (k:Nat)(u:US)(h:Vl u):Vl (Lv k u):=by
 unfold Lv
 split
 . exact h
 . exact h
theorem RF (row:List Bool)(k:Nat)(u:US)(hp:u.p<=row.length)(h:Vl u)(he:(Lu row k u).e=0):Vl (Lu row k u):=by
 unfold Lu at he ⊢
 split
 . exact Wo _ _ (DF _ _ h)
 . rename_i c0
   rw[if_neg c0]at he
   split
   . exact Wo _ _ (Wm _ _ _ _ _ h)
   . rename_i c1
     rw[if_neg c1]at he
     split
     . rename_i c2
       rw[if_pos c2]at he
       split
       . rename_i c3
         rw[if_pos c3]at he;exact absurd he c3
       . rename_i c3
         have e0:(Hc row u).2.e=0:=by omega
         obtain⟨A,C,v,hv⟩:∃A C v,Hc row u=((A,C),v):=⟨_,_,_,rfl⟩
         rw[hv]at e0 ⊢;obtain⟨m0,n0,c0,u1,u2,u3,us,S,L,hT⟩:=Gt hv e0;obtain⟨t1,t2,t3,t4⟩:=Ps hT hp;exact Wo _ _ (Wm _ _ _ _ _ (h.same t3))
     . exact h
theorem B0 (row:List Bool)(u:US)(hp:u.p<=row.length)(h:Vl u)(he:(Bv row u).2.e=0):Vl (Bv row u).2:=by
 unfold Bv at he ⊢
 split
 . exact Dr _ _ _ h
 . rename_i c
   rw[if_neg c]at he
   split
   . exact Dr _ _ _ (Dr _ _ _ h)
   . rename_i c2
     rw[if_neg c2]at he;exact RF _ _ _ (AD _ _ _ (AD _ _ _ hp)) (Dr _ _ _ (Dr _ _ _ h)) he
theorem Um (row:List Bool)(N:Nat)(hN:row.length=8*N):∀(F:Nat) (u:US),u.e=0->u.p<=row.length->u.out.length<=3000->Vl u->(Cr row F u).e=0->Vl (Cr row F u)
 |0,u,he,hp,ho,h,hz=>h
 |F+1,u,he,hp,ho,h,hz=>by
  rw[Cr]at hz ⊢
  by_cases c:(Bv row u).1=0/\(Bv row u).2.e=0
  . rw[if_pos c]at hz ⊢;obtain⟨a1,a2,a3,a4⟩:=Jt row N hN u he hp ho c.2;exact Um row N hN F _ c.2 a3 a4 (B0 row u hp h c.2) hz
  . rw[if_neg c]at hz ⊢;exact B0 row u hp h hz
theorem A8 (row:List Bool)(N:Nat)(hN:row.length=8*N)(h:(Db row).e=0)(j:Nat):(Db row).out.getD j 0<256:=
 (Um row N hN (row.length+1) US0 rfl (VK _) (VK _) (by intro x hx;cases hx) h).at j
theorem Xz {d:Nat}:∀ {n:Nat} {u:US},(ucopy d n u).e=0->u.out.length<=3000->u.out.length+n<=3000
 |0,u,h,ho=>by omega
 |n+1,u,h,ho=>by
  have he:=He h;rw[ucopy,if_pos he]at h;obtain⟨_,h2,h3⟩:=Nq (He h);rw[h3]at h;have ih:=Xz h (by simp only[VB,VJ,WO];omega);simp only[VB,VJ,WO]at ih;omega
theorem Jr (row:List Bool)(a b:List Int):∀(F F':Nat) (u:US),(utok row a b F u).e=0->row.length+1<=u.p+F->row.length+1<=u.p+F'->u.p<=row.length->u.out.length<=3000->Nf row a b F' u=utok row a b F u
 |0,F',u,h,h1,h2,hp,ho=>by omega
 |F+1,0,u,h,h1,h2,hp,ho=>by omega
 |F+1,F'+1,u,h,h1,h2,hp,ho=>by
  obtain⟨t,x,hT,e⟩:=Ji h;obtain⟨a1,a2,a3,a4,a5⟩:=hT.ahead;rw[e]at h ⊢;rw[Js]
  cases hT with
  |stop v g1 g2=>
   simp[g1,g2]
  |byte c x g1 g2 g3 g4=>
   have hx:x.out.length<=3000:=by
    have:=Bt g1 g2
    rw[this.2.2.1];exact ho
   have hs:Fu row b c x= {x with out:=x.out++ [c]}:=by
    unfold Fu;rw[if_pos g3,if_neg (by omega)]
   rw[g1];simp only
   rw[if_neg (fun h=>h g2),if_neg (by omega),hs,if_neg (fun h=>h g2),if_pos trivial];rw[if_pos rfl]at h;exact Jr row a b F F' _ h (by omega) (by omega) a2 (a5 ho)
  |same k n0 f d0 x1 x2 x3 x4 _ g1 g2 g3 g4 g5 g6 g7 g8 g9 g10 g11 g12 g13 g14=>
   have p1:=Bt g1 g2;have p2:=Ax g5 g6;have p3:=Bt g7 g8;have p4:=Ax g10 g11;have hx4:x4.out.length<=3000:=by rw[p4.2.2.1,p3.2.2.1,p2.2.2.1,p1.2.2.1];exact ho
   have hfit:=Xz (by rw[g13];exact g14:(ucopy ((farsL.getD f (0,0)).1+d0) ((samesL.getD (k-257) (0,0)).1+n0) x4).e=0) hx4
   have hs:Fu row b k x1=x:=by
    unfold Fu;rw[if_neg (by omega),if_neg (by omega),A4 k g3 g4,g5];simp only
    have hh:Wp row b x2=((farsL.getD f (0,0)).1+d0,x4):=by
     unfold Wp;rw[g7];simp only
     rw[if_neg (fun h=>h g8),if_neg (by omega),A5 f g9,g10]
    rw[if_neg (fun h=>h g6),hh];simp only
    rw[if_neg (fun h=>h g11)];unfold Sw;rw[if_neg (by omega),if_neg (by omega),g13]
   rw[g1];simp only
   rw[if_neg (fun h=>h g2),if_neg (by omega),hs,if_neg (fun h=>h g14),if_pos trivial];rw[if_pos rfl]at h;exact Jr row a b F F' _ h (by omega) (by omega) a2 (a5 ho)
theorem Vn (row:List Bool)(u:US):(uget row 1 u).1<2:=by
 have:=J8 row 1 u
 simpa using this
theorem KT {row:List Bool}{u x:US}{t:Bool}(h:Blk1R row u t x)(hp:u.p<=row.length)(ho:u.out.length<=3000):∃l,l<2/\t=decide (l=1)/\Bv row u=(l,x):=by
 cases h with
 |stored l x1 x2 h1 h2 h3 h4=>
  obtain⟨q2,q2l,q2o,q2k,q2e⟩:=Ax h2 h3;obtain⟨q1,q1l,q1o,q1k,_⟩:=Ax h1 q2e;have hl:=Vn row u;rw[h1]at hl;refine⟨l,hl,rfl, ?_⟩;unfold Bv;rw[h1];simp only
  rw[if_neg (fun h=>h q2e),h2];simp only
  rw[if_neg (fun h=>h h3)];unfold Lu Lv;rw[if_pos rfl,DG row x2 (by rw[q2o,q1o];exact ho) h4,if_pos h4]
 |coded l k x1 x2 x3 a b h1 h2 h3 h4 h5 h6 h7=>
  obtain⟨q2,q2l,q2o,q2k,q2e⟩:=Ax h2 h3;obtain⟨q1,q1l,q1o,q1k,_⟩:=Ax h1 q2e;have hl:=Vn row u;rw[h1]at hl;have hx2:x2.out.length<=3000:=by rw[q2o,q1o];exact ho
  refine⟨l,hl,rfl, ?_⟩;unfold Bv;rw[h1];simp only
  rw[if_neg (fun h=>h q2e),h2];simp only
  rw[if_neg (fun h=>h h3)]
  rcases h4 with h4|h4
  . subst h4;unfold uopen at h5;rw[if_pos rfl]at h5;have e1:=(XA h5).2;have e2:=XA (XA h5).1;subst e1;rw[<-e2.1,<-e2.2]at h7 ⊢;unfold Lu Lv;rw[if_neg (by decide),if_pos rfl,Jr row Mb Ja row.length (row.length+1) x2 h7 (by omega) (by omega) q2l hx2,if_pos h7]
  . subst h4;unfold uopen at h5;rw[if_neg (by decide),if_pos rfl]at h5;obtain⟨m0,n0,c0,v1,v2,v3,us,S0,L0,hTD⟩:=Gt h5 h6;obtain⟨t1,t2,t3,t4⟩:=Ps hTD q2l;unfold Lu Lv;rw[if_neg (by decide),if_neg (by decide),if_pos rfl,h5];simp only
    rw[if_neg (fun h=>h h6),Jr row a b row.length (row.length+1) x3 h7 (by omega) (by omega) t2 (by rw[t3];exact hx2),if_pos h7]
theorem Un (row:List Bool):∀(F:Nat) (u:US),(Ci row F u).e=0->u.p<=row.length->u.out.length<=3000->Cr row F u=Ci row F u
 |0,u,h,hp,ho=>rfl
 |F+1,u,h,hp,ho=>by
  obtain⟨t,x,hB,e⟩:=Hf h;obtain⟨a1,a2,a3,a4,a5⟩:=hB.ahead;obtain⟨l,hl,ht,hi⟩:=KT hB hp ho;rw[e]at h ⊢;rw[Cr,hi];simp only
  by_cases hl0:l=0
  . have htf:t=false:=by rw[ht,hl0];rfl
    rw[if_pos ⟨hl0,a3⟩,if_pos htf];rw[if_pos htf]at h;exact Un row F x h a2 (a5 ho)
  . have htt:¬t=false:=by rw[ht,show l=1 by omega];decide
    rw[if_neg (fun h=>hl0 h.1),if_neg htt]
theorem Nd (row:List Bool)(h:(Mp row).e=0):Db row=Mp row:=Un row _ _ h (VK _) (by simp[US0])
theorem BN (row:List Bool)(u:US)(h:(Ey row u).e=0):ustored row u=Ey row u:=by
 unfold Ey at h ⊢;dsimp only at h ⊢
 by_cases c:(Df row u).2.e=0/\3000<(Df row u).2.out.length+(Df row u).1
 . rw[if_pos c]at h;exact absurd h (Cs (by decide))
 . rw[if_neg c];rfl
theorem Z1x {row:List Bool}{lb:List Int}{u:US}(h:(Wp row lb u).2.e=0):∃f v d x,uplace lb row u=(f,v)/\v.e=0/\f<=29/\uget row (farsL.getD f (0,0)).2 v=(d,x)/\x.e=0/\Wp row lb u=((farsL.getD f (0,0)).1+d,x):=by
 unfold Wp at h ⊢;obtain⟨f,v,e⟩:∃f v,uplace lb row u=(f,v):=⟨_,_,rfl⟩
 rw[e]at h ⊢;dsimp only at h ⊢
 by_cases c:v.e≠0
 . rw[if_pos c]at h;exact absurd h c
 . rw[if_neg c]at h ⊢
   by_cases c2:29<f
   . rw[if_pos c2]at h;exact absurd (show (8:Int)=0 from h) (by decide)
   . rw[if_neg c2]at h ⊢;rw[A5 f (by omega)]at h ⊢;exact⟨f,v,_,_,rfl,by omega,by omega,rfl,h,rfl⟩
theorem OH (row:List Bool)(a b:List Int)(u x:US)(k:Nat)(hk:uplace a row u=(k,x))(hx:x.e=0)(hne:k≠256)(ho:x.out.length<=3000)(h:(Fu row b k x).e=0):Ih row a b u=(true,Fu row b k x):=by
 unfold Ih;rw[hk];dsimp only;rw[if_neg (by rintro (h1|h1);exact h1 hx;exact hne h1)];unfold Fu at h ⊢
 by_cases c1:k<256
 . rw[if_pos c1]at h ⊢;rw[if_pos c1]
   by_cases c2:3000<x.out.length+1
   . rw[if_pos c2]at h;exact absurd (show (2:Int)=0 from h) (by decide)
   . rw[if_neg c2];unfold Hy;rw[if_pos hx,if_neg (by omega)]
 . rw[if_neg c1]at h ⊢;rw[if_neg c1]
   by_cases c2:285<k
   . rw[if_pos c2]at h;exact absurd (show (8:Int)=0 from h) (by decide)
   . rw[if_neg c2]at h ⊢;rw[if_neg c2];rw[A4 k (by omega) (by omega)]at h ⊢;unfold OJ;obtain⟨g,y,hg⟩:∃g y,uget row (samesL.getD (k-257) (0,0)).2 x=(g,y):=⟨_,_,rfl⟩
     rw[hg]at h ⊢;dsimp only at h ⊢
     by_cases c3:y.e≠0
     . rw[if_pos c3]at h;exact absurd h c3
     . rw[if_neg c3]at h ⊢
       by_cases c4:(Wp row b y).2.e≠0
       . rw[if_pos c4]at h;exact absurd h c4
       . rw[if_neg c4]at h ⊢;obtain⟨f,v,d,z,h1,h2,h3,h4,h5,h6⟩:=Z1x (row:=row) (lb:=b) (u:=y) (by omega);rw[h6]at h ⊢;rw[h1];dsimp only at h ⊢;rw[if_neg (show ¬(v.e=0/\29<f) by omega),if_neg (fun e=>e h2)];unfold Sw at h ⊢
         by_cases c5:z.out.length<(farsL.getD f (0,0)).1+d
         . rw[if_pos c5]at h;exact absurd (show (9:Int)=0 from h) (by decide)
         . rw[if_neg c5]at h ⊢
           by_cases c6:3000<z.out.length+((samesL.getD (k-257) (0,0)).1+g)
           . rw[if_pos c6]at h;exact absurd (show (2:Int)=0 from h) (by decide)
           . rw[if_neg c6];unfold Z4b;rw[h4];dsimp only;rw[if_neg (show ¬(z.e=0/\z.out.length<(farsL.getD f (0,0)).1+d) by omega)]
theorem Mr (row:List Bool)(a b:List Int):∀(F F':Nat) (u:US),(Nf row a b F' u).e=0->row.length+1<=u.p+F->row.length+1<=u.p+F'->u.p<=row.length->u.out.length<=3000->utok row a b F u=Nf row a b F' u
 |0,F',u,h,h1,h2,hp,ho=>by omega
 |F+1,0,u,h,h1,h2,hp,ho=>by omega
 |F+1,F'+1,u,h,h1,h2,hp,ho=>by
  rw[Js]at h ⊢;obtain⟨k,x,hk⟩:∃k x,uplace a row u=(k,x):=⟨_,_,rfl⟩
  rw[hk]at h ⊢;dsimp only at h ⊢
  by_cases c1:x.e≠0
  . rw[if_pos c1]at h;exact absurd h c1
  . have hx:x.e=0:=by omega
    obtain⟨q1,q2,q3,q4,q5,q6⟩:=Bt hk hx;rw[if_neg c1]at h ⊢;rw[utok,if_pos q5]
    by_cases c2:k=256
    . have hs:Ih row a b u=(false,x):=by
       unfold Ih;rw[hk];dsimp only;rw[if_pos (Or.inr c2)]
      rw[if_pos c2,hs];simp
    . rw[if_neg c2]at h ⊢
      by_cases c3:(Fu row b k x).e≠0
      . rw[if_pos c3]at h;exact absurd h c3
      . rw[if_neg c3]at h ⊢;have hs:(Fu row b k x).e=0:=by omega
        have hxo:x.out.length<=3000:=by rw[q3];exact ho
        have ha:=A9 row b k x q2 hxo hs;have hag:=ha.ge;rw[OH row a b u x k hk hx c2 hxo hs,if_pos rfl];dsimp only;exact Mr row a b F F' _ h (by omega) (by omega) ha.le ha.out
theorem Ya (row:List Bool)(q:Nat)(hq:row.length=8*q)(u:US)(hp:u.p<=row.length)(ho:u.out.length<=3000)(h:(Bv row u).2.e=0):Dx row u=(decide ((Bv row u).1=1),(Bv row u).2):=by
 have key:∀(j:Nat) (x:US),(Lv j x).e=0->x.e=0/\Lv j x=ukept j x:=fun j x hx=>by
  unfold Lv at hx ⊢
  by_cases c:x.e=0
  . exact⟨c,by rw[if_pos c]⟩
  . rw[if_neg c]at hx;exact absurd hx c
 unfold Bv at h ⊢;unfold Dx;obtain⟨l,x1,h1⟩:∃l x1,uget row 1 u=(l,x1):=⟨_,_,rfl⟩
 obtain⟨k,x2,h2⟩:∃k x2,uget row 2 x1=(k,x2):=⟨_,_,rfl⟩
 rw[h1]at h ⊢;dsimp only at h ⊢;rw[h2]at h ⊢;dsimp only at h ⊢
 by_cases c1:x1.e≠0
 . rw[if_pos c1]at h;exact absurd h c1
 . rw[if_neg c1]at h ⊢
   by_cases c2:x2.e≠0
   . rw[if_pos c2]at h;exact absurd h c2
   . have e2:x2.e=0:=by omega
     obtain⟨q1,q2,q3,q4,_⟩:=Ax h1 (by omega);obtain⟨s1,s2,s3,s4,_⟩:=Ax h2 e2;have ho2:x2.out.length<=3000:=by rw[s3,q3];exact ho
     rw[if_neg c2]at h ⊢;rw[if_neg c2];unfold Lu at h ⊢
     by_cases k0:k=0
     . rw[if_pos k0]at h ⊢;rw[if_pos k0];obtain⟨w1,w2⟩:=key _ _ h;rw[w2,BN row x2 w1]
     . rw[if_neg k0]at h ⊢;rw[if_neg k0]
       by_cases k1:k=1
       . rw[if_pos k1]at h ⊢;obtain⟨w1,w2⟩:=key _ _ h;subst k1;have hu:uopen row 1 x2=((Mb,Ja),x2):=by unfold uopen;rw[if_pos rfl]
         rw[hu];dsimp only;rw[if_neg c2,w2,Mr row Mb Ja row.length (row.length+1) x2 w1 (by omega) (by omega) s2 ho2]
       . rw[if_neg k1]at h ⊢
         by_cases k2:k=2
         . rw[if_pos k2]at h ⊢;subst k2;have hu:uopen row 2 x2=Hc row x2:=by unfold uopen;rw[if_neg (by decide),if_pos rfl]
           rw[hu]
           by_cases c3:(Hc row x2).2.e≠0
           . rw[if_pos c3]at h;exact absurd h c3
           . rw[if_neg c3]at h ⊢;rw[if_neg c3];obtain⟨w1,w2⟩:=key _ _ h;have a0:=Xr row x2 s2 ho2 (by omega);have a0g:=a0.ge;rw[w2,Mr row _ _ row.length (row.length+1) _ w1 (by omega) (by omega) a0.le a0.out]
         . rw[if_neg k2]at h;exact absurd (show (4:Int)=0 from h) (by decide)
theorem Tn (row:List Bool)(q:Nat)(hq:row.length=8*q):∀(F:Nat) (u:US),u.e=0->(Cr row F u).e=0->u.p<=row.length->u.out.length<=3000->Ci row F u=Cr row F u
 |0,u,he,h,hp,ho=>rfl
 |F+1,u,he,h,hp,ho=>by
  rw[Cr]at h ⊢;rw[Ci]
  have hl:(Bv row u).1<2:=by
   unfold Bv
   split
   . show 1<2;decide
   . split
     . show 1<2;decide
     . exact Vn row u
  by_cases c:(Bv row u).1=0/\(Bv row u).2.e=0
  . rw[if_pos c]at h ⊢;obtain⟨a1,a2,a3,a4⟩:=Jt row q hq u he hp ho c.2;rw[Ya row q hq u hp ho c.2,if_pos ⟨by rw[c.1];rfl,c.2⟩];exact Tn row q hq F _ c.2 h a3 a4
  . rw[if_neg c]at h ⊢
    have h1:(Bv row u).1=1:=by
     have:¬(Bv row u).1=0:=fun e=>c ⟨e,h⟩
     omega
    rw[Ya row q hq u hp ho h,if_neg (by rw[h1];simp)]
theorem BO (row:List Bool)(q:Nat)(hq:row.length=8*q)(h:(Db row).e=0):Mp row=Db row:=Tn row q hq _ _ rfl h (VK _) (by simp)
end Go.Proofs.YtleocpdblhbimaaGreatDoor
namespace Go.Proofs.YtleocpdblhbimaaGreatDoor
set_option linter.unusedVariables false
theorem Vk (m:Nat)(pk:List Nat):unpD m pk=unpF m pk:=by
 unfold unpD unpF
 by_cases m0:m=0
 . rw[if_pos m0,if_pos m0]
 . rw[if_neg m0,if_neg m0]
   by_cases m8:m=8
   . rw[if_pos m8,if_pos m8]
     by_cases h:(Mp (rowB pk pk.length)).e=0
     . rw[Nd _ h]
       by_cases c:((Mp (rowB pk pk.length)).p+7)/8=pk.length/\pk.length<=6000
       . rw[if_pos ⟨h,c⟩,if_pos ⟨c.2,h,c.1⟩]
       . rw[if_neg (fun k=>c k.2),if_neg (fun k=>c ⟨k.2.2,k.1⟩)]
     . have hi:¬(Db (rowB pk pk.length)).e=0:=fun e=>h (by rw[BO _ pk.length (Ai _ _) e];exact e)
       rw[if_neg (fun k=>h k.1),if_neg (fun k=>hi k.2.1)]
   . rw[if_neg m8,if_neg m8]
theorem OL {m:Nat}{pk ys:List Nat}(hv:∀y∈pk,y<256)(h:unpF m pk=some ys):∀y∈ys,y<256:=by
 unfold unpF at h
 split at h
 . cases h;exact hv
 . split at h
   . split at h
     . rename_i c
       cases h
       exact Wr (A8 _ pk.length (Ai _ _) c.2.1)
     . cases h
   . cases h
theorem EOk.doc {x:En}(h:EOk x):EOkD x:=⟨h.st,h.nd,h.nm,h.pl,h.cr,h.mt,by rw[Vk];exact h.un⟩
end Go.Proofs.YtleocpdblhbimaaGreatDoor
namespace Go.Proofs.YtleocpdblhbimaaGreatDoor
set_option linter.unusedVariables false
set_option maxRecDepth 100000
end Go.Proofs.YtleocpdblhbimaaGreatDoor
