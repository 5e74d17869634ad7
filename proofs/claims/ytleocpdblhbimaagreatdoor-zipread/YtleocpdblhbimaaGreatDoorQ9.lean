import Derived.Test.YtleocpdblhbimaaGreatDoorQ7
set_option linter.unusedSimpArgs false
namespace Go.Proofs.YtleocpdblhbimaaGreatDoor
set_option linter.unusedVariables false
theorem DG:∀ {l:List Fl} {p:Option Fl},DH p l=0->∀f∈l,Mq f=0
 | [],p,h,f,hf=>by cases hf
 |g::r,p,h,f,hf=>by
  unfold DH at h
  by_cases e:Mq g=0
  . rw[if_neg (by rw[e];decide)]at h
    split at h
    . cases h
    . rcases WH.1 hf with rfl|hf
      . exact e
      . exact DG h f hf
  . rw[if_pos e]at h;exact absurd h e
theorem Mr {l:List Fl}(h:errM l=0):l.length<=12/\∀f∈l,Mq f=0:=by
 unfold errM at h
 split at h
 . cases h
 . exact⟨by omega,DG h⟩
theorem Yi {f:Fl}(h:Mq f=0):f.name.length<=40/\f.bytes.length<=3000/\0<=f.stamp/\f.stamp<=1000000/\0<=f.node/\f.node<=3:=by
 unfold Mq at h
 split at h
 . rename_i h1;exact absurd h h1
 . rename_i h1
   have h1':Kg f.name=0:=by
    by_cases e:Kg f.name=0
    . exact e
    . exact absurd e h1
   split at h
   . cases h
   . split at h
     . cases h
     . have:=(Z57 h1').1
       omega
structure ENd (n:Nat)(x:En):Prop where
 mt:x.meth<65536
 cr:x.crc<4294967296
 pl:x.pk.length<=n
 st:0<=x.f.stamp/\x.f.stamp<4294967296
 nd:0<=x.f.node/\x.f.node<65536
 nm:x.f.name.length<=n/\x.f.name.length<65536
 un:∃ys,unpF x.meth x.pk=some ys/\x.f.bytes=o8 ys
theorem ENd.mono {n m:Nat}{x:En}(h:ENd n x)(hm:n<=m):ENd m x:=⟨h.mt,h.cr,VU h.pl hm,h.st,h.nd,⟨VU h.nm.1 hm,h.nm.2⟩,h.un⟩
theorem E9 {l:List Nat}{k:Nat}(hl:l.length=k)(hv:∀x∈l,x<256):Ak l<256^k:=by rw[<-hl];exact Jx l hv
theorem Z1r {r q:List Nat}{x:En}(hv:∀y∈r,y<256)(h:Fe r=some (x,q)):ENd r.length x:=by
 unfold Fe at h;obtain⟨a1,r1,rfl,l1,h⟩:=Ap h;dsimp only at h;obtain⟨a2,r2,rfl,l2,h⟩:=Ap h;dsimp only at h;obtain⟨a3,r3,rfl,l3,h⟩:=Ap h;dsimp only at h;obtain⟨a4,r4,rfl,l4,h⟩:=Ap h;dsimp only at h;obtain⟨a5,r5,rfl,l5,h⟩:=Ap h;dsimp only at h;obtain⟨a6,r6,rfl,l6,h⟩:=Ap h;dsimp only at h;obtain⟨a7,r7,rfl,l7,h⟩:=Ap h;dsimp only at h;obtain⟨a8,r8,rfl,l8,h⟩:=Ap h;dsimp only at h;obtain⟨a9,r9,rfl,l9,h⟩:=Ap h;dsimp only at h;obtain⟨a10,r10,rfl,l10,h⟩:=Ap h;dsimp only at h;obtain⟨a11,r11,rfl,l11,h⟩:=Ap h;dsimp only at h;obtain⟨a12,r12,rfl,l12,h⟩:=Ap h;dsimp only at h;obtain⟨a13,r13,rfl,l13,h⟩:=Ap h;dsimp only at h;obtain⟨a14,r14,rfl,l14,h⟩:=Ap h;dsimp only at h
 cases hu:unpF (Ak a2) a14 with
 |none=>rw[hu]at h;cases h
 |some b=>
  rw[hu]at h;simp only[VF,YB,YD]at h;obtain⟨rfl,rfl⟩:=h;have v2:=E9 l2 (fun z hz=>hv z (by simp[hz]));have v4:=E9 l4 (fun z hz=>hv z (by simp[hz]));have v7:=E9 l7 (fun z hz=>hv z (by simp[hz]));have v11:=E9 l11 (fun z hz=>hv z (by simp[hz]));have v12:=E9 l12 (fun z hz=>hv z (by simp[hz]));simp only[Nat.reducePow]at v2 v4 v7 v11 v12;refine⟨v2,v4,by simp only[VE];omega,⟨by dsimp only;omega,by dsimp only;omega⟩,⟨by dsimp only;omega,by dsimp only;omega⟩,⟨by dsimp only;rw[Ey];simp only[VE];omega,by dsimp only;rw[Ey];omega⟩,b,hu,rfl⟩
theorem Sg:∀ {F:Nat} {r:List Nat} {l:List En},(∀y∈r,y<256)->Cd F r=some l->l.length*41<=r.length/\∀x∈l,ENd r.length x
 |0,r,l,_,h=>by cases h
 |F+1,r,l,hv,h=>by
  unfold Cd at h;obtain⟨m,q,rfl,hl,h⟩:=Ap h;dsimp only at h
  split at h
  . cases he:Fe q with
    |none=>rw[he]at h;cases h
    |some p=>
     rw[he]at h;simp only[VF,XF]at h;obtain⟨l2,h1,rfl⟩:=h;have hm:=Si (x:=p.1) (q:=p.2) he;have hvq:∀y∈q,y<256:=fun y hy=>hv y (by simp[hy])
     have ih:=Sg (hm.2.1 hvq).2 h1;have h3:=hm.1;refine⟨by rw[VJ,VE];omega,fun x hx=> ?_⟩
     rcases WH.1 hx with rfl|hx
     . exact(Z1r hvq he).mono (by rw[VE];omega)
     . exact(ih.2 x hx).mono (by rw[VE];omega)
  . cases h
    exact⟨VH _,fun x hx=>by cases hx⟩
end Go.Proofs.YtleocpdblhbimaaGreatDoor
namespace Go.Proofs.YtleocpdblhbimaaGreatDoor
set_option linter.unusedVariables false
set_option maxRecDepth 100000
def Vl (u:US):Prop:=∀x∈u.out,x<256
theorem Vl.same {u v:US}(h:Vl u)(e:v.out=u.out):Vl v:=fun x hx=>h x (by rw[<-e];exact hx)
theorem Vl.at {u:US}(h:Vl u)(j:Nat):u.out.getD j 0<256:=by
 by_cases hj:j<u.out.length
 . rw[List.getD,VP hj];exact h _ (WK hj)
 . rw[List.getD,WJ (by omega)];exact(by decide:(0:Nat)<256)
theorem Eg (row:List Bool)(n:Nat)(u:US)(h:Vl u):Vl (uget row n u).2:=h.same (Cm row n u)
theorem Ee (l:List Int)(row:List Bool)(u:US)(h:Vl u):Vl (uplace l row u).2:=h.same (Gm l row u).1
theorem Zd (x:Int)(u:US)(h:Vl u):Vl (Am x u):=h.same (Ze x u).2.1
theorem KC (c:Nat)(u:US)(hc:c<256)(h:Vl u):Vl (Fd c u):=by
 unfold Fd
 split
 . split
   . exact h
   . intro x hx
     rcases WP.1 hx with h1|h1
     . exact h x h1
     . rw[WO.1 h1];exact hc
 . exact h
theorem Zg (row:List Bool):∀(k:Nat) (u:US),Vl u->Vl (ustore row k u)
 |0,u,h=>h
 |k+1,u,h=>by
  unfold ustore
  split
  . exact Zg row k _ (KC _ _ (SD row 8 u) (Eg _ _ _ h))
  . exact h
theorem BE (d:Nat):∀(k:Nat) (u:US),Vl u->Vl (ucopy d k u)
 |0,u,h=>h
 |k+1,u,h=>by
  unfold ucopy
  split
  . exact BE d k _ (KC _ _ (h.at _) h)
  . exact h
theorem GG (row:List Bool)(u:US)(h:Vl u):Vl (Cj row u):=by
 have h0:Vl {u with p:=(u.p+7)/8*8}:=h
 have h1:Vl (Cl row u).2:=by
  unfold Cl;dsimp only
  split
  . exact Zd _ _ (Eg _ _ _ (Eg _ _ _ h0))
  . exact Eg _ _ _ (Eg _ _ _ h0)
 unfold Cj;dsimp only
 split
 . exact Zd _ _ h1
 . exact Zg _ _ _ h1
theorem OP (row:List Bool)(l:List Int)(u:US)(h:Vl u):Vl (Me row l u).2:=by
 unfold Me
 split
 . exact Ee _ _ _ h
 . split
   . exact Ee _ _ _ h
   . exact Eg _ _ _ (Ee _ _ _ h)
theorem Z1f (d k:Nat)(u:US)(h:Vl u):Vl (Jh d k u):=by
 unfold Jh
 split
 . exact h
 . split
   . exact h
   . exact BE _ _ _ h
theorem CJ (row:List Bool)(lb:List Int)(k:Nat)(u:US)(h:Vl u):Vl (Co row lb k u):=by
 unfold Co
 split
 . rename_i hk
   split
   . exact h
   . intro x hx
     rcases WP.1 hx with h1|h1
     . exact h x h1
     . rw[WO.1 h1];exact hk
 . split
   . exact h
   . split
     . exact Eg _ _ _ h
     . split
       . exact OP _ _ _ (Eg _ _ _ h)
       . exact Z1f _ _ _ (OP _ _ _ (Eg _ _ _ h))
theorem Xx (row:List Bool)(la lb:List Int):∀(f:Nat) (u:US),Vl u->Vl (Hk row la lb f u)
 |0,u,h=>by
  unfold Hk
  split
  . exact Ee _ _ _ h
  . exact Ee _ _ _ h
 |f+1,u,h=>by
  rw[Hj]
  split
  . exact Ee _ _ _ h
  . split
    . exact Ee _ _ _ h
    . split
      . exact CJ _ _ _ _ (Ee _ _ _ h)
      . exact Xx row la lb f _ (CJ _ _ _ _ (Ee _ _ _ h))
theorem Yb (k:Nat)(u:US)(h:Vl u):Vl (Jg k u):=by
 unfold Jg
 split
 . exact h
 . exact h
theorem Z1c (row:List Bool)(k:Nat)(u:US)(hp:u.p<=row.length)(h:Vl u)(he:(Ds row k u).e=0):Vl (Ds row k u):=by
 unfold Ds at he ⊢
 split
 . exact Yb _ _ (GG _ _ h)
 . rename_i c0
   rw[if_neg c0]at he
   split
   . exact Yb _ _ (Xx _ _ _ _ _ h)
   . rename_i c1
     rw[if_neg c1]at he
     split
     . rename_i c2
       rw[if_pos c2]at he
       split
       . rename_i c3
         rw[if_pos c3]at he;exact absurd he c3
       . rename_i c3
         have e0:(Db row u).2.e=0:=by omega
         obtain⟨A,C,v,hv⟩:∃A C v,Db row u=((A,C),v):=⟨_,_,_,rfl⟩
         rw[hv]at e0 ⊢;obtain⟨m0,n0,c0,u1,u2,u3,us,S,L,hT⟩:=Hd hv e0;obtain⟨t1,t2,t3,t4⟩:=Pu hT hp;exact Yb _ _ (Xx _ _ _ _ _ (h.same t3))
     . exact h
theorem I8 (row:List Bool)(u:US)(hp:u.p<=row.length)(h:Vl u)(he:(Bj row u).2.e=0):Vl (Bj row u).2:=by
 unfold Bj at he ⊢
 split
 . exact Eg _ _ _ h
 . rename_i c
   rw[if_neg c]at he
   split
   . exact Eg _ _ _ (Eg _ _ _ h)
   . rename_i c2
     rw[if_neg c2]at he;exact Z1c _ _ _ (Gr _ _ _ (Gr _ _ _ hp)) (Eg _ _ _ (Eg _ _ _ h)) he
theorem Vn (row:List Bool)(N:Nat)(hN:row.length=8*N):∀(F:Nat) (u:US),u.e=0->u.p<=row.length->u.out.length<=3000->Vl u->(Bw row F u).e=0->Vl (Bw row F u)
 |0,u,he,hp,ho,h,hz=>h
 |F+1,u,he,hp,ho,h,hz=>by
  rw[Bw]at hz ⊢
  by_cases c:(Bj row u).1=0/\(Bj row u).2.e=0
  . rw[if_pos c]at hz ⊢;obtain⟨a1,a2,a3,a4⟩:=Hl row N hN u he hp ho c.2;exact Vn row N hN F _ c.2 a3 a4 (I8 row u hp h c.2) hz
  . rw[if_neg c]at hz ⊢;exact I8 row u hp h hz
theorem H9 (row:List Bool)(N:Nat)(hN:row.length=8*N)(h:(Dk row).e=0)(j:Nat):(Dk row).out.getD j 0<256:=
 (Vn row N hN (row.length+1) US0 rfl (VH _) (VH _) (by intro x hx;cases hx) h).at j
theorem Zp {d:Nat}:∀ {n:Nat} {u:US},(ucopy d n u).e=0->u.out.length<=3000->u.out.length+n<=3000
 |0,u,h,ho=>by omega
 |n+1,u,h,ho=>by
  have he:=Pz h;rw[ucopy,if_pos he]at h;obtain⟨_,h2,h3⟩:=Ud (Pz h);rw[h3]at h;have ih:=Zp h (by simp only[VE,VJ,WE];omega);simp only[VE,VJ,WE]at ih;omega
theorem Kb (row:List Bool)(a b:List Int):∀(F F':Nat) (u:US),(utok row a b F u).e=0->row.length+1<=u.p+F->row.length+1<=u.p+F'->u.p<=row.length->u.out.length<=3000->Hk row a b F' u=utok row a b F u
 |0,F',u,h,h1,h2,hp,ho=>by omega
 |F+1,0,u,h,h1,h2,hp,ho=>by omega
 |F+1,F'+1,u,h,h1,h2,hp,ho=>by
  obtain⟨t,x,hT,e⟩:=Ub h;obtain⟨a1,a2,a3,a4,a5⟩:=hT.ahead;rw[e]at h ⊢;rw[Hj]
  cases hT with
  |stop v g1 g2=>
   simp[g1,g2]
  |byte c x g1 g2 g3 g4=>
   have hx:x.out.length<=3000:=by
    have:=Cn g1 g2
    rw[this.2.2.1];exact ho
   have hs:Co row b c x= {x with out:=x.out++ [c]}:=by
    unfold Co;rw[if_pos g3,if_neg (by omega)]
   rw[g1];simp only
   rw[if_neg (fun h=>h g2),if_neg (by omega),hs,if_neg (fun h=>h g2),if_pos trivial];rw[if_pos rfl]at h;exact Kb row a b F F' _ h (by omega) (by omega) a2 (a5 ho)
  |same k n0 f d0 x1 x2 x3 x4 _ g1 g2 g3 g4 g5 g6 g7 g8 g9 g10 g11 g12 g13 g14=>
   have p1:=Cn g1 g2;have p2:=Bn g5 g6;have p3:=Cn g7 g8;have p4:=Bn g10 g11;have hx4:x4.out.length<=3000:=by rw[p4.2.2.1,p3.2.2.1,p2.2.2.1,p1.2.2.1];exact ho
   have hfit:=Zp (by rw[g13];exact g14:(ucopy ((farsL.getD f (0,0)).1+d0) ((samesL.getD (k-257) (0,0)).1+n0) x4).e=0) hx4
   have hs:Co row b k x1=x:=by
    unfold Co;rw[if_neg (by omega),if_neg (by omega),F7 k g3 g4,g5];simp only
    have hh:Me row b x2=((farsL.getD f (0,0)).1+d0,x4):=by
     unfold Me;rw[g7];simp only
     rw[if_neg (fun h=>h g8),if_neg (by omega),F9 f g9,g10]
    rw[if_neg (fun h=>h g6),hh];simp only
    rw[if_neg (fun h=>h g11)];unfold Jh;rw[if_neg (by omega),if_neg (by omega),g13]
   rw[g1];simp only
   rw[if_neg (fun h=>h g2),if_neg (by omega),hs,if_neg (fun h=>h g14),if_pos trivial];rw[if_pos rfl]at h;exact Kb row a b F F' _ h (by omega) (by omega) a2 (a5 ho)
theorem Wu (row:List Bool)(u:US):(uget row 1 u).1<2:=by
 have:=SD row 1 u
 simpa using this
theorem OR {row:List Bool}{u x:US}{t:Bool}(h:Blk1R row u t x)(hp:u.p<=row.length)(ho:u.out.length<=3000):∃l,l<2/\t=decide (l=1)/\Bj row u=(l,x):=by
 cases h with
 |stored l x1 x2 h1 h2 h3 h4=>
  obtain⟨q2,q2l,q2o,q2k,q2e⟩:=Bn h2 h3;obtain⟨q1,q1l,q1o,q1k,_⟩:=Bn h1 q2e;have hl:=Wu row u;rw[h1]at hl;refine⟨l,hl,rfl, ?_⟩;unfold Bj;rw[h1];simp only
  rw[if_neg (fun h=>h q2e),h2];simp only
  rw[if_neg (fun h=>h h3)];unfold Ds Jg;rw[if_pos rfl,GH row x2 (by rw[q2o,q1o];exact ho) h4,if_pos h4]
 |coded l k x1 x2 x3 a b h1 h2 h3 h4 h5 h6 h7=>
  obtain⟨q2,q2l,q2o,q2k,q2e⟩:=Bn h2 h3;obtain⟨q1,q1l,q1o,q1k,_⟩:=Bn h1 q2e;have hl:=Wu row u;rw[h1]at hl;have hx2:x2.out.length<=3000:=by rw[q2o,q1o];exact ho
  refine⟨l,hl,rfl, ?_⟩;unfold Bj;rw[h1];simp only
  rw[if_neg (fun h=>h q2e),h2];simp only
  rw[if_neg (fun h=>h h3)]
  rcases h4 with h4|h4
  . subst h4;unfold uopen at h5;rw[if_pos rfl]at h5;have e1:=(VN h5).2;have e2:=VN (VN h5).1;subst e1;rw[<-e2.1,<-e2.2]at h7 ⊢;unfold Ds Jg;rw[if_neg (by decide),if_pos rfl,Kb row Ky Ir row.length (row.length+1) x2 h7 (by omega) (by omega) q2l hx2,if_pos h7]
  . subst h4;unfold uopen at h5;rw[if_neg (by decide),if_pos rfl]at h5;obtain⟨m0,n0,c0,v1,v2,v3,us,S0,L0,hTD⟩:=Hd h5 h6;obtain⟨t1,t2,t3,t4⟩:=Pu hTD q2l;unfold Ds Jg;rw[if_neg (by decide),if_neg (by decide),if_pos rfl,h5];simp only
    rw[if_neg (fun h=>h h6),Kb row a b row.length (row.length+1) x3 h7 (by omega) (by omega) t2 (by rw[t3];exact hx2),if_pos h7]
theorem Vp (row:List Bool):∀(F:Nat) (u:US),(Dc row F u).e=0->u.p<=row.length->u.out.length<=3000->Bw row F u=Dc row F u
 |0,u,h,hp,ho=>rfl
 |F+1,u,h,hp,ho=>by
  obtain⟨t,x,hB,e⟩:=Ww h;obtain⟨a1,a2,a3,a4,a5⟩:=hB.ahead;obtain⟨l,hl,ht,hi⟩:=OR hB hp ho;rw[e]at h ⊢;rw[Bw,hi];simp only
  by_cases hl0:l=0
  . have htf:t=false:=by rw[ht,hl0];rfl
    rw[if_pos ⟨hl0,a3⟩,if_pos htf];rw[if_pos htf]at h;exact Vp row F x h a2 (a5 ho)
  . have htt:¬t=false:=by rw[ht,show l=1 by omega];decide
    rw[if_neg (fun h=>hl0 h.1),if_neg htt]
theorem GD (row:List Bool)(h:(Oh row).e=0):Dk row=Oh row:=Vp row _ _ h (VH _) (by simp[US0])
theorem EH (row:List Bool)(u:US)(h:(Cj row u).e=0):ustored row u=Cj row u:=by
 unfold Cj at h ⊢;dsimp only at h ⊢
 by_cases c:(Cl row u).2.e=0/\3000<(Cl row u).2.out.length+(Cl row u).1
 . rw[if_pos c]at h;exact absurd h (Bm (by decide))
 . rw[if_neg c];rfl
theorem Z50 {row:List Bool}{lb:List Int}{u:US}(h:(Me row lb u).2.e=0):∃f v d x,uplace lb row u=(f,v)/\v.e=0/\f<=29/\uget row (farsL.getD f (0,0)).2 v=(d,x)/\x.e=0/\Me row lb u=((farsL.getD f (0,0)).1+d,x):=by
 unfold Me at h ⊢;obtain⟨f,v,e⟩:∃f v,uplace lb row u=(f,v):=⟨_,_,rfl⟩
 rw[e]at h ⊢;dsimp only at h ⊢
 by_cases c:v.e≠0
 . rw[if_pos c]at h;exact absurd h c
 . rw[if_neg c]at h ⊢
   by_cases c2:29<f
   . rw[if_pos c2]at h;exact absurd (show (8:Int)=0 from h) (by decide)
   . rw[if_neg c2]at h ⊢;rw[F9 f (by omega)]at h ⊢;exact⟨f,v,_,_,rfl,by omega,by omega,rfl,h,rfl⟩
theorem SU (row:List Bool)(a b:List Int)(u x:US)(k:Nat)(hk:uplace a row u=(k,x))(hx:x.e=0)(hne:k≠256)(ho:x.out.length<=3000)(h:(Co row b k x).e=0):Lb row a b u=(true,Co row b k x):=by
 unfold Lb;rw[hk];dsimp only;rw[if_neg (by rintro (h1|h1);exact h1 hx;exact hne h1)];unfold Co at h ⊢
 by_cases c1:k<256
 . rw[if_pos c1]at h ⊢;rw[if_pos c1]
   by_cases c2:3000<x.out.length+1
   . rw[if_pos c2]at h;exact absurd (show (2:Int)=0 from h) (by decide)
   . rw[if_neg c2];unfold Fd;rw[if_pos hx,if_neg (by omega)]
 . rw[if_neg c1]at h ⊢;rw[if_neg c1]
   by_cases c2:285<k
   . rw[if_pos c2]at h;exact absurd (show (8:Int)=0 from h) (by decide)
   . rw[if_neg c2]at h ⊢;rw[if_neg c2];rw[F7 k (by omega) (by omega)]at h ⊢;unfold EJ;obtain⟨g,y,hg⟩:∃g y,uget row (samesL.getD (k-257) (0,0)).2 x=(g,y):=⟨_,_,rfl⟩
     rw[hg]at h ⊢;dsimp only at h ⊢
     by_cases c3:y.e≠0
     . rw[if_pos c3]at h;exact absurd h c3
     . rw[if_neg c3]at h ⊢
       by_cases c4:(Me row b y).2.e≠0
       . rw[if_pos c4]at h;exact absurd h c4
       . rw[if_neg c4]at h ⊢;obtain⟨f,v,d,z,h1,h2,h3,h4,h5,h6⟩:=Z50 (row:=row) (lb:=b) (u:=y) (by omega);rw[h6]at h ⊢;rw[h1];dsimp only at h ⊢;rw[if_neg (show ¬(v.e=0/\29<f) by omega),if_neg (fun e=>e h2)];unfold Jh at h ⊢
         by_cases c5:z.out.length<(farsL.getD f (0,0)).1+d
         . rw[if_pos c5]at h;exact absurd (show (9:Int)=0 from h) (by decide)
         . rw[if_neg c5]at h ⊢
           by_cases c6:3000<z.out.length+((samesL.getD (k-257) (0,0)).1+g)
           . rw[if_pos c6]at h;exact absurd (show (2:Int)=0 from h) (by decide)
           . rw[if_neg c6];unfold Z28;rw[h4];dsimp only;rw[if_neg (show ¬(z.e=0/\z.out.length<(farsL.getD f (0,0)).1+d) by omega)]
theorem Na (row:List Bool)(a b:List Int):∀(F F':Nat) (u:US),(Hk row a b F' u).e=0->row.length+1<=u.p+F->row.length+1<=u.p+F'->u.p<=row.length->u.out.length<=3000->utok row a b F u=Hk row a b F' u
 |0,F',u,h,h1,h2,hp,ho=>by omega
 |F+1,0,u,h,h1,h2,hp,ho=>by omega
 |F+1,F'+1,u,h,h1,h2,hp,ho=>by
  rw[Hj]at h ⊢;obtain⟨k,x,hk⟩:∃k x,uplace a row u=(k,x):=⟨_,_,rfl⟩
  rw[hk]at h ⊢;dsimp only at h ⊢
  by_cases c1:x.e≠0
  . rw[if_pos c1]at h;exact absurd h c1
  . have hx:x.e=0:=by omega
    obtain⟨q1,q2,q3,q4,q5,q6⟩:=Cn hk hx;rw[if_neg c1]at h ⊢;rw[utok,if_pos q5]
    by_cases c2:k=256
    . have hs:Lb row a b u=(false,x):=by
       unfold Lb;rw[hk];dsimp only;rw[if_pos (Or.inr c2)]
      rw[if_pos c2,hs];simp
    . rw[if_neg c2]at h ⊢
      by_cases c3:(Co row b k x).e≠0
      . rw[if_pos c3]at h;exact absurd h c3
      . rw[if_neg c3]at h ⊢;have hs:(Co row b k x).e=0:=by omega
        have hxo:x.out.length<=3000:=by rw[q3];exact ho
        have ha:=I3 row b k x q2 hxo hs;have hag:=ha.ge;rw[SU row a b u x k hk hx c2 hxo hs,if_pos rfl];dsimp only;exact Na row a b F F' _ h (by omega) (by omega) ha.le ha.out
theorem Zq (row:List Bool)(q:Nat)(hq:row.length=8*q)(u:US)(hp:u.p<=row.length)(ho:u.out.length<=3000)(h:(Bj row u).2.e=0):Eh row u=(decide ((Bj row u).1=1),(Bj row u).2):=by
 have key:∀(j:Nat) (x:US),(Jg j x).e=0->x.e=0/\Jg j x=ukept j x:=fun j x hx=>by
  unfold Jg at hx ⊢
  by_cases c:x.e=0
  . exact⟨c,by rw[if_pos c]⟩
  . rw[if_neg c]at hx;exact absurd hx c
 unfold Bj at h ⊢;unfold Eh;obtain⟨l,x1,h1⟩:∃l x1,uget row 1 u=(l,x1):=⟨_,_,rfl⟩
 obtain⟨k,x2,h2⟩:∃k x2,uget row 2 x1=(k,x2):=⟨_,_,rfl⟩
 rw[h1]at h ⊢;dsimp only at h ⊢;rw[h2]at h ⊢;dsimp only at h ⊢
 by_cases c1:x1.e≠0
 . rw[if_pos c1]at h;exact absurd h c1
 . rw[if_neg c1]at h ⊢
   by_cases c2:x2.e≠0
   . rw[if_pos c2]at h;exact absurd h c2
   . have e2:x2.e=0:=by omega
     obtain⟨q1,q2,q3,q4,_⟩:=Bn h1 (by omega);obtain⟨s1,s2,s3,s4,_⟩:=Bn h2 e2;have ho2:x2.out.length<=3000:=by rw[s3,q3];exact ho
     rw[if_neg c2]at h ⊢;rw[if_neg c2];unfold Ds at h ⊢
     by_cases k0:k=0
     . rw[if_pos k0]at h ⊢;rw[if_pos k0];obtain⟨w1,w2⟩:=key _ _ h;rw[w2,EH row x2 w1]
     . rw[if_neg k0]at h ⊢;rw[if_neg k0]
       by_cases k1:k=1
       . rw[if_pos k1]at h ⊢;obtain⟨w1,w2⟩:=key _ _ h;subst k1;have hu:uopen row 1 x2=((Ky,Ir),x2):=by unfold uopen;rw[if_pos rfl]
         rw[hu];dsimp only;rw[if_neg c2,w2,Na row Ky Ir row.length (row.length+1) x2 w1 (by omega) (by omega) s2 ho2]
       . rw[if_neg k1]at h ⊢
         by_cases k2:k=2
         . rw[if_pos k2]at h ⊢;subst k2;have hu:uopen row 2 x2=Db row x2:=by unfold uopen;rw[if_neg (by decide),if_pos rfl]
           rw[hu]
           by_cases c3:(Db row x2).2.e≠0
           . rw[if_pos c3]at h;exact absurd h c3
           . rw[if_neg c3]at h ⊢;rw[if_neg c3];obtain⟨w1,w2⟩:=key _ _ h;have a0:=Pv row x2 s2 ho2 (by omega);have a0g:=a0.ge;rw[w2,Na row _ _ row.length (row.length+1) _ w1 (by omega) (by omega) a0.le a0.out]
         . rw[if_neg k2]at h;exact absurd (show (4:Int)=0 from h) (by decide)
theorem Uh (row:List Bool)(q:Nat)(hq:row.length=8*q):∀(F:Nat) (u:US),u.e=0->(Bw row F u).e=0->u.p<=row.length->u.out.length<=3000->Dc row F u=Bw row F u
 |0,u,he,h,hp,ho=>rfl
 |F+1,u,he,h,hp,ho=>by
  rw[Bw]at h ⊢;rw[Dc]
  have hl:(Bj row u).1<2:=by
   unfold Bj
   split
   . show 1<2;decide
   . split
     . show 1<2;decide
     . exact Wu row u
  by_cases c:(Bj row u).1=0/\(Bj row u).2.e=0
  . rw[if_pos c]at h ⊢;obtain⟨a1,a2,a3,a4⟩:=Hl row q hq u he hp ho c.2;rw[Zq row q hq u hp ho c.2,if_pos ⟨by rw[c.1];rfl,c.2⟩];exact Uh row q hq F _ c.2 h a3 a4
  . rw[if_neg c]at h ⊢
    have h1:(Bj row u).1=1:=by
     have:¬(Bj row u).1=0:=fun e=>c ⟨e,h⟩
     omega
    rw[Zq row q hq u hp ho h,if_neg (by rw[h1];simp)]
theorem EK (row:List Bool)(q:Nat)(hq:row.length=8*q)(h:(Dk row).e=0):Oh row=Dk row:=Uh row q hq _ _ rfl h (VH _) (by simp)
end Go.Proofs.YtleocpdblhbimaaGreatDoor
namespace Go.Proofs.YtleocpdblhbimaaGreatDoor
set_option linter.unusedVariables false
theorem Le (m:Nat)(pk:List Nat):unpD m pk=unpF m pk:=by
 unfold unpD unpF
 by_cases m0:m=0
 . rw[if_pos m0,if_pos m0]
 . rw[if_neg m0,if_neg m0]
   by_cases m8:m=8
   . rw[if_pos m8,if_pos m8]
     by_cases h:(Oh (rowB pk pk.length)).e=0
     . rw[GD _ h]
       by_cases c:((Oh (rowB pk pk.length)).p+7)/8=pk.length/\pk.length<=6000
       . rw[if_pos ⟨h,c⟩,if_pos ⟨c.2,h,c.1⟩]
       . rw[if_neg (fun k=>c k.2),if_neg (fun k=>c ⟨k.2.2,k.1⟩)]
     . have hi:¬(Dk (rowB pk pk.length)).e=0:=fun e=>h (by rw[EK _ pk.length (Af _ _) e];exact e)
       rw[if_neg (fun k=>h k.1),if_neg (fun k=>hi k.2.1)]
   . rw[if_neg m8,if_neg m8]
theorem Wt {m:Nat}{pk ys:List Nat}(hv:∀y∈pk,y<256)(h:unpF m pk=some ys):∀y∈ys,y<256:=by
 unfold unpF at h
 split at h
 . cases h;exact hv
 . split at h
   . split at h
     . rename_i c
       cases h
       exact Yf (H9 _ pk.length (Af _ _) c.2.1)
     . cases h
   . cases h
structure EDn (n:Nat)(x:En):Prop where
 ok:EOk x
 val:∀y∈x.pk,y<256
 pl:x.pk.length<=n
 nm:x.f.name.length<=n
theorem Z1u {b r q:List Nat}{at_:Nat}{x:En}(hb:∀y∈b,y<256)(hr:∀y∈r,y<256)(hl:r.length<=b.length)(h:JR b at_ r=some (x,q)):EDn b.length x/\(∀y∈q,y<256)/\q.length<=b.length:=by
 unfold JR at h
 split at h
 . cases h
 . split at h
   . cases h
   . rename_i c1 c2
     cases hu:unpD (Dh r 10 12) ((b.drop (Dh r 42 46+30+Dh r 28 30+11)).take (Dh r 20 24))with
     |none=>rw[hu]at h;cases h
     |some ys=>
      rw[hu]at h;simp only[VF,YB,YD]at h;obtain⟨rfl,rfl⟩:=h;have hx:∀y∈(r.drop (46+Dh r 28 30)).take 11,y<256:=fun y hy=>hr y (VW (VR hy))
      have v1:=Dm hr (i:=10) (j:=12) rfl;have v2:=Dm hr (i:=16) (j:=20) rfl;have v3:=Dm hr (i:=28) (j:=30) rfl;have v4:=Dm hr (i:=20) (j:=24) rfl;have v5:=Dm hx (i:=4) (j:=8) rfl;have v6:=Dm hx (i:=8) (j:=10) rfl;replace v1:Dh r 10 12<65536:=v1;replace v2:Dh r 16 20<4294967296:=v2;replace v3:Dh r 28 30<65536:=v3;replace v4:Dh r 20 24<4294967296:=v4;replace v5:Dh ((r.drop (46+Dh r 28 30)).take 11) 4 8<4294967296:=v5;replace v6:Dh ((r.drop (46+Dh r 28 30)).take 11) 8 10<65536:=v6;have hp:∀y∈(b.drop (Dh r 42 46+30+Dh r 28 30+11)).take (Dh r 20 24),y<256:=fun y hy=>hb y (VW (VR hy))
      rw[Le]at hu;refine⟨⟨⟨⟨by dsimp only;omega,by dsimp only;omega⟩,⟨by dsimp only;omega,by dsimp only;omega⟩, ?_, ?_,v2,v1, ?_⟩,hp, ?_, ?_⟩,fun y hy=>hr y (VW hy),by rw[VQ];omega⟩
      . dsimp only;rw[Ey,VL];omega
      . dsimp only;rw[VL];omega
      . dsimp only;rw[hu,Z0w (Wt hp hu)]
      . dsimp only;rw[VL,VQ];omega
      . dsimp only;rw[Ey,VL,VQ];omega
theorem N4 {b:List Nat}{at_:Nat}(hb:∀y∈b,y<256):∀(k:Nat) (r:List Nat) (l:List En),(∀y∈r,y<256)->r.length<=b.length->Np b at_ k r=some l->l.length=k/\∀x∈l,EDn b.length x
 |0,r,l,_,_,h=>by cases h;exact⟨rfl,fun x hx=>by cases hx⟩
 |k+1,r,l,hr,hl,h=>by
  unfold Np at h
  cases he:JR b at_ r with
  |none=>rw[he]at h;cases h
  |some p=>
   rw[he]at h;simp only[VF,XF]at h;obtain⟨l2,h1,rfl⟩:=h;obtain⟨n1,n2,n3⟩:=Z1u (x:=p.1) (q:=p.2) hb hr hl he;obtain⟨m1,m2⟩:=N4 hb k p.2 l2 n2 n3 h1;refine⟨by rw[VJ,m1],fun x hx=> ?_⟩
   rcases WH.1 hx with rfl|hx
   . exact n1
   . exact m2 x hx
theorem DJ {b:List Nat}{l:List En}(hb:∀y∈b,y<256)(h:Tt b=some l):l.length<=12/\∀x∈l,EDn b.length x:=by
 unfold Tt at h
 split at h
 . cases h
 . split at h
   . cases h
   . rename_i c1 c2
     obtain⟨h1,h2⟩:=N4 hb _ _ l (fun y hy=>hb y (VW (VR hy))) (by rw[VL,VQ];omega) h;exact⟨by omega,h2⟩
theorem EOk.doc {x:En}(h:EOk x):EOkD x:=⟨h.st,h.nd,h.nm,h.pl,h.cr,h.mt,by rw[Le];exact h.un⟩
theorem ENd.ok {n:Nat}{x:En}(h:ENd n x)(hn:n<=12000)(hv:∀y∈x.pk,y<256):EOk x:=by
 obtain⟨ys,h1,h2⟩:=h.un;have:=h.pl
 exact⟨h.st,h.nd,h.nm.2,by omega,h.cr,h.mt,by rw[h2,Z0w (Wt hv h1)];exact h1⟩
def Kf (b:List Nat):Nat:=
 match Tt b with
  |none=>7
  |some l=>if errM (l.map En.f)≠0\/Be l≠b then 7 else if sumsF l=false then 10 else 0
def Vb (b:List Nat):List Fl:=if Kf b≠0 then []else ((Tt b).getD []).map En.f
theorem Z07 (b:List Nat)(hn:b.length<=12000)(hv:∀y∈b,y<256):Kf b=readE b/\Vb b=readL b:=by
 have key:∀l,Cd (b.length+1) b=some l->Tt b=some l->Kf b=readE b/\Vb b=readL b:=by
  intro l h1 h2
  have e:Kf b=readE b:=by
   unfold Kf readE;rw[if_neg (by omega),h1,h2]
  exact⟨e,by unfold Vb readL;rw[e,h1,h2]⟩
 have none7:Kf b=7->readE b=7->Kf b=readE b/\Vb b=readL b:=by
  intro h1 h2;refine⟨h1.trans h2.symm, ?_⟩;unfold Vb readL;rw[h1,h2];rfl
 by_cases A:∃l,Cd (b.length+1) b=some l/\Be l=b/\errM (l.map En.f)=0
 . obtain⟨l,h1,h2,h3⟩:=A;have hnum:=(Sg hv h1).2;have hval:=Sf h1 hv;refine key l h1 ?_;have:=PY l (fun x hx=>((hnum x hx).ok hn (hval x hx)).doc) (by have:=(Mr h3).1;simpa using this) (by rw[h2];omega)
   rwa [h2]at this
 . by_cases D:∃l,Tt b=some l/\Be l=b/\errM (l.map En.f)=0
   . obtain⟨l,h1,h2,h3⟩:=D;have hnum:=(DJ hv h1).2;have:=Se l (fun x hx=>(hnum x hx).ok) [] (Yy l)
     rw[XA,h2]at this;exact absurd ⟨l,this,h2,h3⟩ A
   . refine none7 ?_ ?_
     . unfold Kf
       cases he:Tt b with
       |none=>rfl
       |some l=>
        dsimp only;rw[if_pos]
        by_cases c:errM (l.map En.f)=0
        . exact .inr (fun e=>D ⟨l,he,e,c⟩)
        . exact .inl c
     . unfold readE;rw[if_neg (by omega)]
       cases he:Cd (b.length+1) b with
       |none=>rfl
       |some l=>
        dsimp only;rw[if_pos]
        by_cases c:errM (l.map En.f)=0
        . exact .inr (fun e=>A ⟨l,he,e,c⟩)
        . exact .inl c
end Go.Proofs.YtleocpdblhbimaaGreatDoor
namespace Go.Proofs.YtleocpdblhbimaaGreatDoor
set_option linter.unusedVariables false
set_option maxRecDepth 100000
end Go.Proofs.YtleocpdblhbimaaGreatDoor
