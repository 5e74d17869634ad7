import Derived.Test.YtieianhejdcgdaaGreatDoorQ8
namespace Go.Proofs.YtieianhejdcgdaaGreatDoor
set_option linter.unusedVariables false
set_option maxRecDepth 100000
structure Told (row:List Bool)(u:US)(m0 n0 c0:Nat)(u1 u2 u3 us:US)(S L A C:List Int)(v:US):Prop where
 g1:uget row 5 u=(m0,u1)
 g2:uget row 5 u1=(n0,u2)
 g3:uget row 4 u2=(c0,u3)
 e3:u3.e=0
 hm:m0+257<=286
 hn:n0+1<=30
 sm:usmall row (ord19.take (c0+4)) (List.replicate 19 0) u3=(S,us)
 es:us.e=0
 cs:errL S=0
 ln:ulens row S (m0+257+(n0+1)) (m0+257+(n0+1)) [] us=(L,v)
 ev:v.e=0
 l256:L.getD 256 0≠0
 ca:errL (L.take (m0+257))=0
 cc:errL (L.drop (m0+257))=0
 ea:A=L.take (m0+257)
 ec:C=L.drop (m0+257)
 len:L.length=m0+257+(n0+1)
theorem Je {row:List Bool}{u v:US}{A C:List Int}(h:Db row u=((A,C),v))(hv:v.e=0):∃m0 n0 c0 u1 u2 u3 us S L,Told row u m0 n0 c0 u1 u2 u3 us S L A C v:=by
 obtain⟨m0,u1,e1⟩:∃m0 u1,uget row 5 u=(m0,u1):=⟨_,_,rfl⟩
 obtain⟨n0,u2,e2⟩:∃n0 u2,uget row 5 u1=(n0,u2):=⟨_,_,rfl⟩
 obtain⟨c0,u3,e3⟩:∃c0 u3,uget row 4 u2=(c0,u3):=⟨_,_,rfl⟩
 have h1:Nn row (m0+257) (n0+1) (Gj row (m0+257) (n0+1) (c0+4) u3)=((A,C),v):=by
  unfold Db at h;simp only[e1,e2,e3]at h;exact h
 obtain⟨S,us,hs⟩:∃S us,Gj row (m0+257) (n0+1) (c0+4) u3=(S,us):=⟨_,_,rfl⟩
 rw[hs]at h1;unfold Nn at h1
 by_cases hc:(Tq (S,us)).e≠0
 . rw[if_pos hc]at h1;have:Tq (S,us)=v:=(VU h1).2
   rw[this]at hc;exact absurd hv hc
 . rw[if_neg hc]at h1;have hc0:(Tq (S,us)).e=0:=by omega
   have hes:us.e=0/\errL S=0:=by
    unfold Tq at hc0;simp only at hc0
    by_cases hx:us.e=0/\errL S≠0
    . rw[if_pos hx]at hc0;exact absurd hc0 (Da (by decide))
    . rw[if_neg hx]at hc0;refine⟨hc0, ?_⟩
      by_cases h5:errL S=0
      . exact h5
      . exact absurd ⟨hc0,h5⟩ hx
   have hck:Tq (S,us)=us:=by
    unfold Tq;rw[if_neg];rintro ⟨_,h6⟩;exact h6 hes.2
   rw[hck]at h1;simp only at h1
   obtain⟨L,ul,hl⟩:∃L ul,ulens row S (m0+257+(n0+1)) (m0+257+(n0+1)) [] us=(L,ul):=⟨_,_,rfl⟩
   rw[hl]at h1;unfold Ig at h1;simp only at h1
   by_cases hu:ul.e≠0
   . rw[if_pos hu]at h1;have:ul=v:=(VU h1).2
     rw[this]at hu;exact absurd hv hu
   . rw[if_neg hu]at h1;have hu0:ul.e=0:=by omega
     by_cases hb:L.getD 256 0=0\/errL (L.take (m0+257))≠0\/errL (L.drop (m0+257))≠0
     . rw[if_pos hb]at h1;have:Ay 8 ul=v:=(VU h1).2
       rw[<-this]at hv;exact absurd hv (Da (by decide))
     . rw[if_neg hb]at h1;have ha:=(VU h1).1;have hev:ul=v:=(VU h1).2;subst hev
       have hmn:¬(286<m0+257\/30<n0+1):=by
        intro hx;have he:=hs;unfold Gj at he;rw[if_pos hx]at he;have:=congrArg (fun z=>z.2.e) he
        simp only at this
        rw[hes.1]at this;exact Da (by decide) (Oo this)
       have hsm:usmall row (ord19.take (c0+4)) (List.replicate 19 0) u3=(S,us):=by
        unfold Gj at hs;rw[if_neg hmn]at hs;exact hs
       have he3:u3.e=0:=by
        have:=congrArg (fun z=>z.2.e) hsm
        simp only at this
        rw[hes.1]at this;exact Oo this
       have hlen:L.length=m0+257+(n0+1):=by
        have:=Yw (row:=row) (small:=S) (tot:=m0+257+(n0+1)) (m0+257+(n0+1)) [] us (by simp) (by simp) hes.1 (by rw[hl];exact hu0) (fun l u _=>(Yx row l _ _).1)
        rw[hl]at this;exact this
       refine⟨m0,n0,c0,u1,u2,u3,us,S,L,⟨e1,e2,e3,he3,by omega,by omega,hsm,hes.1,hes.2,hl,hu0, ?_, ?_, ?_,(VU ha).1.symm,(VU ha).2.symm,hlen⟩⟩
       . intro h9;exact hb (.inl h9)
       . by_cases h9:errL (L.take (m0+257))=0
         . exact h9
         . exact absurd (.inr (.inl h9)) hb
       . by_cases h9:errL (L.drop (m0+257))=0
         . exact h9
         . exact absurd (.inr (.inr h9)) hb
theorem Z3k:Good Mn:=Ci (by decide+kernel)
theorem Z3i:Good Ic:=Ci (by decide+kernel)
theorem Vs {row:List Bool}:∀ {ks:List Nat} {s:List Int} {u:US},(usmall row ks s u).2.e=0->u.p<=row.length->u.p<=(usmall row ks s u).2.p/\(usmall row ks s u).2.p<=row.length/\(usmall row ks s u).2.out=u.out/\(usmall row ks s u).2.ks=u.ks
 | [],s,u,h,hp=>⟨VC _,hp,rfl,rfl⟩
 |k::r,s,u,h,hp=>by
  rw[usmall]at h ⊢;have h1:=Oo h;obtain⟨q1,q2,q3,q4,_⟩:=Br (r:=(uget row 3 u).1) (v:=(uget row 3 u).2) rfl h1;obtain⟨i1,i2,i3,i4⟩:=Vs h q2;exact⟨by omega,i2,i3.trans q3,i4.trans q4⟩
theorem IR {row:List Bool}{l:List Int}{k:Nat}{u:US}(h:(ukind row l k u).2.2.e=0)(hp:u.p<=row.length):u.p<=(ukind row l k u).2.2.p/\(ukind row l k u).2.2.p<=row.length/\(ukind row l k u).2.2.out=u.out/\(ukind row l k u).2.2.ks=u.ks:=by
 have key:∀n,(uget row n u).2.e=0->u.p<=(uget row n u).2.p/\(uget row n u).2.p<=row.length/\(uget row n u).2.out=u.out/\(uget row n u).2.ks=u.ks:=fun n hn=>by
  obtain⟨q1,q2,q3,q4,_⟩:=Br (r:=(uget row n u).1) (v:=(uget row n u).2) rfl hn;exact⟨by omega,q2,q3,q4⟩
 unfold ukind at h ⊢
 split
 . rename_i h16
   rw[if_pos h16]at h
   split
   . rename_i h0
     rw[if_pos h0]at h;exact absurd h (Da (by decide))
   . rename_i h0
     rw[if_neg h0]at h;exact key 2 h
 . rename_i h16
   rw[if_neg h16]at h
   split
   . rename_i h17
     rw[if_pos h17]at h;exact key 3 h
   . rename_i h17
     rw[if_neg h17]at h
     split
     . rename_i h18
       rw[if_pos h18]at h;exact key 7 h
     . exact⟨VC _,hp,rfl,rfl⟩
theorem IP {row:List Bool}{small:List Int}{tot:Nat}:∀ {F:Nat} {l:List Int} {u:US},(ulens row small tot F l u).2.e=0->u.p<=row.length->u.p<=(ulens row small tot F l u).2.p/\(ulens row small tot F l u).2.p<=row.length/\(ulens row small tot F l u).2.out=u.out/\(ulens row small tot F l u).2.ks=u.ks
 |0,l,u,h,hp=>⟨VC _,hp,rfl,rfl⟩
 |F+1,l,u,h,hp=>by
  by_cases hc:l.length<tot/\u.e=0
  . obtain⟨r,e⟩:=Ka hc.1 hc.2 h;rw[e,r.st]at h ⊢;simp only at h ⊢
    obtain⟨a1,a2,a3,a4,_,_⟩:=Di (k:=(uplace small row u).1) (v:=(uplace small row u).2) rfl r.pe;obtain⟨b1,b2,b3,b4⟩:=IR r.ke a2;obtain⟨i1,i2,i3,i4⟩:=IP h b2;exact⟨by omega,i2,i3.trans (b3.trans a3),i4.trans (b4.trans a4)⟩
  . rw[ulens,if_neg hc];exact⟨VC _,hp,rfl,rfl⟩
theorem Vq {row:List Bool}{u v u1 u2 u3 us:US}{m0 n0 c0:Nat}{S L A C:List Int}(h:Told row u m0 n0 c0 u1 u2 u3 us S L A C v)(hp:u.p<=row.length):u.p+1<=v.p/\v.p<=row.length/\v.out=u.out/\v.ks=u.ks:=by
 obtain⟨a1,a2,a3,a4,ae⟩:=Br h.g3 h.e3;obtain⟨b1,b2,b3,b4,be⟩:=Br h.g2 ae;obtain⟨c1,c2,c3,c4,_⟩:=Br h.g1 be;have s:=Vs (row:=row) (ks:=ord19.take (c0+4)) (s:=List.replicate 19 0) (u:=u3) (by rw[h.sm];exact h.es) a2;rw[h.sm]at s;obtain⟨s1,s2,s3,s4⟩:=s;have t:=IP (row:=row) (small:=S) (tot:=m0+257+(n0+1)) (F:=m0+257+(n0+1)) (l:= []) (u:=us) (by rw[h.ln];exact h.ev) s2;rw[h.ln]at t;obtain⟨t1,t2,t3,t4⟩:=t;simp only at s1 s2 s3 s4 t1 t2 t3 t4
 exact⟨by omega,t2,by rw[t3,s3,a3,b3,c3],by rw[t4,s4,a4,b4,c4]⟩
theorem Ks {row:List Bool}:∀ {k:Nat} {u:US},(ustore row k u).e=0->u.e=0
 |0,u,h=>h
 |k+1,u,h=>by
  rw[ustore]at h
  by_cases e:u.e=0
  . exact e
  . rw[if_neg e]at h;exact h
theorem Pw {row:List Bool}:∀ {k:Nat} {u:US},(ustore row k u).e=0->(ustore row k u).ks=u.ks
 |0,u,h=>rfl
 |k+1,u,h=>by
  have he:=Ks h;rw[ustore,if_pos he]at h ⊢;obtain⟨r,y,hg⟩:∃r y,uget row 8 u=(r,y):=⟨_,_,rfl⟩
  rw[hg]at h ⊢;obtain⟨h1,_,h3⟩:=Yt (Ks h);rw[Pw h,h3];exact(Br hg h1).2.2.2.1
structure Sto (row:List Bool)(u:US)(r1 r2:Nat)(y1 y2 V:US):Prop where
 g1:uget row 16 {u with p:=(u.p+7)/8*8}=(r1,y1)
 g2:uget row 16 y1=(r2,y2)
 e2:y2.e=0
 sum:r1+r2=65535
 st:ustore row r1 y2=V
 ev:V.e=0
theorem Yn {row:List Bool}{u:US}(h:(ustored row u).e=0):∃r1 r2 y1 y2,Sto row u r1 r2 y1 y2 (ustored row u):=by
 obtain⟨r1,y1,e1⟩:∃r1 y1,uget row 16 {u with p:=(u.p+7)/8*8}=(r1,y1):=⟨_,_,rfl⟩
 obtain⟨r2,y2,e2⟩:∃r2 y2,uget row 16 y1=(r2,y2):=⟨_,_,rfl⟩
 refine⟨r1,r2,y1,y2, ?_⟩;unfold ustored at h ⊢;simp only[e1,e2]at h ⊢;have hx:=Ks h
 by_cases c:y2.e=0/\r1+r2≠65535
 . rw[if_pos c]at hx;exact absurd hx (Da (by decide))
 . rw[if_neg c]at h hx ⊢;exact⟨e1,e2,hx,by omega,rfl,h⟩
theorem Vr {row:List Bool}:∀ {k:Nat} {u:US},(ustore row k u).e=0->u.p<=row.length->u.p<=(ustore row k u).p/\(ustore row k u).p<=row.length/\(u.out.length<=3000->(ustore row k u).out.length<=3000)
 |0,u,h,hp=>⟨VC _,hp,fun h=>h⟩
 |k+1,u,h,hp=>by
  have he:=Ks h;rw[ustore,if_pos he]at h ⊢;obtain⟨r,y,hg⟩:∃r y,uget row 8 u=(r,y):=⟨_,_,rfl⟩
  rw[hg]at h ⊢;obtain⟨h1,h2,h3⟩:=Yt (Ks h);obtain⟨q1,q2,q3,_,_⟩:=Br hg h1;have ih:=Vr h (by rw[h3];exact q2);rw[h3]at ih ⊢;refine⟨?_,ih.2.1,fun ho=>ih.2.2 ?_⟩
  . have:=ih.1
    simp only at this ⊢
    omega
  . simp only[VB,VH,VQ];rw[q3]at h2 ⊢;omega
theorem Z0h {row:List Bool}{a b:List Int}:∀ {F:Nat} {u:US},(utok row a b F u).e=0->u.p<=row.length->u.p<=(utok row a b F u).p/\(utok row a b F u).p<=row.length/\(utok row a b F u).ks=u.ks/\(u.out.length<=3000->(utok row a b F u).out.length<=3000)
 |0,u,h,hp=>⟨VC _,hp,rfl,fun h=>h⟩
 |F+1,u,h,hp=>by
  obtain⟨t,x,hT,e⟩:=Tl h;obtain⟨a1,a2,a3,a4,a5⟩:=hT.ahead;rw[e]at h ⊢
  by_cases ht:t=true
  . rw[if_pos ht]at h ⊢;obtain⟨i1,i2,i3,i4⟩:=Z0h h a2;exact⟨by omega,i2,i3.trans a4,fun ho=>i4 (a5 ho)⟩
  . rw[if_neg ht];exact⟨by omega,a2,a4,a5⟩
theorem Blk1R.ahead {row:List Bool}{u v:US}{t:Bool}(h:Blk1R row u t v):u.p+1<=v.p/\v.p<=row.length/\v.e=0/\v.ks.length=u.ks.length+1/\(u.out.length<=3000->v.out.length<=3000):=by
 cases h with
 |stored l x1 x2 h1 h2 h3 h4=>
  obtain⟨q2,q2l,q2o,q2k,q2e⟩:=Br h2 h3;obtain⟨q1,q1l,q1o,q1k,_⟩:=Br h1 q2e;obtain⟨r1,r2,y1,y2,hS⟩:=Yn h4;have hy1e:y1.e=0:=Tp (by rw[hS.g2];exact hS.e2);obtain⟨p1,p1l,p1o,p1k,_⟩:=Br hS.g1 hy1e;obtain⟨p2,p2l,p2o,p2k,_⟩:=Br hS.g2 hS.e2;have s:=Vr (row:=row) (k:=r1) (u:=y2) (by rw[hS.st];exact h4) p2l;have sk:=Pw (row:=row) (k:=r1) (u:=y2) (by rw[hS.st];exact h4);rw[hS.st]at s sk;simp only at p1 p1o p1k
  refine⟨?_,s.2.1,h4, ?_,fun ho=>s.2.2 ?_⟩
  . show u.p+1<=(ustored row x2).p
    have:=s.1
    omega
  . show ((ustored row x2).ks++ [0]).length=_
    rw[VB,sk,p2k,p1k,q2k,q1k];rfl
  . rw[p2o,p1o,q2o,q1o];exact ho
 |coded l k x1 x2 x3 a b h1 h2 h3 h4 h5 h6 h7=>
  obtain⟨q2,q2l,q2o,q2k,q2e⟩:=Br h2 h3;obtain⟨q1,q1l,q1o,q1k,_⟩:=Br h1 q2e
  have hx:x2.p<=x3.p/\x3.p<=row.length/\x3.out=x2.out/\x3.ks=x2.ks:=by
   rcases h4 with h4|h4
   . subst h4;unfold uopen at h5;rw[if_pos rfl]at h5;have:=(VU h5).2
     subst this;exact⟨VC _,q2l,rfl,rfl⟩
   . subst h4;unfold uopen at h5;rw[if_neg (by decide),if_pos rfl]at h5;obtain⟨m0,n0,c0,v1,v2,v3,us,S0,L0,hTD⟩:=Je h5 h6;obtain⟨t1,t2,t3,t4⟩:=Vq hTD q2l;exact⟨by omega,t2,t3,t4⟩
  obtain⟨s1,s2,s3,s4⟩:=hx;obtain⟨t1,t2,t3,t4⟩:=Z0h h7 s2;refine⟨?_,t2,h7, ?_,fun ho=>t4 ?_⟩
  . show u.p+1<=(utok row a b row.length x3).p
    omega
  . show ((utok row a b row.length x3).ks++ [k]).length=_
    rw[VB,t3,s4,q2k,q1k];rfl
  . rw[s3,q2o,q1o];exact ho
theorem IV {row:List Bool}:∀ {F:Nat} {u:US},(Ei row (F+1) u).e=0->(Fc row u).2.e=0:=by
 intro F u h;rw[Ei]at h
 by_cases c:(Fc row u).1=false/\(Fc row u).2.e=0
 . exact c.2
 . rw[if_neg c]at h;exact h
theorem Vv {row:List Bool}{F:Nat}{u:US}(h:(Ei row (F+1) u).e=0):∃t x,Blk1R row u t x/\Ei row (F+1) u=if t=false then Ei row F x else x:=by
 have he:=IV h;refine⟨(Fc row u).1,(Fc row u).2,O6 he, ?_⟩;rw[Ei]
 by_cases c:(Fc row u).1=false
 . rw[if_pos ⟨c,he⟩,if_pos c]
 . rw[if_neg (fun h=>c h.1),if_neg c]
def Lr (k:Nat)(u:US):US:=if u.e=0 then ukept k u else u
def Dw (row:List Bool)(k:Nat)(u:US):US:=
 if k=0 then Lr 0 (Cs row u)
 else if k=1 then Lr 1 (Ib row Mn Ic (row.length+1) u)
 else if k=2 then (if (Db row u).2.e≠0 then (Db row u).2 else Lr 2 (Ib row (Db row u).1.1 (Db row u).1.2 (row.length+1) (Db row u).2))
 else {u with e:=4}
def Bv (row:List Bool)(u:US):Nat×US:=
 if (uget row 1 u).2.e≠0 then (1,(uget row 1 u).2)
 else if (uget row 2 (uget row 1 u).2).2.e≠0 then (1,(uget row 2 (uget row 1 u).2).2)
 else ((uget row 1 u).1,Dw row (uget row 2 (uget row 1 u).2).1 (uget row 2 (uget row 1 u).2).2)
def Ce (row:List Bool):Nat->US->US
 |0,u=>u
 |f+1,u=>if (Bv row u).1=0/\(Bv row u).2.e=0 then Ce row f (Bv row u).2 else (Bv row u).2
def Dd (row:List Bool):US:=Ce row (row.length+1) US0
structure Ahd (row:List Bool)(u v:US):Prop where
 ks:v.ks=u.ks
 ge:u.p<=v.p
 le:v.p<=row.length
 out:v.out.length<=3000
theorem Ahd.trans {row:List Bool}{u v x:US}(h:Ahd row u v)(k:Ahd row v x):Ahd row u x:=⟨k.ks.trans h.ks,VX h.ge k.ge,k.le,k.out⟩
theorem Vu (row:List Bool)(n:Nat)(u:US)(hp:u.p<=row.length)(ho:u.out.length<=3000):Ahd row u (uget row n u).2:=⟨Ht _ _ _,O4 _ _ _,Gp _ _ _ hp,by rw[Cg];exact ho⟩
theorem Tn (l:List Int)(row:List Bool)(u:US)(hp:u.p<=row.length)(ho:u.out.length<=3000):Ahd row u (uplace l row u).2:=by
 obtain⟨h1,h2,h3⟩:=Gk l row u;exact⟨h2,h3,Ih l row u hp,by rw[h1];exact ho⟩
theorem MJ (row:List Bool)(lb:List Int)(k:Nat)(u:US)(hp:u.p<=row.length)(ho:u.out.length<=3000)(h:(Cv row lb k u).e=0):Ahd row u (Cv row lb k u):=by
 unfold Cv at h ⊢
 split
 . rename_i c1
   rw[if_pos c1]at h
   split
   . rename_i c2
     rw[if_pos c2]at h;exact absurd (show (2:Int)=0 from h) (by decide)
   . refine⟨rfl,VC _,hp, ?_⟩;simp only[VB,VH,VQ];omega
 . rename_i c1
   rw[if_neg c1]at h
   split
   . rename_i c2
     rw[if_pos c2]at h;exact absurd (show (8:Int)=0 from h) (by decide)
   . rename_i c2
     rw[if_neg c2]at h
     split
     . rename_i c3
       rw[if_pos c3]at h;exact absurd h c3
     . rename_i c3
       rw[if_neg c3]at h;have a1:=Vu row (Cw k).2 u hp ho;generalize uget row (Cw k).2 u=g at*
       split
       . rename_i c4
         rw[if_pos c4]at h;exact absurd h c4
       . rename_i c4
         rw[if_neg c4]at h;obtain⟨b1,b2,b3,b4⟩:=Uo row lb g.2 a1.le;have a2:Ahd row g.2 (Ok row lb g.2).2:=⟨b2,b3,b4,by rw[b1];exact a1.out⟩
         generalize Ok row lb g.2=q at*;obtain⟨d1,d2,d3⟩:=Rh _ _ _ h;exact(a1.trans a2).trans ⟨d2,by omega,by rw[d1];exact a2.le,d3 a2.out⟩
theorem Jo (row:List Bool)(la lb:List Int)(f:Nat)(u:US):Ib row la lb (f+1) u=if (uplace la row u).2.e≠0 then (uplace la row u).2 else if (uplace la row u).1=256 then (uplace la row u).2 else if (Cv row lb (uplace la row u).1 (uplace la row u).2).e≠0 then Cv row lb (uplace la row u).1 (uplace la row u).2 else Ib row la lb f (Cv row lb (uplace la row u).1 (uplace la row u).2):=by
 unfold Ib;rw[EP]
theorem Iv (row:List Bool)(la lb:List Int):∀(f:Nat) (u:US),u.p<=row.length->u.out.length<=3000->(Ib row la lb f u).e=0->Ahd row u (Ib row la lb f u)
 |0,u,hp,ho,h=>by
  have a1:=Tn la row u hp ho;unfold Ib
  split
  . exact a1
  . exact a1
 |f+1,u,hp,ho,h=>by
  have a1:=Tn la row u hp ho;rw[Jo]at h ⊢;generalize uplace la row u=r at*
  split
  . exact a1
  . rename_i c1
    rw[if_neg c1]at h
    split
    . exact a1
    . rename_i c2
      rw[if_neg c2]at h
      split
      . rename_i c3
        rw[if_pos c3]at h;exact absurd h c3
      . rename_i c3
        rw[if_neg c3]at h;have a2:=MJ row lb r.1 r.2 a1.le a1.out (by omega);exact(a1.trans a2).trans (Iv row la lb f _ a2.le a2.out h)
theorem T8 (row:List Bool)(u:US)(hp:(u.p+7)/8*8<=row.length)(ho:u.out.length<=3000)(h:(Cs row u).e=0):Ahd row u (Cs row u):=by
 obtain⟨r1,v1,h1⟩:∃r1 v1,uget row 16 {u with p:=(u.p+7)/8*8}=(r1,v1):=⟨_,_,rfl⟩
 obtain⟨r2,v2,h2⟩:∃r2 v2,uget row 16 v1=(r2,v2):=⟨_,_,rfl⟩
 have a1:=Vu row 16 {u with p:=(u.p+7)/8*8} hp ho;rw[h1]at a1;have a2:=Vu row 16 v1 a1.le a1.out;rw[h2]at a2;rw[Um row u v1 v2 _ r1 r2 rfl h1 h2]at h ⊢
 split
 . rename_i c
   rw[if_pos c]at h;exact absurd h c
 . rename_i c
   rw[if_neg c]at h
   split
   . rename_i c2
     rw[if_pos c2]at h;exact absurd (show (4:Int)=0 from h) (by decide)
   . rename_i c2
     rw[if_neg c2]at h
     split
     . rename_i c3
       rw[if_pos c3]at h;exact absurd (show (2:Int)=0 from h) (by decide)
     . rename_i c3
       rw[if_neg c3]at h;obtain⟨s1,s2,s3⟩:=Vr h a2.le;have hge:=a1.ge;have hge2:=a2.ge;simp only at hge hge2
       exact⟨(Pw h).trans (a2.ks.trans a1.ks),by omega,s2,s3 a2.out⟩
theorem Yl (x:Int)(u:US):(Ay x u).p=u.p/\(Ay x u).out=u.out/\(Ay x u).ks=u.ks:=by
 unfold Ay
 split<;>exact⟨rfl,rfl,rfl⟩
theorem Ym (row:List Bool)(u:US)(hp:u.p<=row.length)(ho:u.out.length<=3000)(h:(Db row u).2.e=0):Ahd row u (Db row u).2:=by
 obtain⟨A,C,v,hv⟩:∃A C v,Db row u=((A,C),v):=⟨_,_,_,rfl⟩
 rw[hv]at h ⊢;obtain⟨m0,n0,c0,u1,u2,u3,us,S,L,hT⟩:=Je hv h;obtain⟨t1,t2,t3,t4⟩:=Vq hT hp;exact⟨t4,by show u.p<=v.p;omega,t2,by show v.out.length<=3000;rw[t3];exact ho⟩
theorem MV (row:List Bool)(q:Nat)(hq:row.length=8*q)(k:Nat)(u:US)(hp:u.p<=row.length)(ho:u.out.length<=3000)(h:(Dw row k u).e=0):k<=2/\(Dw row k u).ks=u.ks++ [k]/\u.p<=(Dw row k u).p/\(Dw row k u).p<=row.length/\(Dw row k u).out.length<=3000:=by
 have key:∀(j:Nat) (x:US),(Lr j x).e=0->x.e=0/\Lr j x=ukept j x:=fun j x hx=>by
  unfold Lr at hx ⊢
  by_cases c:x.e=0
  . exact⟨c,by rw[if_pos c]⟩
  . rw[if_neg c]at hx;exact absurd hx c
 unfold Dw at h ⊢
 split
 . rename_i c
   subst c;rw[if_pos rfl]at h;obtain⟨k1,k2⟩:=key _ _ h;have a:=T8 row u (by omega) ho k1;rw[k2];exact⟨by decide,by show _++ [0]=_;rw[a.ks],a.ge,a.le,a.out⟩
 . rename_i c
   rw[if_neg c]at h
   split
   . rename_i c1
     subst c1;rw[if_pos rfl]at h;obtain⟨k1,k2⟩:=key _ _ h;have a:=Iv row Mn Ic _ u hp ho k1;rw[k2];exact⟨by decide,by show _++ [1]=_;rw[a.ks],a.ge,a.le,a.out⟩
   . rename_i c1
     rw[if_neg c1]at h
     split
     . rename_i c2
       subst c2;rw[if_pos rfl]at h
       split
       . rename_i c3
         rw[if_pos c3]at h;exact absurd h c3
       . rename_i c3
         rw[if_neg c3]at h;obtain⟨k1,k2⟩:=key _ _ h;have a0:=Ym row u hp ho (by omega);have a:=a0.trans (Iv row _ _ _ _ a0.le a0.out k1);rw[k2];exact⟨by decide,by show _++ [2]=_;rw[a.ks],a.ge,a.le,a.out⟩
     . rename_i c2
       rw[if_neg c2]at h;exact absurd (show (4:Int)=0 from h) (by decide)
theorem Jp (row:List Bool)(q:Nat)(hq:row.length=8*q)(u:US)(he:u.e=0)(hp:u.p<=row.length)(ho:u.out.length<=3000)(h:(Bv row u).2.e=0):(Bv row u).2.ks.length=u.ks.length+1/\u.p+3<=(Bv row u).2.p/\(Bv row u).2.p<=row.length/\(Bv row u).2.out.length<=3000:=by
 unfold Bv at h ⊢
 split
 . rename_i c
   rw[if_pos c]at h;exact absurd h c
 . rename_i c
   rw[if_neg c]at h
   split
   . rename_i c2
     rw[if_pos c2]at h;exact absurd h c2
   . rename_i c2
     rw[if_neg c2]at h;obtain⟨r1,v1,h1⟩:∃r1 v1,uget row 1 u=(r1,v1):=⟨_,_,rfl⟩
     rw[h1]at c c2 h ⊢;obtain⟨r2,v2,h2⟩:∃r2 v2,uget row 2 v1=(r2,v2):=⟨_,_,rfl⟩
     simp only at c c2 h ⊢
     rw[h2]at c2 h ⊢;simp only at c2 h ⊢
     obtain⟨q1,q2,q3,q4,_⟩:=Br h1 (by omega);obtain⟨s1,s2,s3,s4,_⟩:=Br h2 (by omega);obtain⟨t1,t2,t3,t4,t5⟩:=MV row q hq r2 v2 s2 (by rw[s3,q3];exact ho) h;exact⟨by rw[t2,s4,q4,VB];rfl,by omega,t4,t5⟩
end Go.Proofs.YtieianhejdcgdaaGreatDoor
