import Derived.Test.YtleocpdblhbimaaGreatDoorQ2
set_option linter.unusedSimpArgs false
namespace Go.Proofs.YtleocpdblhbimaaGreatDoor
set_option linter.unusedVariables false
set_option maxRecDepth 100000
structure Told (row:List Bool)(u:US)(m0 n0 c0:Nat)(u1 u2 u3 us:US)(S L A C:List Int)(v:US):Prop where
 g1:uget row 5 u=(m0,u1)
 g2:uget row 5 u1=(n0,u2)
 g3:uget row 4 u2=(c0,u3)
 e3:u3.e=0
 hm:m0+257<=286
 hn:n0+1<=30
 sm:usmall row (ord19.take (c0+4)) (List.replicate 19 0) u3=(S,us)
 es:us.e=0
 cs:errL S=0
 ln:ulens row S (m0+257+(n0+1)) (m0+257+(n0+1)) [] us=(L,v)
 ev:v.e=0
 l256:L.getD 256 0≠0
 ca:errL (L.take (m0+257))=0
 cc:errL (L.drop (m0+257))=0
 ea:A=L.take (m0+257)
 ec:C=L.drop (m0+257)
 len:L.length=m0+257+(n0+1)
theorem Gt {row:List Bool}{u v:US}{A C:List Int}(h:Hc row u=((A,C),v))(hv:v.e=0):∃m0 n0 c0 u1 u2 u3 us S L,Told row u m0 n0 c0 u1 u2 u3 us S L A C v:=by
 obtain⟨m0,u1,e1⟩:∃m0 u1,uget row 5 u=(m0,u1):=⟨_,_,rfl⟩
 obtain⟨n0,u2,e2⟩:∃n0 u2,uget row 5 u1=(n0,u2):=⟨_,_,rfl⟩
 obtain⟨c0,u3,e3⟩:∃c0 u3,uget row 4 u2=(c0,u3):=⟨_,_,rfl⟩
 have h1:T8 row (m0+257) (n0+1) (Tl row (m0+257) (n0+1) (c0+4) u3)=((A,C),v):=by
  unfold Hc at h;simp only[e1,e2,e3]at h;exact h
 obtain⟨S,us,hs⟩:∃S us,Tl row (m0+257) (n0+1) (c0+4) u3=(S,us):=⟨_,_,rfl⟩
 rw[hs]at h1;unfold T8 at h1
 by_cases hc:(NV (S,us)).e≠0
 . rw[if_pos hc]at h1;have:NV (S,us)=v:=(XA h1).2
   rw[this]at hc;exact absurd hv hc
 . rw[if_neg hc]at h1;have hc0:(NV (S,us)).e=0:=by omega
   have hes:us.e=0/\errL S=0:=by
    unfold NV at hc0;simp only at hc0
    by_cases hx:us.e=0/\errL S≠0
    . rw[if_pos hx]at hc0;exact absurd hc0 (Cs (by decide))
    . rw[if_neg hx]at hc0;refine⟨hc0, ?_⟩
      by_cases h5:errL S=0
      . exact h5
      . exact absurd ⟨hc0,h5⟩ hx
   have hck:NV (S,us)=us:=by
    unfold NV;rw[if_neg];rintro ⟨_,h6⟩;exact h6 hes.2
   rw[hck]at h1;simp only at h1
   obtain⟨L,ul,hl⟩:∃L ul,ulens row S (m0+257+(n0+1)) (m0+257+(n0+1)) [] us=(L,ul):=⟨_,_,rfl⟩
   rw[hl]at h1;unfold FO at h1;simp only at h1
   by_cases hu:ul.e≠0
   . rw[if_pos hu]at h1;have:ul=v:=(XA h1).2
     rw[this]at hu;exact absurd hv hu
   . rw[if_neg hu]at h1;have hu0:ul.e=0:=by omega
     by_cases hb:L.getD 256 0=0\/errL (L.take (m0+257))≠0\/errL (L.drop (m0+257))≠0
     . rw[if_pos hb]at h1;have:Ck 8 ul=v:=(XA h1).2
       rw[<-this]at hv;exact absurd hv (Cs (by decide))
     . rw[if_neg hb]at h1;have ha:=(XA h1).1;have hev:ul=v:=(XA h1).2;subst hev
       have hmn:¬(286<m0+257\/30<n0+1):=by
        intro hx;have he:=hs;unfold Tl at he;rw[if_pos hx]at he;have:=congrArg (fun z=>z.2.e) he
        simp only at this
        rw[hes.1]at this;exact Cs (by decide) (Oj this)
       have hsm:usmall row (ord19.take (c0+4)) (List.replicate 19 0) u3=(S,us):=by
        unfold Tl at hs;rw[if_neg hmn]at hs;exact hs
       have he3:u3.e=0:=by
        have:=congrArg (fun z=>z.2.e) hsm
        simp only at this
        rw[hes.1]at this;exact Oj this
       have hlen:L.length=m0+257+(n0+1):=by
        have:=Xy (row:=row) (small:=S) (tot:=m0+257+(n0+1)) (m0+257+(n0+1)) [] us (by simp) (by simp) hes.1 (by rw[hl];exact hu0) (fun l u _=>(FW row l _ _).1)
        rw[hl]at this;exact this
       refine⟨m0,n0,c0,u1,u2,u3,us,S,L,⟨e1,e2,e3,he3,by omega,by omega,hsm,hes.1,hes.2,hl,hu0, ?_, ?_, ?_,(XA ha).1.symm,(XA ha).2.symm,hlen⟩⟩
       . intro h9;exact hb (.inl h9)
       . by_cases h9:errL (L.take (m0+257))=0
         . exact h9
         . exact absurd (.inr (.inl h9)) hb
       . by_cases h9:errL (L.drop (m0+257))=0
         . exact h9
         . exact absurd (.inr (.inr h9)) hb
theorem Z24:Good Mb:=Cn (by decide+kernel)
theorem Z22:Good Ja:=Cn (by decide+kernel)
theorem U8 {row:List Bool}:∀ {ks:List Nat} {s:List Int} {u:US},(usmall row ks s u).2.e=0->u.p<=row.length->u.p<=(usmall row ks s u).2.p/\(usmall row ks s u).2.p<=row.length/\(usmall row ks s u).2.out=u.out/\(usmall row ks s u).2.ks=u.ks
 | [],s,u,h,hp=>⟨VC _,hp,rfl,rfl⟩
 |k::r,s,u,h,hp=>by
  rw[usmall]at h ⊢;have h1:=Oj h;obtain⟨q1,q2,q3,q4,_⟩:=Ax (r:=(uget row 3 u).1) (v:=(uget row 3 u).2) rfl h1;obtain⟨i1,i2,i3,i4⟩:=U8 h q2;exact⟨by omega,i2,i3.trans q3,i4.trans q4⟩
theorem Z09 {row:List Bool}{l:List Int}{k:Nat}{u:US}(h:(ukind row l k u).2.2.e=0)(hp:u.p<=row.length):u.p<=(ukind row l k u).2.2.p/\(ukind row l k u).2.2.p<=row.length/\(ukind row l k u).2.2.out=u.out/\(ukind row l k u).2.2.ks=u.ks:=by
 have key:∀n,(uget row n u).2.e=0->u.p<=(uget row n u).2.p/\(uget row n u).2.p<=row.length/\(uget row n u).2.out=u.out/\(uget row n u).2.ks=u.ks:=fun n hn=>by
  obtain⟨q1,q2,q3,q4,_⟩:=Ax (r:=(uget row n u).1) (v:=(uget row n u).2) rfl hn;exact⟨by omega,q2,q3,q4⟩
 unfold ukind at h ⊢
 split
 . rename_i h16
   rw[if_pos h16]at h
   split
   . rename_i h0
     rw[if_pos h0]at h;exact absurd h (Cs (by decide))
   . rename_i h0
     rw[if_neg h0]at h;exact key 2 h
 . rename_i h16
   rw[if_neg h16]at h
   split
   . rename_i h17
     rw[if_pos h17]at h;exact key 3 h
   . rename_i h17
     rw[if_neg h17]at h
     split
     . rename_i h18
       rw[if_pos h18]at h;exact key 7 h
     . exact⟨VC _,hp,rfl,rfl⟩
theorem FV {row:List Bool}{small:List Int}{tot:Nat}:∀ {F:Nat} {l:List Int} {u:US},(ulens row small tot F l u).2.e=0->u.p<=row.length->u.p<=(ulens row small tot F l u).2.p/\(ulens row small tot F l u).2.p<=row.length/\(ulens row small tot F l u).2.out=u.out/\(ulens row small tot F l u).2.ks=u.ks
 |0,l,u,h,hp=>⟨VC _,hp,rfl,rfl⟩
 |F+1,l,u,h,hp=>by
  by_cases hc:l.length<tot/\u.e=0
  . obtain⟨r,e⟩:=Kc hc.1 hc.2 h;rw[e,r.st]at h ⊢;simp only at h ⊢
    obtain⟨a1,a2,a3,a4,_,_⟩:=Bt (k:=(uplace small row u).1) (v:=(uplace small row u).2) rfl r.pe;obtain⟨b1,b2,b3,b4⟩:=Z09 r.ke a2;obtain⟨i1,i2,i3,i4⟩:=FV h b2;exact⟨by omega,i2,i3.trans (b3.trans a3),i4.trans (b4.trans a4)⟩
  . rw[ulens,if_neg hc];exact⟨VC _,hp,rfl,rfl⟩
theorem Ps {row:List Bool}{u v u1 u2 u3 us:US}{m0 n0 c0:Nat}{S L A C:List Int}(h:Told row u m0 n0 c0 u1 u2 u3 us S L A C v)(hp:u.p<=row.length):u.p+1<=v.p/\v.p<=row.length/\v.out=u.out/\v.ks=u.ks:=by
 obtain⟨a1,a2,a3,a4,ae⟩:=Ax h.g3 h.e3;obtain⟨b1,b2,b3,b4,be⟩:=Ax h.g2 ae;obtain⟨c1,c2,c3,c4,_⟩:=Ax h.g1 be;have s:=U8 (row:=row) (ks:=ord19.take (c0+4)) (s:=List.replicate 19 0) (u:=u3) (by rw[h.sm];exact h.es) a2;rw[h.sm]at s;obtain⟨s1,s2,s3,s4⟩:=s;have t:=FV (row:=row) (small:=S) (tot:=m0+257+(n0+1)) (F:=m0+257+(n0+1)) (l:= []) (u:=us) (by rw[h.ln];exact h.ev) s2;rw[h.ln]at t;obtain⟨t1,t2,t3,t4⟩:=t;simp only at s1 s2 s3 s4 t1 t2 t3 t4
 exact⟨by omega,t2,by rw[t3,s3,a3,b3,c3],by rw[t4,s4,a4,b4,c4]⟩
theorem Qh:∀q,q<29->(samesL.getD q (0,0)).2<=5/\(samesL.getD q (0,0)).1<=258:=by decide
theorem Uq:∀f,f<30->(farsL.getD f (0,0)).2<=13/\(farsL.getD f (0,0)).1<=24577/\1<=(farsL.getD f (0,0)).1:=by decide
theorem Hd {row:List Bool}:∀ {k:Nat} {u:US},(ustore row k u).e=0->u.e=0
 |0,u,h=>h
 |k+1,u,h=>by
  rw[ustore]at h
  by_cases e:u.e=0
  . exact e
  . rw[if_neg e]at h;exact h
theorem Kv {row:List Bool}:∀ {k:Nat} {u:US},(ustore row k u).e=0->(ustore row k u).ks=u.ks
 |0,u,h=>rfl
 |k+1,u,h=>by
  have he:=Hd h;rw[ustore,if_pos he]at h ⊢;obtain⟨r,y,hg⟩:∃r y,uget row 8 u=(r,y):=⟨_,_,rfl⟩
  rw[hg]at h ⊢;obtain⟨h1,_,h3⟩:=Nq (Hd h);rw[Kv h,h3];exact(Ax hg h1).2.2.2.1
structure Sto (row:List Bool)(u:US)(r1 r2:Nat)(y1 y2 V:US):Prop where
 g1:uget row 16 {u with p:=(u.p+7)/8*8}=(r1,y1)
 g2:uget row 16 y1=(r2,y2)
 e2:y2.e=0
 sum:r1+r2=65535
 st:ustore row r1 y2=V
 ev:V.e=0
theorem Np {row:List Bool}{u:US}(h:(ustored row u).e=0):∃r1 r2 y1 y2,Sto row u r1 r2 y1 y2 (ustored row u):=by
 obtain⟨r1,y1,e1⟩:∃r1 y1,uget row 16 {u with p:=(u.p+7)/8*8}=(r1,y1):=⟨_,_,rfl⟩
 obtain⟨r2,y2,e2⟩:∃r2 y2,uget row 16 y1=(r2,y2):=⟨_,_,rfl⟩
 refine⟨r1,r2,y1,y2, ?_⟩;unfold ustored at h ⊢;simp only[e1,e2]at h ⊢;have hx:=Hd h
 by_cases c:y2.e=0/\r1+r2≠65535
 . rw[if_pos c]at hx;exact absurd hx (Cs (by decide))
 . rw[if_neg c]at h hx ⊢;exact⟨e1,e2,hx,by omega,rfl,h⟩
theorem Vi {row:List Bool}:∀ {k:Nat} {u:US},(ustore row k u).e=0->u.p<=row.length->u.p<=(ustore row k u).p/\(ustore row k u).p<=row.length/\(u.out.length<=3000->(ustore row k u).out.length<=3000)
 |0,u,h,hp=>⟨VC _,hp,fun h=>h⟩
 |k+1,u,h,hp=>by
  have he:=Hd h;rw[ustore,if_pos he]at h ⊢;obtain⟨r,y,hg⟩:∃r y,uget row 8 u=(r,y):=⟨_,_,rfl⟩
  rw[hg]at h ⊢;obtain⟨h1,h2,h3⟩:=Nq (Hd h);obtain⟨q1,q2,q3,_,_⟩:=Ax hg h1;have ih:=Vi h (by rw[h3];exact q2);rw[h3]at ih ⊢;refine⟨?_,ih.2.1,fun ho=>ih.2.2 ?_⟩
  . have:=ih.1
    simp only at this ⊢
    omega
  . simp only[VB,VJ,WO];rw[q3]at h2 ⊢;omega
theorem SP {row:List Bool}{a b:List Int}:∀ {F:Nat} {u:US},(utok row a b F u).e=0->u.p<=row.length->u.p<=(utok row a b F u).p/\(utok row a b F u).p<=row.length/\(utok row a b F u).ks=u.ks/\(u.out.length<=3000->(utok row a b F u).out.length<=3000)
 |0,u,h,hp=>⟨VC _,hp,rfl,fun h=>h⟩
 |F+1,u,h,hp=>by
  obtain⟨t,x,hT,e⟩:=Ji h;obtain⟨a1,a2,a3,a4,a5⟩:=hT.ahead;rw[e]at h ⊢
  by_cases ht:t=true
  . rw[if_pos ht]at h ⊢;obtain⟨i1,i2,i3,i4⟩:=SP h a2;exact⟨by omega,i2,i3.trans a4,fun ho=>i4 (a5 ho)⟩
  . rw[if_neg ht];exact⟨by omega,a2,a4,a5⟩
theorem Blk1R.ahead {row:List Bool}{u v:US}{t:Bool}(h:Blk1R row u t v):u.p+1<=v.p/\v.p<=row.length/\v.e=0/\v.ks.length=u.ks.length+1/\(u.out.length<=3000->v.out.length<=3000):=by
 cases h with
 |stored l x1 x2 h1 h2 h3 h4=>
  obtain⟨q2,q2l,q2o,q2k,q2e⟩:=Ax h2 h3;obtain⟨q1,q1l,q1o,q1k,_⟩:=Ax h1 q2e;obtain⟨r1,r2,y1,y2,hS⟩:=Np h4;have hy1e:y1.e=0:=Pu (by rw[hS.g2];exact hS.e2);obtain⟨p1,p1l,p1o,p1k,_⟩:=Ax hS.g1 hy1e;obtain⟨p2,p2l,p2o,p2k,_⟩:=Ax hS.g2 hS.e2;have s:=Vi (row:=row) (k:=r1) (u:=y2) (by rw[hS.st];exact h4) p2l;have sk:=Kv (row:=row) (k:=r1) (u:=y2) (by rw[hS.st];exact h4);rw[hS.st]at s sk;simp only at p1 p1o p1k
  refine⟨?_,s.2.1,h4, ?_,fun ho=>s.2.2 ?_⟩
  . show u.p+1<=(ustored row x2).p
    have:=s.1
    omega
  . show ((ustored row x2).ks++ [0]).length=_
    rw[VB,sk,p2k,p1k,q2k,q1k];rfl
  . rw[p2o,p1o,q2o,q1o];exact ho
 |coded l k x1 x2 x3 a b h1 h2 h3 h4 h5 h6 h7=>
  obtain⟨q2,q2l,q2o,q2k,q2e⟩:=Ax h2 h3;obtain⟨q1,q1l,q1o,q1k,_⟩:=Ax h1 q2e
  have hx:x2.p<=x3.p/\x3.p<=row.length/\x3.out=x2.out/\x3.ks=x2.ks:=by
   rcases h4 with h4|h4
   . subst h4;unfold uopen at h5;rw[if_pos rfl]at h5;have:=(XA h5).2
     subst this;exact⟨VC _,q2l,rfl,rfl⟩
   . subst h4;unfold uopen at h5;rw[if_neg (by decide),if_pos rfl]at h5;obtain⟨m0,n0,c0,v1,v2,v3,us,S0,L0,hTD⟩:=Gt h5 h6;obtain⟨t1,t2,t3,t4⟩:=Ps hTD q2l;exact⟨by omega,t2,t3,t4⟩
  obtain⟨s1,s2,s3,s4⟩:=hx;obtain⟨t1,t2,t3,t4⟩:=SP h7 s2;refine⟨?_,t2,h7, ?_,fun ho=>t4 ?_⟩
  . show u.p+1<=(utok row a b row.length x3).p
    omega
  . show ((utok row a b row.length x3).ks++ [k]).length=_
    rw[VB,t3,s4,q2k,q1k];rfl
  . rw[s3,q2o,q1o];exact ho
theorem FZ {row:List Bool}:∀ {F:Nat} {u:US},(Ci row (F+1) u).e=0->(Dx row u).2.e=0:=by
 intro F u h;rw[Ci]at h
 by_cases c:(Dx row u).1=false/\(Dx row u).2.e=0
 . exact c.2
 . rw[if_neg c]at h;exact h
theorem Hf {row:List Bool}{F:Nat}{u:US}(h:(Ci row (F+1) u).e=0):∃t x,Blk1R row u t x/\Ci row (F+1) u=if t=false then Ci row F x else x:=by
 have he:=FZ h;refine⟨(Dx row u).1,(Dx row u).2,K0 he, ?_⟩;rw[Ci]
 by_cases c:(Dx row u).1=false
 . rw[if_pos ⟨c,he⟩,if_pos c]
 . rw[if_neg (fun h=>c h.1),if_neg c]
theorem To {row:List Bool}:∀ {F:Nat} {u:US},(Ci row F u).e=0->u.ks.length<=(Ci row F u).ks.length
 |0,u,h=>VC _
 |F+1,u,h=>by
  obtain⟨t,x,hB,e⟩:=Hf h;obtain⟨a1,a2,a3,a4,a5⟩:=hB.ahead;rw[e]at h ⊢
  by_cases ht:t=false
  . rw[if_pos ht]at h ⊢;have:=To h
    omega
  . rw[if_neg ht];omega
def Ia (s:Nat):Nat×Nat:=if s=285 then (258,0)else (3+((s-257)-4*((s-257)/4-1))*2^((s-257)/4-1),(s-257)/4-1)
def A6 (s:Nat):Nat×Nat:=(1+(s-2*(s/2-1))*2^(s/2-1),s/2-1)
theorem A4 (s:Nat)(h1:257<=s)(h2:s<=285):Ia s=samesL.getD (s-257) (0,0):=by
 have:∀k∈List.range 29,Ia (k+257)=samesL.getD k (0,0):=by decide+kernel
 have:=this (s-257) (by simp;omega)
 rwa [Nat.sub_add_cancel h1]at this
theorem A5 (s:Nat)(h2:s<=29):A6 s=farsL.getD s (0,0):=by
 have:∀k∈List.range 30,A6 k=farsL.getD k (0,0):=by decide+kernel
 exact this s (by simp;omega)
def Df (row:List Bool)(u:US):Nat×US:=
 let n:=uget row 16 {u with p:=(u.p+7)/8*8}
 let t:=uget row 16 n.2
 (n.1,if t.2.e=0/\n.1+t.1≠65535 then Ck 4 t.2 else t.2)
def Ey (row:List Bool)(u:US):US:=
 let x:=Df row u
 if x.2.e=0/\3000<x.2.out.length+x.1 then Ck 2 x.2 else ustore row x.1 x.2
theorem Gu (row:List Bool)(k:Nat)(u:US)(h:u.e≠0):ustore row k u=u:=by
 cases k with
 |zero=>rfl
 |succ k=>unfold ustore;rw[if_neg h]
theorem AD (row:List Bool)(n:Nat)(u:US)(h:u.p<=row.length):(uget row n u).2.p<=row.length:=by
 unfold uget
 split
 . split
   . exact h
   . show u.p+n<=row.length;omega
 . exact h
theorem Eg (row:List Bool)(n:Nat)(u:US):(uget row n u).2.out=u.out:=by
 unfold uget
 split
 . split<;>rfl
 . rfl
theorem DH (row:List Bool)(u v1 v2:US)(p' r1 r2:Nat)(hp:(u.p+7)/8*8=p')(h1:uget row 16 {u with p:=p'}=(r1,v1))(h2:uget row 16 v1=(r2,v2)):
 Ey row u=if v2.e≠0 then v2 else if r1+r2≠65535 then {v2 with e:=4}else if 3000<v2.out.length+r1 then {v2 with e:=2}else ustore row r1 v2:=by
 have hx:Df row u=(r1,if v2.e=0/\r1+r2≠65535 then Ck 4 v2 else v2):=by
  simp only[Df,hp,h1,h2]
 unfold Ey;simp only[hx]
 by_cases e:v2.e=0
 . by_cases e2:r1+r2=65535
   . by_cases e3:3000<v2.out.length+r1
     . simp[e,e2,e3,Ck]
     . simp[e,e2,e3]
   . simp[e,e2,Ck,Gu]
 . simp[e,Gu]
theorem KS (row:List Bool)(n:Nat)(u:US):(uget row n u).2.ks=u.ks:=by
 unfold uget
 split
 . split<;>rfl
 . rfl
def Sw (d k:Nat)(u:US):US:=if u.out.length<d then {u with e:=9}else if 3000<u.out.length+k then {u with e:=2}else ucopy d k u
theorem Re (row:List Bool):∀(k:Nat) (x:US),x.out.length<=3000->3000<x.out.length+k->(ustore row k x).e≠0
 |0,x,h1,h2=>by omega
 |k+1,x,h1,h2=>by
  by_cases e:x.e=0
  . unfold ustore;rw[if_pos e];obtain⟨c,y,hg⟩:∃c y,uget row 8 x=(c,y):=⟨_,_,rfl⟩
    have ho:y.out=x.out:=by have:=Eg row 8 x;rw[hg]at this;exact this
    rw[hg];show (ustore row k (Hy c y)).e≠0
    by_cases e2:y.e=0
    . by_cases e3:y.out.length=3000
      . have:Hy c y= {y with e:=2}:=by unfold Hy;rw[if_pos e2,if_pos e3]
        rw[this,Gu _ _ _ (show (2:Int)≠0 by decide)];exact(by decide:(2:Int)≠0)
      . have:Hy c y= {y with out:=y.out++ [c]}:=by unfold Hy;rw[if_pos e2,if_neg e3]
        rw[this];refine Re row k _ ?_ ?_
        . show (y.out++ [c]).length<=3000
          rw[VB,ho];rw[ho]at e3;simp only[VJ,WO];omega
        . show 3000<(y.out++ [c]).length+k
          rw[VB,ho];simp only[VJ,WO];omega
    . have:Hy c y=y:=by unfold Hy;rw[if_neg e2]
      rw[this,Gu _ _ _ e2];exact e2
  . rw[Gu _ _ _ e];exact e
theorem DG (row:List Bool)(u:US)(ho:u.out.length<=3000)(h:(ustored row u).e=0):Ey row u=ustored row u:=by
 have hx:ustored row u=ustore row (Df row u).1 (Df row u).2:=rfl
 have h1:(Df row u).2.out=u.out:=by
  unfold Df;dsimp only
  split
  . unfold Ck
    split
    . show (uget row 16 _).2.out=_
      rw[Eg,Eg]
    . rw[Eg,Eg]
  . rw[Eg,Eg]
 unfold Ey;dsimp only;rw[if_neg,hx];rintro ⟨_,h3⟩;rw[hx]at h;exact Re row _ _ (by rw[h1];exact ho) h3 h
def US0:US:= {p:=0,out:= [],ks:= [],e:=0}
def Wp (row:List Bool)(lb:List Int)(u:US):Nat×US:=
 if (uplace lb row u).2.e≠0 then (0,(uplace lb row u).2)
 else if 29<(uplace lb row u).1 then (0,{(uplace lb row u).2 with e:=8})
 else ((A6 (uplace lb row u).1).1+(uget row (A6 (uplace lb row u).1).2 (uplace lb row u).2).1,(uget row (A6 (uplace lb row u).1).2 (uplace lb row u).2).2)
theorem Z0 (l:List Int)(row:List Bool)(p:Nat)(hp:p<=row.length):∀f n,p+(Gm l row p f n).2.1<=row.length
 |0,n=>by simpa[Gm]using hp
 |f+1,n=>by
  unfold Gm
  split
  . simpa using hp
  . split
    . show p+n<=row.length
      omega
    . exact Z0 l row p hp f (n+1)
theorem Xw (l:List Int)(row:List Bool)(u:US)(hp:u.p<=row.length):(uplace l row u).2.p<=row.length:=by
 unfold uplace
 split
 . exact Z0 l row u.p hp 15 1
 . exact hp
def Fu (row:List Bool)(lb:List Int)(k:Nat)(u:US):US:=
 if k<256 then (if 3000<u.out.length+1 then {u with e:=2}else {u with out:=u.out++ [k]})
 else if 285<k then {u with e:=8}
 else if (uget row (Ia k).2 u).2.e≠0 then (uget row (Ia k).2 u).2
 else if (Wp row lb (uget row (Ia k).2 u).2).2.e≠0 then (Wp row lb (uget row (Ia k).2 u).2).2
 else Sw (Wp row lb (uget row (Ia k).2 u).2).1 ((Ia k).1+(uget row (Ia k).2 u).1) (Wp row lb (uget row (Ia k).2 u).2).2
def Z4x (row:List Bool)(la lb:List Int):Nat->Nat->US->US
 |0,_,u=>u
 |f+1,k,u=>if k=256 then u
  else if (Fu row lb k u).e≠0 then Fu row lb k u
  else if (uplace la row (Fu row lb k u)).2.e≠0 then (uplace la row (Fu row lb k u)).2
  else Z4x row la lb f (uplace la row (Fu row lb k u)).1 (uplace la row (Fu row lb k u)).2
def Nf (row:List Bool)(la lb:List Int)(f:Nat)(u:US):US:=
 if (uplace la row u).2.e≠0 then (uplace la row u).2 else Z4x row la lb f (uplace la row u).1 (uplace la row u).2
theorem Ii (l:List Int)(row:List Bool)(u:US):(uplace l row u).2.out=u.out/\(uplace l row u).2.ks=u.ks/\u.p<=(uplace l row u).2.p:=by
 unfold uplace
 split
 . exact⟨rfl,rfl,Nat.le_add_right _ _⟩
 . exact⟨rfl,rfl,VC _⟩
theorem FY (row:List Bool)(n:Nat)(u:US):u.p<=(uget row n u).2.p:=by
 unfold uget
 split
 . split
   . exact VC _
   . exact Nat.le_add_right _ _
 . exact VC _
theorem DL (row:List Bool)(l:List Int)(u:US)(hp:u.p<=row.length):(Wp row l u).2.out=u.out/\(Wp row l u).2.ks=u.ks/\u.p<=(Wp row l u).2.p/\(Wp row l u).2.p<=row.length:=by
 obtain⟨h1,h2,h3⟩:=Ii l row u;have h4:=Xw l row u hp;unfold Wp
 split
 . exact⟨h1,h2,h3,h4⟩
 . split
   . exact⟨h1,h2,h3,h4⟩
   . exact⟨(Eg row _ _).trans h1,(KS row _ _).trans h2,WC h3 (FY _ _ _),AD row _ _ h4⟩
theorem P4 (d k:Nat)(u:US)(h:(Sw d k u).e=0):(Sw d k u).p=u.p/\(Sw d k u).ks=u.ks/\(u.out.length<=3000->(Sw d k u).out.length<=3000):=by
 unfold Sw at h ⊢
 split
 . rename_i hc
   rw[if_pos hc]at h;exact absurd (show (9:Int)=0 from h) (by decide)
 . rename_i hc
   rw[if_neg hc]at h
   split
   . rename_i hd
     rw[if_pos hd]at h;exact absurd (show (2:Int)=0 from h) (by decide)
   . rename_i hd
     rw[if_neg hd]at h;exact J9 h
def Lv (k:Nat)(u:US):US:=if u.e=0 then ukept k u else u
def Lu (row:List Bool)(k:Nat)(u:US):US:=
 if k=0 then Lv 0 (Ey row u)
 else if k=1 then Lv 1 (Nf row Mb Ja (row.length+1) u)
 else if k=2 then (if (Hc row u).2.e≠0 then (Hc row u).2 else Lv 2 (Nf row (Hc row u).1.1 (Hc row u).1.2 (row.length+1) (Hc row u).2))
 else {u with e:=4}
def Bv (row:List Bool)(u:US):Nat×US:=
 if (uget row 1 u).2.e≠0 then (1,(uget row 1 u).2)
 else if (uget row 2 (uget row 1 u).2).2.e≠0 then (1,(uget row 2 (uget row 1 u).2).2)
 else ((uget row 1 u).1,Lu row (uget row 2 (uget row 1 u).2).1 (uget row 2 (uget row 1 u).2).2)
def Cr (row:List Bool):Nat->US->US
 |0,u=>u
 |f+1,u=>if (Bv row u).1=0/\(Bv row u).2.e=0 then Cr row f (Bv row u).2 else (Bv row u).2
def Db (row:List Bool):US:=Cr row (row.length+1) US0
structure Ahd (row:List Bool)(u v:US):Prop where
 ks:v.ks=u.ks
 ge:u.p<=v.p
 le:v.p<=row.length
 out:v.out.length<=3000
theorem Ahd.trans {row:List Bool}{u v x:US}(h:Ahd row u v)(k:Ahd row v x):Ahd row u x:=⟨k.ks.trans h.ks,WC h.ge k.ge,k.le,k.out⟩
theorem Vo (row:List Bool)(n:Nat)(u:US)(hp:u.p<=row.length)(ho:u.out.length<=3000):Ahd row u (uget row n u).2:=⟨KS _ _ _,FY _ _ _,AD _ _ _ hp,by rw[Eg];exact ho⟩
theorem Tm (l:List Int)(row:List Bool)(u:US)(hp:u.p<=row.length)(ho:u.out.length<=3000):Ahd row u (uplace l row u).2:=by
 obtain⟨h1,h2,h3⟩:=Ii l row u;exact⟨h2,h3,Xw l row u hp,by rw[h1];exact ho⟩
theorem A9 (row:List Bool)(lb:List Int)(k:Nat)(u:US)(hp:u.p<=row.length)(ho:u.out.length<=3000)(h:(Fu row lb k u).e=0):Ahd row u (Fu row lb k u):=by
 unfold Fu at h ⊢
 split
 . rename_i c1
   rw[if_pos c1]at h
   split
   . rename_i c2
     rw[if_pos c2]at h;exact absurd (show (2:Int)=0 from h) (by decide)
   . refine⟨rfl,VC _,hp, ?_⟩;simp only[VB,VJ,WO];omega
 . rename_i c1
   rw[if_neg c1]at h
   split
   . rename_i c2
     rw[if_pos c2]at h;exact absurd (show (8:Int)=0 from h) (by decide)
   . rename_i c2
     rw[if_neg c2]at h
     split
     . rename_i c3
       rw[if_pos c3]at h;exact absurd h c3
     . rename_i c3
       rw[if_neg c3]at h;have a1:=Vo row (Ia k).2 u hp ho;generalize uget row (Ia k).2 u=g at*
       split
       . rename_i c4
         rw[if_pos c4]at h;exact absurd h c4
       . rename_i c4
         rw[if_neg c4]at h;obtain⟨b1,b2,b3,b4⟩:=DL row lb g.2 a1.le;have a2:Ahd row g.2 (Wp row lb g.2).2:=⟨b2,b3,b4,by rw[b1];exact a1.out⟩
         generalize Wp row lb g.2=q at*;obtain⟨d1,d2,d3⟩:=P4 _ _ _ h;exact(a1.trans a2).trans ⟨d2,by omega,by rw[d1];exact a2.le,d3 a2.out⟩
theorem Js (row:List Bool)(la lb:List Int)(f:Nat)(u:US):Nf row la lb (f+1) u=if (uplace la row u).2.e≠0 then (uplace la row u).2 else if (uplace la row u).1=256 then (uplace la row u).2 else if (Fu row lb (uplace la row u).1 (uplace la row u).2).e≠0 then Fu row lb (uplace la row u).1 (uplace la row u).2 else Nf row la lb f (Fu row lb (uplace la row u).1 (uplace la row u).2):=by
 unfold Nf;rw[Z4x]
theorem Rd (row:List Bool)(la lb:List Int):∀(f:Nat) (u:US),u.p<=row.length->u.out.length<=3000->(Nf row la lb f u).e=0->Ahd row u (Nf row la lb f u)
 |0,u,hp,ho,h=>by
  have a1:=Tm la row u hp ho;unfold Nf
  split
  . exact a1
  . exact a1
 |f+1,u,hp,ho,h=>by
  have a1:=Tm la row u hp ho;rw[Js]at h ⊢;generalize uplace la row u=r at*
  split
  . exact a1
  . rename_i c1
    rw[if_neg c1]at h
    split
    . exact a1
    . rename_i c2
      rw[if_neg c2]at h
      split
      . rename_i c3
        rw[if_pos c3]at h;exact absurd h c3
      . rename_i c3
        rw[if_neg c3]at h;have a2:=A9 row lb r.1 r.2 a1.le a1.out (by omega);exact(a1.trans a2).trans (Rd row la lb f _ a2.le a2.out h)
theorem O4 (row:List Bool)(u:US)(hp:(u.p+7)/8*8<=row.length)(ho:u.out.length<=3000)(h:(Ey row u).e=0):Ahd row u (Ey row u):=by
 obtain⟨r1,v1,h1⟩:∃r1 v1,uget row 16 {u with p:=(u.p+7)/8*8}=(r1,v1):=⟨_,_,rfl⟩
 obtain⟨r2,v2,h2⟩:∃r2 v2,uget row 16 v1=(r2,v2):=⟨_,_,rfl⟩
 have a1:=Vo row 16 {u with p:=(u.p+7)/8*8} hp ho;rw[h1]at a1;have a2:=Vo row 16 v1 a1.le a1.out;rw[h2]at a2;rw[DH row u v1 v2 _ r1 r2 rfl h1 h2]at h ⊢
 split
 . rename_i c
   rw[if_pos c]at h;exact absurd h c
 . rename_i c
   rw[if_neg c]at h
   split
   . rename_i c2
     rw[if_pos c2]at h;exact absurd (show (4:Int)=0 from h) (by decide)
   . rename_i c2
     rw[if_neg c2]at h
     split
     . rename_i c3
       rw[if_pos c3]at h;exact absurd (show (2:Int)=0 from h) (by decide)
     . rename_i c3
       rw[if_neg c3]at h;obtain⟨s1,s2,s3⟩:=Vi h a2.le;have hge:=a1.ge;have hge2:=a2.ge;simp only at hge hge2
       exact⟨(Kv h).trans (a2.ks.trans a1.ks),by omega,s2,s3 a2.out⟩
theorem Xq (x:Int)(u:US):(Ck x u).p=u.p/\(Ck x u).out=u.out/\(Ck x u).ks=u.ks:=by
 unfold Ck
 split<;>exact⟨rfl,rfl,rfl⟩
theorem Xr (row:List Bool)(u:US)(hp:u.p<=row.length)(ho:u.out.length<=3000)(h:(Hc row u).2.e=0):Ahd row u (Hc row u).2:=by
 obtain⟨A,C,v,hv⟩:∃A C v,Hc row u=((A,C),v):=⟨_,_,_,rfl⟩
 rw[hv]at h ⊢;obtain⟨m0,n0,c0,u1,u2,u3,us,S,L,hT⟩:=Gt hv h;obtain⟨t1,t2,t3,t4⟩:=Ps hT hp;exact⟨t4,by show u.p<=v.p;omega,t2,by show v.out.length<=3000;rw[t3];exact ho⟩
theorem KQ (row:List Bool)(q:Nat)(hq:row.length=8*q)(k:Nat)(u:US)(hp:u.p<=row.length)(ho:u.out.length<=3000)(h:(Lu row k u).e=0):k<=2/\(Lu row k u).ks=u.ks++ [k]/\u.p<=(Lu row k u).p/\(Lu row k u).p<=row.length/\(Lu row k u).out.length<=3000:=by
 have key:∀(j:Nat) (x:US),(Lv j x).e=0->x.e=0/\Lv j x=ukept j x:=fun j x hx=>by
  unfold Lv at hx ⊢
  by_cases c:x.e=0
  . exact⟨c,by rw[if_pos c]⟩
  . rw[if_neg c]at hx;exact absurd hx c
 unfold Lu at h ⊢
 split
 . rename_i c
   subst c;rw[if_pos rfl]at h;obtain⟨k1,k2⟩:=key _ _ h;have a:=O4 row u (by omega) ho k1;rw[k2];exact⟨by decide,by show _++ [0]=_;rw[a.ks],a.ge,a.le,a.out⟩
 . rename_i c
   rw[if_neg c]at h
   split
   . rename_i c1
     subst c1;rw[if_pos rfl]at h;obtain⟨k1,k2⟩:=key _ _ h;have a:=Rd row Mb Ja _ u hp ho k1;rw[k2];exact⟨by decide,by show _++ [1]=_;rw[a.ks],a.ge,a.le,a.out⟩
   . rename_i c1
     rw[if_neg c1]at h
     split
     . rename_i c2
       subst c2;rw[if_pos rfl]at h
       split
       . rename_i c3
         rw[if_pos c3]at h;exact absurd h c3
       . rename_i c3
         rw[if_neg c3]at h;obtain⟨k1,k2⟩:=key _ _ h;have a0:=Xr row u hp ho (by omega);have a:=a0.trans (Rd row _ _ _ _ a0.le a0.out k1);rw[k2];exact⟨by decide,by show _++ [2]=_;rw[a.ks],a.ge,a.le,a.out⟩
     . rename_i c2
       rw[if_neg c2]at h;exact absurd (show (4:Int)=0 from h) (by decide)
theorem Jt (row:List Bool)(q:Nat)(hq:row.length=8*q)(u:US)(he:u.e=0)(hp:u.p<=row.length)(ho:u.out.length<=3000)(h:(Bv row u).2.e=0):(Bv row u).2.ks.length=u.ks.length+1/\u.p+3<=(Bv row u).2.p/\(Bv row u).2.p<=row.length/\(Bv row u).2.out.length<=3000:=by
 unfold Bv at h ⊢
 split
 . rename_i c
   rw[if_pos c]at h;exact absurd h c
 . rename_i c
   rw[if_neg c]at h
   split
   . rename_i c2
     rw[if_pos c2]at h;exact absurd h c2
   . rename_i c2
     rw[if_neg c2]at h;obtain⟨r1,v1,h1⟩:∃r1 v1,uget row 1 u=(r1,v1):=⟨_,_,rfl⟩
     rw[h1]at c c2 h ⊢;obtain⟨r2,v2,h2⟩:∃r2 v2,uget row 2 v1=(r2,v2):=⟨_,_,rfl⟩
     simp only at c c2 h ⊢
     rw[h2]at c2 h ⊢;simp only at c2 h ⊢
     obtain⟨q1,q2,q3,q4,_⟩:=Ax h1 (by omega);obtain⟨s1,s2,s3,s4,_⟩:=Ax h2 (by omega);obtain⟨t1,t2,t3,t4,t5⟩:=KQ row q hq r2 v2 s2 (by rw[s3,q3];exact ho) h;exact⟨by rw[t2,s4,q4,VB];rfl,by omega,t4,t5⟩
end Go.Proofs.YtleocpdblhbimaaGreatDoor
