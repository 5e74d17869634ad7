import Derived.Test.YtcjbgpacnkilnaiGreatDoorQ4
import Derived.Test.YtcjbgpacnkilnaiGreatDoorQ5
import Derived.Test.YtcjbgpacnkilnaiGreatDoorQ9
namespace Go.Proofs.YtcjbgpacnkilnaiGreatDoor
set_option linter.unusedVariables false
set_option maxRecDepth 100000
structure Told (row:List Bool)(u:US)(m0 n0 c0:Nat)(u1 u2 u3 us:US)(S L A C:List Int)(v:US):Prop where
 g1:uget row 5 u=(m0,u1)
 g2:uget row 5 u1=(n0,u2)
 g3:uget row 4 u2=(c0,u3)
 e3:u3.e=0
 hm:m0+257<=286
 hn:n0+1<=30
 sm:usmall row (ord19.take (c0+4)) (List.replicate 19 0) u3=(S,us)
 es:us.e=0
 cs:errL S=0
 ln:ulens row S (m0+257+(n0+1)) (m0+257+(n0+1)) [] us=(L,v)
 ev:v.e=0
 l256:L.getD 256 0≠0
 ca:errL (L.take (m0+257))=0
 cc:errL (L.drop (m0+257))=0
 ea:A=L.take (m0+257)
 ec:C=L.drop (m0+257)
 len:L.length=m0+257+(n0+1)
theorem Qw {row:List Bool}{u v:US}{A C:List Int}(h:Dh row u=((A,C),v))(hv:v.e=0):∃m0 n0 c0 u1 u2 u3 us S L,Told row u m0 n0 c0 u1 u2 u3 us S L A C v:=by
 obtain⟨m0,u1,e1⟩:∃m0 u1,uget row 5 u=(m0,u1):=⟨_,_,rfl⟩
 obtain⟨n0,u2,e2⟩:∃n0 u2,uget row 5 u1=(n0,u2):=⟨_,_,rfl⟩
 obtain⟨c0,u3,e3⟩:∃c0 u3,uget row 4 u2=(c0,u3):=⟨_,_,rfl⟩
 have h1:Np row (m0+257) (n0+1) (Gc row (m0+257) (n0+1) (c0+4) u3)=((A,C),v):=by
  unfold Dh at h;simp only[e1,e2,e3]at h;exact h
 obtain⟨S,us,hs⟩:∃S us,Gc row (m0+257) (n0+1) (c0+4) u3=(S,us):=⟨_,_,rfl⟩
 rw[hs]at h1;unfold Np at h1
 by_cases hc:(Ta (S,us)).e≠0
 . rw[if_pos hc]at h1;have:Ta (S,us)=v:=(Prod.mk.inj h1).2
   rw[this]at hc;exact absurd hv hc
 . rw[if_neg hc]at h1;have hc0:(Ta (S,us)).e=0:=by omega
   have hes:us.e=0/\errL S=0:=by
    unfold Ta at hc0;simp only at hc0
    by_cases hx:us.e=0/\errL S≠0
    . rw[if_pos hx]at hc0;exact absurd hc0 (Gm (by decide))
    . rw[if_neg hx]at hc0;refine⟨hc0, ?_⟩
      by_cases h5:errL S=0
      . exact h5
      . exact absurd ⟨hc0,h5⟩ hx
   have hck:Ta (S,us)=us:=by
    unfold Ta;rw[if_neg];rintro ⟨_,h6⟩;exact h6 hes.2
   rw[hck]at h1;simp only at h1
   obtain⟨L,ul,hl⟩:∃L ul,ulens row S (m0+257+(n0+1)) (m0+257+(n0+1)) [] us=(L,ul):=⟨_,_,rfl⟩
   rw[hl]at h1;unfold Im at h1;simp only at h1
   by_cases hu:ul.e≠0
   . rw[if_pos hu]at h1;have:ul=v:=(Prod.mk.inj h1).2
     rw[this]at hu;exact absurd hv hu
   . rw[if_neg hu]at h1;have hu0:ul.e=0:=by omega
     by_cases hb:L.getD 256 0=0\/errL (L.take (m0+257))≠0\/errL (L.drop (m0+257))≠0
     . rw[if_pos hb]at h1;have:Be 8 ul=v:=(Prod.mk.inj h1).2
       rw[<-this]at hv;exact absurd hv (Gm (by decide))
     . rw[if_neg hb]at h1;have ha:=(Prod.mk.inj h1).1;have hev:ul=v:=(Prod.mk.inj h1).2;subst hev
       have hmn:¬(286<m0+257\/30<n0+1):=by
        intro hx;have he:=hs;unfold Gc at he;rw[if_pos hx]at he;have:=congrArg (fun z=>z.2.e) he
        simp only at this
        rw[hes.1]at this;exact Gm (by decide) (Mn this)
       have hsm:usmall row (ord19.take (c0+4)) (List.replicate 19 0) u3=(S,us):=by
        unfold Gc at hs;rw[if_neg hmn]at hs;exact hs
       have he3:u3.e=0:=by
        have:=congrArg (fun z=>z.2.e) hsm
        simp only at this
        rw[hes.1]at this;exact Mn this
       have hlen:L.length=m0+257+(n0+1):=by
        have:=Vq (row:=row) (small:=S) (tot:=m0+257+(n0+1)) (m0+257+(n0+1)) [] us (by simp) (by simp) hes.1 (by rw[hl];exact hu0) (fun l u _=>(Vr row l _ _).1)
        rw[hl]at this;exact this
       refine⟨m0,n0,c0,u1,u2,u3,us,S,L,⟨e1,e2,e3,he3,by omega,by omega,hsm,hes.1,hes.2,hl,hu0, ?_, ?_, ?_,(Prod.mk.inj ha).1.symm,(Prod.mk.inj ha).2.symm,hlen⟩⟩
       . intro h9;exact hb (.inl h9)
       . by_cases h9:errL (L.take (m0+257))=0
         . exact h9
         . exact absurd (.inr (.inl h9)) hb
       . by_cases h9:errL (L.drop (m0+257))=0
         . exact h9
         . exact absurd (.inr (.inr h9)) hb
theorem Zgy:Good Qr:=Cn (by decide+kernel)
theorem Zgw:Good Jg:=Cn (by decide+kernel)
theorem Sw {row:List Bool}:∀ {ks:List Nat} {s:List Int} {u:US},(usmall row ks s u).2.e=0->u.p<=row.length->u.p<=(usmall row ks s u).2.p/\(usmall row ks s u).2.p<=row.length/\(usmall row ks s u).2.out=u.out/\(usmall row ks s u).2.ks=u.ks
 | [],s,u,h,hp=>⟨Nat.le_refl _,hp,rfl,rfl⟩
 |k::r,s,u,h,hp=>by
  rw[usmall]at h ⊢;have h1:=Mn h;obtain⟨q1,q2,q3,q4,_⟩:=Gn (r:=(uget row 3 u).1) (v:=(uget row 3 u).2) rfl h1;obtain⟨i1,i2,i3,i4⟩:=Sw h q2;exact⟨by omega,i2,i3.trans q3,i4.trans q4⟩
theorem Z73 {row:List Bool}{l:List Int}{k:Nat}{u:US}(h:(ukind row l k u).2.2.e=0)(hp:u.p<=row.length):u.p<=(ukind row l k u).2.2.p/\(ukind row l k u).2.2.p<=row.length/\(ukind row l k u).2.2.out=u.out/\(ukind row l k u).2.2.ks=u.ks:=by
 have key:∀n,(uget row n u).2.e=0->u.p<=(uget row n u).2.p/\(uget row n u).2.p<=row.length/\(uget row n u).2.out=u.out/\(uget row n u).2.ks=u.ks:=fun n hn=>by
  obtain⟨q1,q2,q3,q4,_⟩:=Gn (r:=(uget row n u).1) (v:=(uget row n u).2) rfl hn;exact⟨by omega,q2,q3,q4⟩
 unfold ukind at h ⊢
 split
 . rename_i h16
   rw[if_pos h16]at h
   split
   . rename_i h0
     rw[if_pos h0]at h;exact absurd h (Gm (by decide))
   . rename_i h0
     rw[if_neg h0]at h;exact key 2 h
 . rename_i h16
   rw[if_neg h16]at h
   split
   . rename_i h17
     rw[if_pos h17]at h;exact key 3 h
   . rename_i h17
     rw[if_neg h17]at h
     split
     . rename_i h18
       rw[if_pos h18]at h;exact key 7 h
     . exact⟨Nat.le_refl _,hp,rfl,rfl⟩
theorem Z71 {row:List Bool}{small:List Int}{tot:Nat}:∀ {F:Nat} {l:List Int} {u:US},(ulens row small tot F l u).2.e=0->u.p<=row.length->u.p<=(ulens row small tot F l u).2.p/\(ulens row small tot F l u).2.p<=row.length/\(ulens row small tot F l u).2.out=u.out/\(ulens row small tot F l u).2.ks=u.ks
 |0,l,u,h,hp=>⟨Nat.le_refl _,hp,rfl,rfl⟩
 |F+1,l,u,h,hp=>by
  by_cases hc:l.length<tot/\u.e=0
  . obtain⟨r,e⟩:=Iq hc.1 hc.2 h;rw[e,r.st]at h ⊢;simp only at h ⊢
    obtain⟨a1,a2,a3,a4,_,_⟩:=Ns (k:=(uplace small row u).1) (v:=(uplace small row u).2) rfl r.pe;obtain⟨b1,b2,b3,b4⟩:=Z73 r.ke a2;obtain⟨i1,i2,i3,i4⟩:=Z71 h b2;exact⟨by omega,i2,i3.trans (b3.trans a3),i4.trans (b4.trans a4)⟩
  . rw[ulens,if_neg hc];exact⟨Nat.le_refl _,hp,rfl,rfl⟩
theorem Z6v {row:List Bool}{u v u1 u2 u3 us:US}{m0 n0 c0:Nat}{S L A C:List Int}(h:Told row u m0 n0 c0 u1 u2 u3 us S L A C v)(hp:u.p<=row.length):u.p+1<=v.p/\v.p<=row.length/\v.out=u.out/\v.ks=u.ks:=by
 obtain⟨a1,a2,a3,a4,ae⟩:=Gn h.g3 h.e3;obtain⟨b1,b2,b3,b4,be⟩:=Gn h.g2 ae;obtain⟨c1,c2,c3,c4,_⟩:=Gn h.g1 be;have s:=Sw (row:=row) (ks:=ord19.take (c0+4)) (s:=List.replicate 19 0) (u:=u3) (by rw[h.sm];exact h.es) a2;rw[h.sm]at s;obtain⟨s1,s2,s3,s4⟩:=s;have t:=Z71 (row:=row) (small:=S) (tot:=m0+257+(n0+1)) (F:=m0+257+(n0+1)) (l:= []) (u:=us) (by rw[h.ln];exact h.ev) s2;rw[h.ln]at t;obtain⟨t1,t2,t3,t4⟩:=t;simp only at s1 s2 s3 s4 t1 t2 t3 t4
 exact⟨by omega,t2,by rw[t3,s3,a3,b3,c3],by rw[t4,s4,a4,b4,c4]⟩
theorem Mm {row:List Bool}:∀ {k:Nat} {u:US},(Bp row k u).e=0->u.e=0
 |0,u,h=>h
 |k+1,u,h=>by
  rw[Bp]at h
  by_cases e:u.e=0
  . exact e
  . rw[if_neg e]at h;exact h
theorem Vm {row:List Bool}:∀ {k:Nat} {u:US},(Bp row k u).e=0->(Bp row k u).ks=u.ks
 |0,u,h=>rfl
 |k+1,u,h=>by
  have he:=Mm h;rw[Bp,if_pos he]at h ⊢;obtain⟨r,y,hg⟩:∃r y,uget row 8 u=(r,y):=⟨_,_,rfl⟩
  rw[hg]at h ⊢;obtain⟨h1,_,h3⟩:=Z6z (Mm h);rw[Vm h,h3];exact(Gn hg h1).2.2.2.1
theorem Z22 {row:List Bool}:∀ {k:Nat} {u:US},(Bp row k u).e=0->u.p<=row.length->u.p<=(Bp row k u).p/\(Bp row k u).p<=row.length/\(u.out.length<=3000->(Bp row k u).out.length<=3000)
 |0,u,h,hp=>⟨Nat.le_refl _,hp,fun h=>h⟩
 |k+1,u,h,hp=>by
  have he:=Mm h;rw[Bp,if_pos he]at h ⊢;obtain⟨r,y,hg⟩:∃r y,uget row 8 u=(r,y):=⟨_,_,rfl⟩
  rw[hg]at h ⊢;obtain⟨h1,h2,h3⟩:=Z6z (Mm h);obtain⟨q1,q2,q3,_,_⟩:=Gn hg h1;have ih:=Z22 h (by rw[h3];exact q2);rw[h3]at ih ⊢;refine⟨?_,ih.2.1,fun ho=>ih.2.2 ?_⟩
  . have:=ih.1
    simp only at this ⊢
    omega
  . simp only[List.length_append,List.length_cons,List.length_nil];rw[q3]at h2 ⊢;omega
def Oz (k:Nat)(u:US):US:=if u.e=0 then Vs k u else u
def Dx (row:List Bool)(k:Nat)(u:US):US:=
 if k=0 then Oz 0 (Cu row u)
 else if k=1 then Oz 1 (Hu row Qr Jg (row.length+1) u)
 else if k=2 then (if (Dh row u).2.e≠0 then (Dh row u).2 else Oz 2 (Hu row (Dh row u).1.1 (Dh row u).1.2 (row.length+1) (Dh row u).2))
 else {u with e:=4}
def Ca (row:List Bool)(u:US):Nat×US:=
 if (uget row 1 u).2.e≠0 then (1,(uget row 1 u).2)
 else if (uget row 2 (uget row 1 u).2).2.e≠0 then (1,(uget row 2 (uget row 1 u).2).2)
 else ((uget row 1 u).1,Dx row (uget row 2 (uget row 1 u).2).1 (uget row 2 (uget row 1 u).2).2)
def Ch (row:List Bool):Nat->US->US
 |0,u=>u
 |f+1,u=>if (Ca row u).1=0/\(Ca row u).2.e=0 then Ch row f (Ca row u).2 else (Ca row u).2
def Dj (row:List Bool):US:=Ch row (row.length+1) US0
structure Ahd (row:List Bool)(u v:US):Prop where
 ks:v.ks=u.ks
 ge:u.p<=v.p
 le:v.p<=row.length
 out:v.out.length<=3000
theorem Ahd.trans {row:List Bool}{u v x:US}(h:Ahd row u v)(k:Ahd row v x):Ahd row u x:=⟨k.ks.trans h.ks,Nat.le_trans h.ge k.ge,k.le,k.out⟩
theorem Sz (row:List Bool)(n:Nat)(u:US)(hp:u.p<=row.length)(ho:u.out.length<=3000):Ahd row u (uget row n u).2:=⟨Gy _ _ _,Z02 _ _ _,Fo _ _ _ hp,by rw[Eh];exact ho⟩
theorem Qz (l:List Int)(row:List Bool)(u:US)(hp:u.p<=row.length)(ho:u.out.length<=3000):Ahd row u (uplace l row u).2:=by
 obtain⟨h1,h2,h3⟩:=Fh l row u;exact⟨h2,h3,Hk l row u hp,by rw[h1];exact ho⟩
theorem Z97 (row:List Bool)(lb:List Int)(k:Nat)(u:US)(hp:u.p<=row.length)(ho:u.out.length<=3000)(h:(Cy row lb k u).e=0):Ahd row u (Cy row lb k u):=by
 unfold Cy at h ⊢
 split
 . rename_i c1
   rw[if_pos c1]at h
   split
   . rename_i c2
     rw[if_pos c2]at h;exact absurd (show (2:Int)=0 from h) (by decide)
   . refine⟨rfl,Nat.le_refl _,hp, ?_⟩;simp only[List.length_append,List.length_cons,List.length_nil];omega
 . rename_i c1
   rw[if_neg c1]at h
   split
   . rename_i c2
     rw[if_pos c2]at h;exact absurd (show (8:Int)=0 from h) (by decide)
   . rename_i c2
     rw[if_neg c2]at h
     split
     . rename_i c3
       rw[if_pos c3]at h;exact absurd h c3
     . rename_i c3
       rw[if_neg c3]at h;have a1:=Sz row (Cv k).2 u hp ho;generalize uget row (Cv k).2 u=g at*
       split
       . rename_i c4
         rw[if_pos c4]at h;exact absurd h c4
       . rename_i c4
         rw[if_neg c4]at h;obtain⟨b1,b2,b3,b4⟩:=Sc row lb g.2 a1.le;have a2:Ahd row g.2 (Pa row lb g.2).2:=⟨b2,b3,b4,by rw[b1];exact a1.out⟩
         generalize Pa row lb g.2=q at*;obtain⟨d1,d2,d3⟩:=Pc _ _ _ h;exact(a1.trans a2).trans ⟨d2,by omega,by rw[d1];exact a2.le,d3 a2.out⟩
theorem Lh (row:List Bool)(la lb:List Int)(f:Nat)(u:US):Hu row la lb (f+1) u=if (uplace la row u).2.e≠0 then (uplace la row u).2 else if (uplace la row u).1=256 then (uplace la row u).2 else if (Cy row lb (uplace la row u).1 (uplace la row u).2).e≠0 then Cy row lb (uplace la row u).1 (uplace la row u).2 else Hu row la lb f (Cy row lb (uplace la row u).1 (uplace la row u).2):=by
 unfold Hu;rw[Z50]
theorem Ht (row:List Bool)(la lb:List Int):∀(f:Nat) (u:US),u.p<=row.length->u.out.length<=3000->(Hu row la lb f u).e=0->Ahd row u (Hu row la lb f u)
 |0,u,hp,ho,h=>by
  have a1:=Qz la row u hp ho;unfold Hu
  split
  . exact a1
  . exact a1
 |f+1,u,hp,ho,h=>by
  have a1:=Qz la row u hp ho;rw[Lh]at h ⊢;generalize uplace la row u=r at*
  split
  . exact a1
  . rename_i c1
    rw[if_neg c1]at h
    split
    . exact a1
    . rename_i c2
      rw[if_neg c2]at h
      split
      . rename_i c3
        rw[if_pos c3]at h;exact absurd h c3
      . rename_i c3
        rw[if_neg c3]at h;have a2:=Z97 row lb r.1 r.2 a1.le a1.out (by omega);exact(a1.trans a2).trans (Ht row la lb f _ a2.le a2.out h)
theorem Z0y (row:List Bool)(u:US)(hp:(u.p+7)/8*8<=row.length)(ho:u.out.length<=3000)(h:(Cu row u).e=0):Ahd row u (Cu row u):=by
 obtain⟨r1,v1,h1⟩:∃r1 v1,uget row 16 {u with p:=(u.p+7)/8*8}=(r1,v1):=⟨_,_,rfl⟩
 obtain⟨r2,v2,h2⟩:∃r2 v2,uget row 16 v1=(r2,v2):=⟨_,_,rfl⟩
 have a1:=Sz row 16 {u with p:=(u.p+7)/8*8} hp ho;rw[h1]at a1;have a2:=Sz row 16 v1 a1.le a1.out;rw[h2]at a2;rw[Sa row u v1 v2 _ r1 r2 rfl h1 h2]at h ⊢
 split
 . rename_i c
   rw[if_pos c]at h;exact absurd h c
 . rename_i c
   rw[if_neg c]at h
   split
   . rename_i c2
     rw[if_pos c2]at h;exact absurd (show (4:Int)=0 from h) (by decide)
   . rename_i c2
     rw[if_neg c2]at h
     split
     . rename_i c3
       rw[if_pos c3]at h;exact absurd (show (2:Int)=0 from h) (by decide)
     . rename_i c3
       rw[if_neg c3]at h;obtain⟨s1,s2,s3⟩:=Z22 h a2.le;have hge:=a1.ge;have hge2:=a2.ge;simp only at hge hge2
       exact⟨(Vm h).trans (a2.ks.trans a1.ks),by omega,s2,s3 a2.out⟩
theorem Vh (x:Int)(u:US):(Be x u).p=u.p/\(Be x u).out=u.out/\(Be x u).ks=u.ks:=by
 unfold Be
 split<;>exact⟨rfl,rfl,rfl⟩
theorem Vi (row:List Bool)(u:US)(hp:u.p<=row.length)(ho:u.out.length<=3000)(h:(Dh row u).2.e=0):Ahd row u (Dh row u).2:=by
 obtain⟨A,C,v,hv⟩:∃A C v,Dh row u=((A,C),v):=⟨_,_,_,rfl⟩
 rw[hv]at h ⊢;obtain⟨m0,n0,c0,u1,u2,u3,us,S,L,hT⟩:=Qw hv h;obtain⟨t1,t2,t3,t4⟩:=Z6v hT hp;exact⟨t4,by show u.p<=v.p;omega,t2,by show v.out.length<=3000;rw[t3];exact ho⟩
theorem Z9f (row:List Bool)(q:Nat)(hq:row.length=8*q)(k:Nat)(u:US)(hp:u.p<=row.length)(ho:u.out.length<=3000)(h:(Dx row k u).e=0):k<=2/\(Dx row k u).ks=u.ks++ [k]/\u.p<=(Dx row k u).p/\(Dx row k u).p<=row.length/\(Dx row k u).out.length<=3000:=by
 have key:∀(j:Nat) (x:US),(Oz j x).e=0->x.e=0/\Oz j x=Vs j x:=fun j x hx=>by
  unfold Oz at hx ⊢
  by_cases c:x.e=0
  . exact⟨c,by rw[if_pos c]⟩
  . rw[if_neg c]at hx;exact absurd hx c
 unfold Dx at h ⊢
 split
 . rename_i c
   subst c;rw[if_pos rfl]at h;obtain⟨k1,k2⟩:=key _ _ h;have a:=Z0y row u (by omega) ho k1;rw[k2];exact⟨by decide,by show _++ [0]=_;rw[a.ks],a.ge,a.le,a.out⟩
 . rename_i c
   rw[if_neg c]at h
   split
   . rename_i c1
     subst c1;rw[if_pos rfl]at h;obtain⟨k1,k2⟩:=key _ _ h;have a:=Ht row Qr Jg _ u hp ho k1;rw[k2];exact⟨by decide,by show _++ [1]=_;rw[a.ks],a.ge,a.le,a.out⟩
   . rename_i c1
     rw[if_neg c1]at h
     split
     . rename_i c2
       subst c2;rw[if_pos rfl]at h
       split
       . rename_i c3
         rw[if_pos c3]at h;exact absurd h c3
       . rename_i c3
         rw[if_neg c3]at h;obtain⟨k1,k2⟩:=key _ _ h;have a0:=Vi row u hp ho (by omega);have a:=a0.trans (Ht row _ _ _ _ a0.le a0.out k1);rw[k2];exact⟨by decide,by show _++ [2]=_;rw[a.ks],a.ge,a.le,a.out⟩
     . rename_i c2
       rw[if_neg c2]at h;exact absurd (show (4:Int)=0 from h) (by decide)
theorem Ii (row:List Bool)(q:Nat)(hq:row.length=8*q)(u:US)(he:u.e=0)(hp:u.p<=row.length)(ho:u.out.length<=3000)(h:(Ca row u).2.e=0):(Ca row u).2.ks.length=u.ks.length+1/\u.p+3<=(Ca row u).2.p/\(Ca row u).2.p<=row.length/\(Ca row u).2.out.length<=3000:=by
 unfold Ca at h ⊢
 split
 . rename_i c
   rw[if_pos c]at h;exact absurd h c
 . rename_i c
   rw[if_neg c]at h
   split
   . rename_i c2
     rw[if_pos c2]at h;exact absurd h c2
   . rename_i c2
     rw[if_neg c2]at h;obtain⟨r1,v1,h1⟩:∃r1 v1,uget row 1 u=(r1,v1):=⟨_,_,rfl⟩
     rw[h1]at c c2 h ⊢;obtain⟨r2,v2,h2⟩:∃r2 v2,uget row 2 v1=(r2,v2):=⟨_,_,rfl⟩
     simp only at c c2 h ⊢
     rw[h2]at c2 h ⊢;simp only at c2 h ⊢
     obtain⟨q1,q2,q3,q4,_⟩:=Gn h1 (by omega);obtain⟨s1,s2,s3,s4,_⟩:=Gn h2 (by omega);obtain⟨t1,t2,t3,t4,t5⟩:=Z9f row q hq r2 v2 s2 (by rw[s3,q3];exact ho) h;exact⟨by rw[t2,s4,q4,List.length_append];rfl,by omega,t4,t5⟩
end Go.Proofs.YtcjbgpacnkilnaiGreatDoor
