import Derived.Test.YtcjbgpacnkilnagGreatDoorQ6
import Derived.Test.YtcjbgpacnkilnagGreatDoorQ10
import Derived.Test.YtcjbgpacnkilnagGreatDoorQ2
import Derived.Test.YtcjbgpacnkilnagGreatDoorQ3
import Derived.Test.YtcjbgpacnkilnagGreatDoorQ0
namespace Go.Proofs.YtcjbgpacnkilnagGreatDoor
set_option linter.unusedVariables false
set_option maxRecDepth 100000
theorem Zkc:Good Ml:=Ci (by decide+kernel)
theorem Zka:Good Ia:=Ci (by decide+kernel)
theorem Uz {row:List Bool}:∀ {ks:List Nat} {s:List Int} {u:US},(usmall row ks s u).2.e=0->u.p<=row.length->u.p<=(usmall row ks s u).2.p/\(usmall row ks s u).2.p<=row.length/\(usmall row ks s u).2.out=u.out/\(usmall row ks s u).2.ks=u.ks
 | [],s,u,h,hp=>⟨Nat.le_refl _,hp,rfl,rfl⟩
 |k::r,s,u,h,hp=>by
  rw[usmall]at h ⊢;have h1:=Oh h;obtain⟨q1,q2,q3,q4,_⟩:=Br (r:=(uget row 3 u).1) (v:=(uget row 3 u).2) rfl h1;obtain⟨i1,i2,i3,i4⟩:=Uz h q2;exact⟨by omega,i2,i3.trans q3,i4.trans q4⟩
theorem Z9g {row:List Bool}{l:List Int}{k:Nat}{u:US}(h:(ukind row l k u).2.2.e=0)(hp:u.p<=row.length):u.p<=(ukind row l k u).2.2.p/\(ukind row l k u).2.2.p<=row.length/\(ukind row l k u).2.2.out=u.out/\(ukind row l k u).2.2.ks=u.ks:=by
 have key:∀n,(uget row n u).2.e=0->u.p<=(uget row n u).2.p/\(uget row n u).2.p<=row.length/\(uget row n u).2.out=u.out/\(uget row n u).2.ks=u.ks:=fun n hn=>by
  obtain⟨q1,q2,q3,q4,_⟩:=Br (r:=(uget row n u).1) (v:=(uget row n u).2) rfl hn;exact⟨by omega,q2,q3,q4⟩
 unfold ukind at h ⊢
 split
 . rename_i h16
   rw[if_pos h16]at h
   split
   . rename_i h0
     rw[if_pos h0]at h;exact absurd h (Dc (by decide))
   . rename_i h0
     rw[if_neg h0]at h;exact key 2 h
 . rename_i h16
   rw[if_neg h16]at h
   split
   . rename_i h17
     rw[if_pos h17]at h;exact key 3 h
   . rename_i h17
     rw[if_neg h17]at h
     split
     . rename_i h18
       rw[if_pos h18]at h;exact key 7 h
     . exact⟨Nat.le_refl _,hp,rfl,rfl⟩
theorem Z9e {row:List Bool}{small:List Int}{tot:Nat}:∀ {F:Nat} {l:List Int} {u:US},(ulens row small tot F l u).2.e=0->u.p<=row.length->u.p<=(ulens row small tot F l u).2.p/\(ulens row small tot F l u).2.p<=row.length/\(ulens row small tot F l u).2.out=u.out/\(ulens row small tot F l u).2.ks=u.ks
 |0,l,u,h,hp=>⟨Nat.le_refl _,hp,rfl,rfl⟩
 |F+1,l,u,h,hp=>by
  by_cases hc:l.length<tot/\u.e=0
  . obtain⟨r,e⟩:=Jy hc.1 hc.2 h;rw[e,r.st]at h ⊢;simp only at h ⊢
    obtain⟨a1,a2,a3,a4,_,_⟩:=Dj (k:=(uplace small row u).1) (v:=(uplace small row u).2) rfl r.pe;obtain⟨b1,b2,b3,b4⟩:=Z9g r.ke a2;obtain⟨i1,i2,i3,i4⟩:=Z9e h b2;exact⟨by omega,i2,i3.trans (b3.trans a3),i4.trans (b4.trans a4)⟩
  . rw[ulens,if_neg hc];exact⟨Nat.le_refl _,hp,rfl,rfl⟩
theorem Ux {row:List Bool}{u v u1 u2 u3 us:US}{m0 n0 c0:Nat}{S L A C:List Int}(h:Told row u m0 n0 c0 u1 u2 u3 us S L A C v)(hp:u.p<=row.length):u.p+1<=v.p/\v.p<=row.length/\v.out=u.out/\v.ks=u.ks:=by
 obtain⟨a1,a2,a3,a4,ae⟩:=Br h.g3 h.e3;obtain⟨b1,b2,b3,b4,be⟩:=Br h.g2 ae;obtain⟨c1,c2,c3,c4,_⟩:=Br h.g1 be;have s:=Uz (row:=row) (ks:=ord19.take (c0+4)) (s:=List.replicate 19 0) (u:=u3) (by rw[h.sm];exact h.es) a2;rw[h.sm]at s;obtain⟨s1,s2,s3,s4⟩:=s;have t:=Z9e (row:=row) (small:=S) (tot:=m0+257+(n0+1)) (F:=m0+257+(n0+1)) (l:= []) (u:=us) (by rw[h.ln];exact h.ev) s2;rw[h.ln]at t;obtain⟨t1,t2,t3,t4⟩:=t;simp only at s1 s2 s3 s4 t1 t2 t3 t4
 exact⟨by omega,t2,by rw[t3,s3,a3,b3,c3],by rw[t4,s4,a4,b4,c4]⟩
theorem Ko {row:List Bool}:∀ {k:Nat} {u:US},(ustore row k u).e=0->u.e=0
 |0,u,h=>h
 |k+1,u,h=>by
  rw[ustore]at h
  by_cases e:u.e=0
  . exact e
  . rw[if_neg e]at h;exact h
theorem Pl {row:List Bool}:∀ {k:Nat} {u:US},(ustore row k u).e=0->(ustore row k u).ks=u.ks
 |0,u,h=>rfl
 |k+1,u,h=>by
  have he:=Ko h;rw[ustore,if_pos he]at h ⊢;obtain⟨r,y,hg⟩:∃r y,uget row 8 u=(r,y):=⟨_,_,rfl⟩
  rw[hg]at h ⊢;obtain⟨h1,_,h3⟩:=Xz (Ko h);rw[Pl h,h3];exact(Br hg h1).2.2.2.1
structure Sto (row:List Bool)(u:US)(r1 r2:Nat)(y1 y2 V:US):Prop where
 g1:uget row 16 {u with p:=(u.p+7)/8*8}=(r1,y1)
 g2:uget row 16 y1=(r2,y2)
 e2:y2.e=0
 sum:r1+r2=65535
 st:ustore row r1 y2=V
 ev:V.e=0
theorem Xt {row:List Bool}{u:US}(h:(ustored row u).e=0):∃r1 r2 y1 y2,Sto row u r1 r2 y1 y2 (ustored row u):=by
 obtain⟨r1,y1,e1⟩:∃r1 y1,uget row 16 {u with p:=(u.p+7)/8*8}=(r1,y1):=⟨_,_,rfl⟩
 obtain⟨r2,y2,e2⟩:∃r2 y2,uget row 16 y1=(r2,y2):=⟨_,_,rfl⟩
 refine⟨r1,r2,y1,y2, ?_⟩;unfold ustored at h ⊢;simp only[e1,e2]at h ⊢;have hx:=Ko h
 by_cases c:y2.e=0/\r1+r2≠65535
 . rw[if_pos c]at hx;exact absurd hx (Dc (by decide))
 . rw[if_neg c]at h hx ⊢;exact⟨e1,e2,hx,by omega,rfl,h⟩
theorem Uy {row:List Bool}:∀ {k:Nat} {u:US},(ustore row k u).e=0->u.p<=row.length->u.p<=(ustore row k u).p/\(ustore row k u).p<=row.length/\(u.out.length<=3000->(ustore row k u).out.length<=3000)
 |0,u,h,hp=>⟨Nat.le_refl _,hp,fun h=>h⟩
 |k+1,u,h,hp=>by
  have he:=Ko h;rw[ustore,if_pos he]at h ⊢;obtain⟨r,y,hg⟩:∃r y,uget row 8 u=(r,y):=⟨_,_,rfl⟩
  rw[hg]at h ⊢;obtain⟨h1,h2,h3⟩:=Xz (Ko h);obtain⟨q1,q2,q3,_,_⟩:=Br hg h1;have ih:=Uy h (by rw[h3];exact q2);rw[h3]at ih ⊢;refine⟨?_,ih.2.1,fun ho=>ih.2.2 ?_⟩
  . have:=ih.1
    simp only at this ⊢
    omega
  . simp only[List.length_append,List.length_cons,List.length_nil];rw[q3]at h2 ⊢;omega
theorem Zh7 {row:List Bool}{a b:List Int}:∀ {F:Nat} {u:US},(utok row a b F u).e=0->u.p<=row.length->u.p<=(utok row a b F u).p/\(utok row a b F u).p<=row.length/\(utok row a b F u).ks=u.ks/\(u.out.length<=3000->(utok row a b F u).out.length<=3000)
 |0,u,h,hp=>⟨Nat.le_refl _,hp,rfl,fun h=>h⟩
 |F+1,u,h,hp=>by
  obtain⟨t,x,hT,e⟩:=Su h;obtain⟨a1,a2,a3,a4,a5⟩:=hT.ahead;rw[e]at h ⊢
  by_cases ht:t=true
  . rw[if_pos ht]at h ⊢;obtain⟨i1,i2,i3,i4⟩:=Zh7 h a2;exact⟨by omega,i2,i3.trans a4,fun ho=>i4 (a5 ho)⟩
  . rw[if_neg ht];exact⟨by omega,a2,a4,a5⟩
theorem Blk1R.ahead {row:List Bool}{u v:US}{t:Bool}(h:Blk1R row u t v):u.p+1<=v.p/\v.p<=row.length/\v.e=0/\v.ks.length=u.ks.length+1/\(u.out.length<=3000->v.out.length<=3000):=by
 cases h with
 |stored l x1 x2 h1 h2 h3 h4=>
  obtain⟨q2,q2l,q2o,q2k,q2e⟩:=Br h2 h3;obtain⟨q1,q1l,q1o,q1k,_⟩:=Br h1 q2e;obtain⟨r1,r2,y1,y2,hS⟩:=Xt h4;have hy1e:y1.e=0:=Sy (by rw[hS.g2];exact hS.e2);obtain⟨p1,p1l,p1o,p1k,_⟩:=Br hS.g1 hy1e;obtain⟨p2,p2l,p2o,p2k,_⟩:=Br hS.g2 hS.e2;have s:=Uy (row:=row) (k:=r1) (u:=y2) (by rw[hS.st];exact h4) p2l;have sk:=Pl (row:=row) (k:=r1) (u:=y2) (by rw[hS.st];exact h4);rw[hS.st]at s sk;simp only at p1 p1o p1k
  refine⟨?_,s.2.1,h4, ?_,fun ho=>s.2.2 ?_⟩
  . show u.p+1<=(ustored row x2).p
    have:=s.1
    omega
  . show ((ustored row x2).ks++ [0]).length=_
    rw[List.length_append,sk,p2k,p1k,q2k,q1k];rfl
  . rw[p2o,p1o,q2o,q1o];exact ho
 |coded l k x1 x2 x3 a b h1 h2 h3 h4 h5 h6 h7=>
  obtain⟨q2,q2l,q2o,q2k,q2e⟩:=Br h2 h3;obtain⟨q1,q1l,q1o,q1k,_⟩:=Br h1 q2e
  have hx:x2.p<=x3.p/\x3.p<=row.length/\x3.out=x2.out/\x3.ks=x2.ks:=by
   rcases h4 with h4|h4
   . subst h4;unfold uopen at h5;rw[if_pos rfl]at h5;have:=(Prod.mk.inj h5).2
     subst this;exact⟨Nat.le_refl _,q2l,rfl,rfl⟩
   . subst h4;unfold uopen at h5;rw[if_neg (by decide),if_pos rfl]at h5;obtain⟨m0,n0,c0,v1,v2,v3,us,S0,L0,hTD⟩:=Ja h5 h6;obtain⟨t1,t2,t3,t4⟩:=Ux hTD q2l;exact⟨by omega,t2,t3,t4⟩
  obtain⟨s1,s2,s3,s4⟩:=hx;obtain⟨t1,t2,t3,t4⟩:=Zh7 h7 s2;refine⟨?_,t2,h7, ?_,fun ho=>t4 ?_⟩
  . show u.p+1<=(utok row a b row.length x3).p
    omega
  . show ((utok row a b row.length x3).ks++ [k]).length=_
    rw[List.length_append,t3,s4,q2k,q1k];rfl
  . rw[s3,q2o,q1o];exact ho
theorem Z9i {row:List Bool}:∀ {F:Nat} {u:US},(Ek row (F+1) u).e=0->(Fd row u).2.e=0:=by
 intro F u h;rw[Ek]at h
 by_cases c:(Fd row u).1=false/\(Fd row u).2.e=0
 . exact c.2
 . rw[if_neg c]at h;exact h
theorem Vc {row:List Bool}{F:Nat}{u:US}(h:(Ek row (F+1) u).e=0):∃t x,Blk1R row u t x/\Ek row (F+1) u=if t=false then Ek row F x else x:=by
 have he:=Z9i h;refine⟨(Fd row u).1,(Fd row u).2,Z23 he, ?_⟩;rw[Ek]
 by_cases c:(Fd row u).1=false
 . rw[if_pos ⟨c,he⟩,if_pos c]
 . rw[if_neg (fun h=>c h.1),if_neg c]
def Lo (k:Nat)(u:US):US:=if u.e=0 then ukept k u else u
def Dy (row:List Bool)(k:Nat)(u:US):US:=
 if k=0 then Lo 0 (Ct row u)
 else if k=1 then Lo 1 (Hz row Ml Ia (row.length+1) u)
 else if k=2 then (if (Dd row u).2.e≠0 then (Dd row u).2 else Lo 2 (Hz row (Dd row u).1.1 (Dd row u).1.2 (row.length+1) (Dd row u).2))
 else {u with e:=4}
def Bv (row:List Bool)(u:US):Nat×US:=
 if (uget row 1 u).2.e≠0 then (1,(uget row 1 u).2)
 else if (uget row 2 (uget row 1 u).2).2.e≠0 then (1,(uget row 2 (uget row 1 u).2).2)
 else ((uget row 1 u).1,Dy row (uget row 2 (uget row 1 u).2).1 (uget row 2 (uget row 1 u).2).2)
def Cd (row:List Bool):Nat->US->US
 |0,u=>u
 |f+1,u=>if (Bv row u).1=0/\(Bv row u).2.e=0 then Cd row f (Bv row u).2 else (Bv row u).2
def Df (row:List Bool):US:=Cd row (row.length+1) US0
structure Ahd (row:List Bool)(u v:US):Prop where
 ks:v.ks=u.ks
 ge:u.p<=v.p
 le:v.p<=row.length
 out:v.out.length<=3000
theorem Ahd.trans {row:List Bool}{u v x:US}(h:Ahd row u v)(k:Ahd row v x):Ahd row u x:=⟨k.ks.trans h.ks,Nat.le_trans h.ge k.ge,k.le,k.out⟩
theorem Vb (row:List Bool)(n:Nat)(u:US)(hp:u.p<=row.length)(ho:u.out.length<=3000):Ahd row u (uget row n u).2:=⟨Hr _ _ _,Z21 _ _ _,Gm _ _ _ hp,by rw[Cf];exact ho⟩
theorem Sw (l:List Int)(row:List Bool)(u:US)(hp:u.p<=row.length)(ho:u.out.length<=3000):Ahd row u (uplace l row u).2:=by
 obtain⟨h1,h2,h3⟩:=Gj l row u;exact⟨h2,h3,Ie l row u hp,by rw[h1];exact ho⟩
theorem Zbw (row:List Bool)(lb:List Int)(k:Nat)(u:US)(hp:u.p<=row.length)(ho:u.out.length<=3000)(h:(Cv row lb k u).e=0):Ahd row u (Cv row lb k u):=by
 unfold Cv at h ⊢
 split
 . rename_i c1
   rw[if_pos c1]at h
   split
   . rename_i c2
     rw[if_pos c2]at h;exact absurd (show (2:Int)=0 from h) (by decide)
   . refine⟨rfl,Nat.le_refl _,hp, ?_⟩;simp only[List.length_append,List.length_cons,List.length_nil];omega
 . rename_i c1
   rw[if_neg c1]at h
   split
   . rename_i c2
     rw[if_pos c2]at h;exact absurd (show (8:Int)=0 from h) (by decide)
   . rename_i c2
     rw[if_neg c2]at h
     split
     . rename_i c3
       rw[if_pos c3]at h;exact absurd h c3
     . rename_i c3
       rw[if_neg c3]at h;have a1:=Vb row (Cy k).2 u hp ho;generalize uget row (Cy k).2 u=g at*
       split
       . rename_i c4
         rw[if_pos c4]at h;exact absurd h c4
       . rename_i c4
         rw[if_neg c4]at h;obtain⟨b1,b2,b3,b4⟩:=Ty row lb g.2 a1.le;have a2:Ahd row g.2 (Od row lb g.2).2:=⟨b2,b3,b4,by rw[b1];exact a1.out⟩
         generalize Od row lb g.2=q at*;obtain⟨d1,d2,d3⟩:=Qu _ _ _ h;exact(a1.trans a2).trans ⟨d2,by omega,by rw[d1];exact a2.le,d3 a2.out⟩
theorem Jl (row:List Bool)(la lb:List Int)(f:Nat)(u:US):Hz row la lb (f+1) u=if (uplace la row u).2.e≠0 then (uplace la row u).2 else if (uplace la row u).1=256 then (uplace la row u).2 else if (Cv row lb (uplace la row u).1 (uplace la row u).2).e≠0 then Cv row lb (uplace la row u).1 (uplace la row u).2 else Hz row la lb f (Cv row lb (uplace la row u).1 (uplace la row u).2):=by
 unfold Hz;rw[Z7e]
theorem Ir (row:List Bool)(la lb:List Int):∀(f:Nat) (u:US),u.p<=row.length->u.out.length<=3000->(Hz row la lb f u).e=0->Ahd row u (Hz row la lb f u)
 |0,u,hp,ho,h=>by
  have a1:=Sw la row u hp ho;unfold Hz
  split
  . exact a1
  . exact a1
 |f+1,u,hp,ho,h=>by
  have a1:=Sw la row u hp ho;rw[Jl]at h ⊢;generalize uplace la row u=r at*
  split
  . exact a1
  . rename_i c1
    rw[if_neg c1]at h
    split
    . exact a1
    . rename_i c2
      rw[if_neg c2]at h
      split
      . rename_i c3
        rw[if_pos c3]at h;exact absurd h c3
      . rename_i c3
        rw[if_neg c3]at h;have a2:=Zbw row lb r.1 r.2 a1.le a1.out (by omega);exact(a1.trans a2).trans (Ir row la lb f _ a2.le a2.out h)
theorem Z33 (row:List Bool)(u:US)(hp:(u.p+7)/8*8<=row.length)(ho:u.out.length<=3000)(h:(Ct row u).e=0):Ahd row u (Ct row u):=by
 obtain⟨r1,v1,h1⟩:∃r1 v1,uget row 16 {u with p:=(u.p+7)/8*8}=(r1,v1):=⟨_,_,rfl⟩
 obtain⟨r2,v2,h2⟩:∃r2 v2,uget row 16 v1=(r2,v2):=⟨_,_,rfl⟩
 have a1:=Vb row 16 {u with p:=(u.p+7)/8*8} hp ho;rw[h1]at a1;have a2:=Vb row 16 v1 a1.le a1.out;rw[h2]at a2;rw[Tw row u v1 v2 _ r1 r2 rfl h1 h2]at h ⊢
 split
 . rename_i c
   rw[if_pos c]at h;exact absurd h c
 . rename_i c
   rw[if_neg c]at h
   split
   . rename_i c2
     rw[if_pos c2]at h;exact absurd (show (4:Int)=0 from h) (by decide)
   . rename_i c2
     rw[if_neg c2]at h
     split
     . rename_i c3
       rw[if_pos c3]at h;exact absurd (show (2:Int)=0 from h) (by decide)
     . rename_i c3
       rw[if_neg c3]at h;obtain⟨s1,s2,s3⟩:=Uy h a2.le;have hge:=a1.ge;have hge2:=a2.ge;simp only at hge hge2
       exact⟨(Pl h).trans (a2.ks.trans a1.ks),by omega,s2,s3 a2.out⟩
theorem Xr (x:Int)(u:US):(Ay x u).p=u.p/\(Ay x u).out=u.out/\(Ay x u).ks=u.ks:=by
 unfold Ay
 split<;>exact⟨rfl,rfl,rfl⟩
theorem Xs (row:List Bool)(u:US)(hp:u.p<=row.length)(ho:u.out.length<=3000)(h:(Dd row u).2.e=0):Ahd row u (Dd row u).2:=by
 obtain⟨A,C,v,hv⟩:∃A C v,Dd row u=((A,C),v):=⟨_,_,_,rfl⟩
 rw[hv]at h ⊢;obtain⟨m0,n0,c0,u1,u2,u3,us,S,L,hT⟩:=Ja hv h;obtain⟨t1,t2,t3,t4⟩:=Ux hT hp;exact⟨t4,by show u.p<=v.p;omega,t2,by show v.out.length<=3000;rw[t3];exact ho⟩
theorem Zc4 (row:List Bool)(q:Nat)(hq:row.length=8*q)(k:Nat)(u:US)(hp:u.p<=row.length)(ho:u.out.length<=3000)(h:(Dy row k u).e=0):k<=2/\(Dy row k u).ks=u.ks++ [k]/\u.p<=(Dy row k u).p/\(Dy row k u).p<=row.length/\(Dy row k u).out.length<=3000:=by
 have key:∀(j:Nat) (x:US),(Lo j x).e=0->x.e=0/\Lo j x=ukept j x:=fun j x hx=>by
  unfold Lo at hx ⊢
  by_cases c:x.e=0
  . exact⟨c,by rw[if_pos c]⟩
  . rw[if_neg c]at hx;exact absurd hx c
 unfold Dy at h ⊢
 split
 . rename_i c
   subst c;rw[if_pos rfl]at h;obtain⟨k1,k2⟩:=key _ _ h;have a:=Z33 row u (by omega) ho k1;rw[k2];exact⟨by decide,by show _++ [0]=_;rw[a.ks],a.ge,a.le,a.out⟩
 . rename_i c
   rw[if_neg c]at h
   split
   . rename_i c1
     subst c1;rw[if_pos rfl]at h;obtain⟨k1,k2⟩:=key _ _ h;have a:=Ir row Ml Ia _ u hp ho k1;rw[k2];exact⟨by decide,by show _++ [1]=_;rw[a.ks],a.ge,a.le,a.out⟩
   . rename_i c1
     rw[if_neg c1]at h
     split
     . rename_i c2
       subst c2;rw[if_pos rfl]at h
       split
       . rename_i c3
         rw[if_pos c3]at h;exact absurd h c3
       . rename_i c3
         rw[if_neg c3]at h;obtain⟨k1,k2⟩:=key _ _ h;have a0:=Xs row u hp ho (by omega);have a:=a0.trans (Ir row _ _ _ _ a0.le a0.out k1);rw[k2];exact⟨by decide,by show _++ [2]=_;rw[a.ks],a.ge,a.le,a.out⟩
     . rename_i c2
       rw[if_neg c2]at h;exact absurd (show (4:Int)=0 from h) (by decide)
theorem Jm (row:List Bool)(q:Nat)(hq:row.length=8*q)(u:US)(he:u.e=0)(hp:u.p<=row.length)(ho:u.out.length<=3000)(h:(Bv row u).2.e=0):(Bv row u).2.ks.length=u.ks.length+1/\u.p+3<=(Bv row u).2.p/\(Bv row u).2.p<=row.length/\(Bv row u).2.out.length<=3000:=by
 unfold Bv at h ⊢
 split
 . rename_i c
   rw[if_pos c]at h;exact absurd h c
 . rename_i c
   rw[if_neg c]at h
   split
   . rename_i c2
     rw[if_pos c2]at h;exact absurd h c2
   . rename_i c2
     rw[if_neg c2]at h;obtain⟨r1,v1,h1⟩:∃r1 v1,uget row 1 u=(r1,v1):=⟨_,_,rfl⟩
     rw[h1]at c c2 h ⊢;obtain⟨r2,v2,h2⟩:∃r2 v2,uget row 2 v1=(r2,v2):=⟨_,_,rfl⟩
     simp only at c c2 h ⊢
     rw[h2]at c2 h ⊢;simp only at c2 h ⊢
     obtain⟨q1,q2,q3,q4,_⟩:=Br h1 (by omega);obtain⟨s1,s2,s3,s4,_⟩:=Br h2 (by omega);obtain⟨t1,t2,t3,t4,t5⟩:=Zc4 row q hq r2 v2 s2 (by rw[s3,q3];exact ho) h;exact⟨by rw[t2,s4,q4,List.length_append];rfl,by omega,t4,t5⟩
end Go.Proofs.YtcjbgpacnkilnagGreatDoor
namespace Go.Proofs.YtcjbgpacnkilnagGreatDoor
set_option linter.unusedVariables false
def n8 (l:List UInt8):List Nat:=l.map UInt8.toNat
def o8 (l:List Nat):List UInt8:=l.map UInt8.ofNat
theorem Dv (l:List UInt8):(n8 l).length=l.length:=by simp[n8]
theorem Lg (l:List Nat):(o8 l).length=l.length:=by simp[o8]
theorem Jw (l:List UInt8):∀x∈n8 l,x<256:=by
 intro x hx;obtain⟨y,_,rfl⟩:=List.mem_map.1 hx;exact y.toNat_lt
theorem Zfq (l:List UInt8):o8 (n8 l)=l:=by simp[o8,n8,Function.comp_def]
theorem Zn1 {l:List Nat}(h:∀x∈l,x<256):n8 (o8 l)=l:=by
 unfold n8 o8;rw[List.map_map]
 conv=>rhs;rw[<-List.map_id l]
 apply List.map_congr_left
 intro x hx;have:=h x hx
 simp
 omega
theorem Dk {l:List Nat}(h:∀x∈l,x<256)(j:Nat):l.getD j 0<256:=by
 by_cases hk:j<l.length
 . have e:l.getD j 0=l[j]:=by simp[List.getD,hk]
   rw[e];exact h _ (List.getElem_mem hk)
 . simp[List.getD,hk]
theorem Z5r {l:List Nat}(h:∀j,l.getD j 0<256):∀x∈l,x<256:=by
 intro x hx;obtain⟨j,hj,rfl⟩:=List.getElem_of_mem hx;have:=h j
 simpa[List.getD,hj]using this
structure En where
 f:Fl
 meth:Nat
 pk:List Nat
 crc:Nat
def Z39 (b:Bool):Nat:=if b then 1 else 0
def Zx (x:En):List Nat:=Bd 20 2++Bd 0 2++Bd x.meth 2++Bd 0 4++Bd x.crc 4++Bd x.pk.length 4++Bd x.f.bytes.length 4++Bd x.f.name.length 2++Bd 11 2
def Z0s (x:En):List Nat:=Bd 29297 2++Bd 7 2++Bd x.f.stamp.toNat 4++Bd x.f.node.toNat 2++Bd (Z39 x.f.gone) 1
def Z1t (x:En):List Nat:=Bd 67324752 4++Zx x++n8 x.f.name++Z0s x++x.pk
def Zf4 (x:En)(p:Nat):List Nat:=Bd 33639248 4++Bd 20 2++Zx x++Bd 0 10++Bd p 4++n8 x.f.name++Z0s x
def Bh:List En->List Nat
 | []=> []
 |x::r=>Z1t x++Bh r
def Bj:Nat->List En->List Nat
 |_,[]=> []
 |p,x::r=>Zf4 x p++Bj (p+(Z1t x).length) r
def Z8w (n size at_:Nat):List Nat:=Bd 101010256 4++Bd 0 4++Bd n 2++Bd n 2++Bd size 4++Bd at_ 4++Bd 0 2
def Ca (l:List En):List Nat:=Bh l++Bj 0 l++Z8w l.length (Bj 0 l).length (Bh l).length
theorem Oq (x:En):(Zx x).length=26:=by simp[Zx,Ak]
theorem Pb (x:En):(Z0s x).length=11:=by simp[Z0s,Ak]
theorem Pa (x:En):(Z1t x).length=41+x.f.name.length+x.pk.length:=by simp[Z1t,Ak,Oq,Pb,Dv];omega
theorem Vh (x:En)(p:Nat):(Zf4 x p).length=57+x.f.name.length:=by simp[Zf4,Ak,Oq,Pb,Dv];omega
theorem Z5w (n s a:Nat):(Z8w n s a).length=22:=by simp[Z8w,Ak]
theorem Z5q:∀(a b:List En),Bh (a++b)=Bh a++Bh b
 | [],b=>rfl
 |x::a,b=>by rw[List.cons_append,Bh,Z5q a b,Bh,List.append_assoc]
theorem Yk:∀(a b:List En) (p:Nat),Bj p (a++b)=Bj p a++Bj (p+(Bh a).length) b
 | [],b,p=>by simp[Bj,Bh]
 |x::a,b,p=>by rw[List.cons_append,Bj,Yk a b,Bj,Bh,List.append_assoc,List.length_append,Nat.add_assoc]
theorem Db {a b:List Nat}(ha:∀x∈a,x<256)(hb:∀x∈b,x<256):∀x∈a++b,x<256:=by
 intro x hx
 rcases List.mem_append.1 hx with h|h
 . exact ha x h
 . exact hb x h
theorem Z5b (x:En):∀y∈Zx x,y<256:=by
 unfold Zx
 repeat first|apply Eh|apply Db
theorem Z5u (x:En):∀y∈Z0s x,y<256:=by
 unfold Z0s
 repeat first|apply Eh|apply Db
theorem Zgi (x:En)(h:∀y∈x.pk,y<256):∀y∈Z1t x,y<256:=by
 unfold Z1t;exact Db (Db (Db (Db (Eh _ _) (Z5b x)) (Jw _)) (Z5u x)) h
theorem Zf3 (x:En)(p:Nat):∀y∈Zf4 x p,y<256:=by
 unfold Zf4;exact Db (Db (Db (Db (Db (Db (Eh _ _) (Eh _ _)) (Z5b x)) (Eh _ _)) (Eh _ _)) (Jw _)) (Z5u x)
theorem Z5p:∀(l:List En),(∀x∈l,∀y∈x.pk,y<256)->∀y∈Bh l,y<256
 | [],_=>fun y hy=>by cases hy
 |x::r,h=>Db (Zgi x (h x (by simp))) (Z5p r (fun z hz=>h z (List.mem_cons_of_mem _ hz)))
theorem Yj:∀(l:List En) (p:Nat),∀y∈Bj p l,y<256
 | [],_=>fun y hy=>by cases hy
 |x::r,p=>Db (Zf3 x p) (Yj r _)
theorem Zgw (n s a:Nat):∀y∈Z8w n s a,y<256:=by
 unfold Z8w
 repeat first|apply Eh|apply Db
theorem Xk (l:List En)(h:∀x∈l,∀y∈x.pk,y<256):∀y∈Ca l,y<256:=Db (Db (Z5p l h) (Yj l 0)) (Zgw _ _ _)
def Dw (k:Nat)(r:List Nat):Option (List Nat×List Nat):=if r.length<k then none else some (r.take k,r.drop k)
theorem Bg (a r:List Nat){k:Nat}(h:a.length=k):Dw k (a++r)=some (a,r):=by
 unfold Dw;rw[if_neg (by rw[List.length_append];omega),List.take_left' h,List.drop_left' h]
theorem Oz (n k:Nat)(r:List Nat):Dw k (Bd n k++r)=some (Bd n k,r):=Bg _ _ (Ak k n)
theorem Z0i {k:Nat}{r a q:List Nat}(h:Dw k r=some (a,q)):r=a++q/\a.length=k:=by
 unfold Dw at h
 split at h
 . cases h
 . rename_i hk
   simp only[Option.some.injEq,Prod.mk.injEq]at h;obtain⟨rfl,rfl⟩:=h;exact⟨(List.take_append_drop _ _).symm,by rw[List.length_take];omega⟩
theorem Al {β:Type}{k:Nat}{r:List Nat}{f:List Nat×List Nat->Option β}{y:β}(h:(Dw k r).bind f=some y):
 ∃a q,r=a++q/\a.length=k/\f (a,q)=some y:=by
 cases hg:Dw k r with
 |none=>rw[hg]at h;cases h
 |some p=>rw[hg]at h;exact⟨p.1,p.2,(Z0i hg).1,(Z0i hg).2,h⟩
def unpF (m:Nat)(pk:List Nat):Option (List Nat):=
 if m=0 then some pk
 else if m=8 then (if pk.length<=6000/\(Df (rowB pk pk.length)).e=0/\((Df (rowB pk pk.length)).p+7)/8=pk.length then some (Df (rowB pk pk.length)).out else none)
 else none
def Fp (r:List Nat):Option (En×List Nat):=
 (Dw 4 r).bind fun a1=>(Dw 2 a1.2).bind fun a2=>(Dw 4 a2.2).bind fun a3=>(Dw 4 a3.2).bind fun a4=>(Dw 4 a4.2).bind fun a5=>
 (Dw 4 a5.2).bind fun a6=>(Dw 2 a6.2).bind fun a7=>(Dw 2 a7.2).bind fun a8=>(Dw (Ai a7.1) a8.2).bind fun a9=>(Dw 4 a9.2).bind fun a10=>
 (Dw 4 a10.2).bind fun a11=>(Dw 2 a11.2).bind fun a12=>(Dw 1 a12.2).bind fun a13=>(Dw (Ai a5.1) a13.2).bind fun a14=>
 (unpF (Ai a2.1) a14.1).bind fun b=>some (⟨⟨o8 a9.1,o8 b,(Ai a11.1:Nat),(Ai a12.1:Nat),decide (Ai a13.1=1)⟩,Ai a2.1,a14.1,Ai a4.1⟩,a14.2)
def Ce:Nat->List Nat->Option (List En)
 |0,_=>none
 |F+1,r=>(Dw 4 r).bind fun m=>if Ai m.1=67324752 then (Fp m.2).bind fun x=>(Ce F x.2).map (x.1:: ·)else some []
theorem Rl {r:List Nat}{x:En}{q:List Nat}(h:Fp r=some (x,q)):
 q.length+37<=r.length/\((∀z∈r,z<256)->(∀z∈x.pk,z<256)/\∀z∈q,z<256)/\∀t,Fp (r++t)=some (x,q++t):=by
 unfold Fp at h;obtain⟨a1,r1,rfl,l1,h⟩:=Al h;dsimp only at h;obtain⟨a2,r2,rfl,l2,h⟩:=Al h;dsimp only at h;obtain⟨a3,r3,rfl,l3,h⟩:=Al h;dsimp only at h;obtain⟨a4,r4,rfl,l4,h⟩:=Al h;dsimp only at h;obtain⟨a5,r5,rfl,l5,h⟩:=Al h;dsimp only at h;obtain⟨a6,r6,rfl,l6,h⟩:=Al h;dsimp only at h;obtain⟨a7,r7,rfl,l7,h⟩:=Al h;dsimp only at h;obtain⟨a8,r8,rfl,l8,h⟩:=Al h;dsimp only at h;obtain⟨a9,r9,rfl,l9,h⟩:=Al h;dsimp only at h;obtain⟨a10,r10,rfl,l10,h⟩:=Al h;dsimp only at h;obtain⟨a11,r11,rfl,l11,h⟩:=Al h;dsimp only at h;obtain⟨a12,r12,rfl,l12,h⟩:=Al h;dsimp only at h;obtain⟨a13,r13,rfl,l13,h⟩:=Al h;dsimp only at h;obtain⟨a14,r14,rfl,l14,h⟩:=Al h;dsimp only at h
 cases hu:unpF (Ai a2) a14 with
 |none=>rw[hu]at h;cases h
 |some b=>
  rw[hu]at h;simp only[Option.bind_some,Option.some.injEq,Prod.mk.injEq]at h;obtain⟨rfl,rfl⟩:=h;refine⟨?_,fun hv=>⟨fun z hz=>hv z (by simp[hz]),fun z hz=>hv z (by simp[hz])⟩,fun t=> ?_⟩
  . simp only[List.length_append];omega
  . unfold Fp;simp only[List.append_assoc];rw[Bg _ _ l1,Option.bind_some];dsimp only;rw[Bg _ _ l2,Option.bind_some];dsimp only;rw[Bg _ _ l3,Option.bind_some];dsimp only;rw[Bg _ _ l4,Option.bind_some];dsimp only;rw[Bg _ _ l5,Option.bind_some];dsimp only;rw[Bg _ _ l6,Option.bind_some];dsimp only;rw[Bg _ _ l7,Option.bind_some];dsimp only;rw[Bg _ _ l8,Option.bind_some];dsimp only;rw[Bg _ _ l9,Option.bind_some];dsimp only;rw[Bg _ _ l10,Option.bind_some];dsimp only;rw[Bg _ _ l11,Option.bind_some];dsimp only;rw[Bg _ _ l12,Option.bind_some];dsimp only;rw[Bg _ _ l13,Option.bind_some];dsimp only;rw[Bg _ _ l14,Option.bind_some];dsimp only;rw[hu];rfl
theorem Z83:∀ {F:Nat} {r:List Nat} {l:List En},Ce F r=some l->∀t,Ce F (r++t)=some l
 |0,r,l,h,t=>by cases h
 |F+1,r,l,h,t=>by
  unfold Ce at h ⊢;obtain⟨m,q,rfl,hl,h⟩:=Al h;dsimp only at h;rw[List.append_assoc,Bg _ _ hl,Option.bind_some];dsimp only
  split at h
  . rename_i hm
    rw[if_pos hm]
    cases he:Fp q with
    |none=>rw[he]at h;cases h
    |some p=>
     rw[he]at h;rw[(Rl (x:=p.1) (q:=p.2) he).2.2 t,Option.bind_some];simp only[Option.bind_some,Option.map_eq_some_iff]at h ⊢;obtain⟨l2,h1,h2⟩:=h;exact⟨l2,Z83 h1 t,h2⟩
  . rename_i hm
    rw[if_neg hm];exact h
theorem Z0x:∀ {F:Nat} {r:List Nat} {l:List En},Ce F r=some l->(∀z∈r,z<256)->∀x∈l,∀z∈x.pk,z<256
 |0,r,l,h,_=>by cases h
 |F+1,r,l,h,hv=>by
  unfold Ce at h;obtain⟨m,q,rfl,hl,h⟩:=Al h;dsimp only at h
  split at h
  . cases he:Fp q with
    |none=>rw[he]at h;cases h
    |some p=>
     rw[he]at h;simp only[Option.bind_some,Option.map_eq_some_iff]at h;obtain⟨l2,h1,rfl⟩:=h;have h2:=(Rl (x:=p.1) (q:=p.2) he).2.1 (fun z hz=>hv z (by simp[hz]));intro x hx
     rcases List.mem_cons.1 hx with rfl|hx
     . exact h2.1
     . exact Z0x h1 h2.2 x hx
  . cases h
    intro x hx
    cases hx
structure EOk (x:En):Prop where
 st:0<=x.f.stamp/\x.f.stamp<4294967296
 nd:0<=x.f.node/\x.f.node<65536
 nm:x.f.name.length<65536
 pl:x.pk.length<4294967296
 cr:x.crc<4294967296
 mt:x.meth<65536
 un:unpF x.meth x.pk=some (n8 x.f.bytes)
theorem Zgv (x:En)(h:EOk x)(t:List Nat):Fp (Zx x++n8 x.f.name++Z0s x++x.pk++t)=some (x,t):=by
 have e:Zx x++n8 x.f.name++Z0s x++x.pk++t=(Bd 20 2++Bd 0 2)++(Bd x.meth 2++(Bd 0 4++(Bd x.crc 4++(Bd x.pk.length 4++(Bd x.f.bytes.length 4++(Bd x.f.name.length 2++(Bd 11 2++(n8 x.f.name++((Bd 29297 2++Bd 7 2)++(Bd x.f.stamp.toNat 4++(Bd x.f.node.toNat 2++(Bd (Z39 x.f.gone) 1++(x.pk++t))))))))))))):=by
  simp only[Zx,Z0s,List.append_assoc]
 obtain⟨⟨st0,st1⟩,⟨nd0,nd1⟩,nm,pl,cr,mt,un⟩:=h;have o1:Ai (Bd x.meth 2)=x.meth:=Ch 2 _ mt;have o2:Ai (Bd x.crc 4)=x.crc:=Ch 4 _ cr;have o3:Ai (Bd x.pk.length 4)=x.pk.length:=Ch 4 _ pl;have o4:Ai (Bd x.f.name.length 2)=x.f.name.length:=Ch 2 _ nm;have o5:Ai (Bd x.f.stamp.toNat 4)=x.f.stamp.toNat:=Ch 4 _ (by show _<4294967296;omega);have o6:Ai (Bd x.f.node.toNat 2)=x.f.node.toNat:=Ch 2 _ (by show _<65536;omega);have o7:Ai (Bd (Z39 x.f.gone) 1)=Z39 x.f.gone:=Ch 1 _ (by unfold Z39;split<;>decide);rw[e];unfold Fp;rw[Bg _ _ (show (Bd 20 2++Bd 0 2).length=4 from rfl)];simp only[Option.bind_some,Oz,o1,o2,o3,o4];rw[Bg _ _ (Dv x.f.name)];simp only[Option.bind_some];rw[Bg _ _ (show (Bd 29297 2++Bd 7 2).length=4 from rfl)];simp only[Option.bind_some,Oz,o5,o6,o7];rw[Bg _ _ rfl];simp only[Option.bind_some,un,Zfq,Option.some.injEq,Prod.mk.injEq,and_true];have e1:((x.f.stamp.toNat:Nat):Int)=x.f.stamp:=Int.toNat_of_nonneg st0;have e2:((x.f.node.toNat:Nat):Int)=x.f.node:=Int.toNat_of_nonneg nd0;have e3:decide (Z39 x.f.gone=1)=x.f.gone:=by cases x.f.gone<;>rfl
 rw[e1,e2,e3]
theorem Uh:∀(l:List En) {F:Nat} {t:List Nat},(∀x∈l,EOk x)->l.length<F->(∃m q,Dw 4 t=some (m,q)/\Ai m≠67324752)->Ce F (Bh l++t)=some l
 | [],0,t,_,h,_=>by cases h
 | [],F+1,t,_,_,⟨m,q,h1,h2⟩=>by
  unfold Ce;show (Dw 4 t).bind _=_
  rw[h1,Option.bind_some];dsimp only;rw[if_neg h2]
 |x::l,0,t,_,h,_=>by cases h
 |x::l,F+1,t,h,hF,ht=>by
  unfold Ce
  have e:Bh (x::l)++t=Bd 67324752 4++(Zx x++n8 x.f.name++Z0s x++x.pk++(Bh l++t)):=by
   simp only[Bh,Z1t,List.append_assoc]
  have hm:Ai (Bd 67324752 4)=67324752:=Ch 4 _ (by decide);rw[e,Oz,Option.bind_some];dsimp only;rw[if_pos hm,Zgv x (h x (by simp)),Option.bind_some];dsimp only;rw[Uh l (fun y hy=>h y (List.mem_cons_of_mem _ hy)) (by simpa using hF) ht];rfl
theorem Zcw (l:List En)(h:∀x∈l,EOk x)(t:List Nat){F:Nat}(hF:l.length<F):Ce F (Ca l++t)=some l:=by
 unfold Ca;rw[List.append_assoc,List.append_assoc];refine Uh l h hF ?_
 cases l with
 |nil=>
  refine⟨Bd 101010256 4,(Z8w 0 0 0).drop 4++t, ?_,by rw[Ch 4 _ (by decide)];decide⟩;exact Bg (Bd 101010256 4) ((Z8w 0 0 0).drop 4++t) rfl
 |cons x r=>
  refine⟨Bd 33639248 4,Bd 20 2++(Zx x++(Bd 0 10++(Bd 0 4++(n8 x.f.name++(Z0s x++(Bj (0+(Z1t x).length) r++(Z8w (x::r).length (Bj 0 (x::r)).length (Bh (x::r)).length++t))))))), ?_,by rw[Ch 4 _ (by decide)];decide⟩;rw[<-Oz];simp only[Bj,Zf4,List.append_assoc]
theorem Z8u (l:List En):l.length+22<=(Ca l).length:=by
 have:∀l:List En,l.length<=(Bh l).length:=by
  intro l
  induction l with
  |nil=>exact Nat.zero_le _
  |cons x r ih=>rw[Bh,List.length_append,Pa,List.length_cons];omega
 have h:=this l;unfold Ca;rw[List.length_append,List.length_append,Z5w];omega
theorem Zh5 (l:List En):l.length<(Ca l).length+1:=by
 have:=Z8u l
 omega
def Mq (l:List En):Bool:=l.all fun x=>decide (x.crc=crcN 0 (n8 x.f.bytes))
def Fc (b:List Nat):Nat:=
 if 12000<b.length then 2
 else match Ce (b.length+1) b with
  |none=>7
  |some l=>if Ej (l.map En.f)≠0\/Ca l≠b then 7 else if Mq l=false then 10 else 0
def Dp (b:List Nat):List Fl:=if Fc b≠0 then []else ((Ce (b.length+1) b).getD []).map En.f
theorem Ze {b:List Nat}(h:Fc b=0):∃l,Ce (b.length+1) b=some l/\Ej (l.map En.f)=0/\Ca l=b/\Mq l=true/\Dp b=l.map En.f/\b.length<=12000:=by
 have hL:Dp b=((Ce (b.length+1) b).getD []).map En.f:=by unfold Dp;rw[if_neg (by rw[h];decide)]
 unfold Fc at h
 split at h
 . cases h
 . rename_i hb
   cases he:Ce (b.length+1) b with
   |none=>rw[he]at h;cases h
   |some l=>
    rw[he]at h hL;dsimp only at h
    split at h
    . cases h
    . rename_i hc
      split at h
      . cases h
      . rename_i hs
        refine⟨l,rfl, ?_, ?_, ?_,hL,by omega⟩
        . by_cases e:Ej (l.map En.f)=0
          . exact e
          . exact absurd (.inl e) hc
        . by_cases e:Ca l=b
          . exact e
          . exact absurd (.inr e) hc
        . cases e:Mq l
          . exact absurd e hs
          . rfl
theorem Zf (l:List En)(h:∀x∈l,EOk x)(hc:Ej (l.map En.f)=0)(hs:Mq l=true)(hn:(Ca l).length<=12000):Fc (Ca l)=0/\Dp (Ca l)=l.map En.f:=by
 have he:Ce ((Ca l).length+1) (Ca l)=some l:=by
  have:=Zcw l h [] (Zh5 l)
  rwa [List.append_nil]at this
 have h0:Fc (Ca l)=0:=by
  unfold Fc;rw[if_neg (by omega),he];dsimp only;rw[if_neg (by intro hh;rcases hh with hh|hh;exact hh hc;exact hh rfl),if_neg (by rw[hs];decide)]
 refine⟨h0, ?_⟩;unfold Dp;rw[if_neg (by rw[h0];decide),he];rfl
end Go.Proofs.YtcjbgpacnkilnagGreatDoor
namespace Go.Proofs.YtcjbgpacnkilnagGreatDoor
open Go.RowKit
set_option linter.unusedVariables false
theorem Z3s {w w':World}(h:Below w.heap.size w w'):w.grownBy w' none:=⟨h.os,h.tape,h.output,h.size,fun k hk _=>h.block k hk⟩
theorem Zo {w w':World}{B e size n:Nat}{v:Value}{xs:List Value}(h:w.ownsRow B e size v n xs)(hg:Below w.heap.size w w'):w'.ownsRow B e size v n xs:=
 h.kept (Z3s hg) (by cases hv:v.ownBlock with
  |none=>exact .inl rfl
  |some k=>exact .inr (by simp))
end Go.Proofs.YtcjbgpacnkilnagGreatDoor
