import Derived.Test.YtcjbgpacnkilnaiGreatDoorQ6
import Derived.Test.YtcjbgpacnkilnaiGreatDoorQ10
import Derived.Test.YtcjbgpacnkilnaiGreatDoorQ2
import Derived.Test.YtcjbgpacnkilnaiGreatDoorQ3
import Derived.Test.YtcjbgpacnkilnaiGreatDoorQ0
namespace Go.Proofs.YtcjbgpacnkilnaiGreatDoor
set_option linter.unusedVariables false
set_option maxRecDepth 100000
theorem Zgy:Good Qr:=Cn (by decide+kernel)
theorem Zgw:Good Jg:=Cn (by decide+kernel)
theorem Sw {row:List Bool}:∀ {ks:List Nat} {s:List Int} {u:US},(usmall row ks s u).2.e=0->u.p<=row.length->u.p<=(usmall row ks s u).2.p/\(usmall row ks s u).2.p<=row.length/\(usmall row ks s u).2.out=u.out/\(usmall row ks s u).2.ks=u.ks
 | [],s,u,h,hp=>⟨Nat.le_refl _,hp,rfl,rfl⟩
 |k::r,s,u,h,hp=>by
  rw[usmall]at h ⊢;have h1:=Mn h;obtain⟨q1,q2,q3,q4,_⟩:=Gn (r:=(uget row 3 u).1) (v:=(uget row 3 u).2) rfl h1;obtain⟨i1,i2,i3,i4⟩:=Sw h q2;exact⟨by omega,i2,i3.trans q3,i4.trans q4⟩
theorem Z73 {row:List Bool}{l:List Int}{k:Nat}{u:US}(h:(ukind row l k u).2.2.e=0)(hp:u.p<=row.length):u.p<=(ukind row l k u).2.2.p/\(ukind row l k u).2.2.p<=row.length/\(ukind row l k u).2.2.out=u.out/\(ukind row l k u).2.2.ks=u.ks:=by
 have key:∀n,(uget row n u).2.e=0->u.p<=(uget row n u).2.p/\(uget row n u).2.p<=row.length/\(uget row n u).2.out=u.out/\(uget row n u).2.ks=u.ks:=fun n hn=>by
  obtain⟨q1,q2,q3,q4,_⟩:=Gn (r:=(uget row n u).1) (v:=(uget row n u).2) rfl hn;exact⟨by omega,q2,q3,q4⟩
 unfold ukind at h ⊢
 split
 . rename_i h16
   rw[if_pos h16]at h
   split
   . rename_i h0
     rw[if_pos h0]at h;exact absurd h (Gm (by decide))
   . rename_i h0
     rw[if_neg h0]at h;exact key 2 h
 . rename_i h16
   rw[if_neg h16]at h
   split
   . rename_i h17
     rw[if_pos h17]at h;exact key 3 h
   . rename_i h17
     rw[if_neg h17]at h
     split
     . rename_i h18
       rw[if_pos h18]at h;exact key 7 h
     . exact⟨Nat.le_refl _,hp,rfl,rfl⟩
theorem Z71 {row:List Bool}{small:List Int}{tot:Nat}:∀ {F:Nat} {l:List Int} {u:US},(ulens row small tot F l u).2.e=0->u.p<=row.length->u.p<=(ulens row small tot F l u).2.p/\(ulens row small tot F l u).2.p<=row.length/\(ulens row small tot F l u).2.out=u.out/\(ulens row small tot F l u).2.ks=u.ks
 |0,l,u,h,hp=>⟨Nat.le_refl _,hp,rfl,rfl⟩
 |F+1,l,u,h,hp=>by
  by_cases hc:l.length<tot/\u.e=0
  . obtain⟨r,e⟩:=Iq hc.1 hc.2 h;rw[e,r.st]at h ⊢;simp only at h ⊢
    obtain⟨a1,a2,a3,a4,_,_⟩:=Ns (k:=(uplace small row u).1) (v:=(uplace small row u).2) rfl r.pe;obtain⟨b1,b2,b3,b4⟩:=Z73 r.ke a2;obtain⟨i1,i2,i3,i4⟩:=Z71 h b2;exact⟨by omega,i2,i3.trans (b3.trans a3),i4.trans (b4.trans a4)⟩
  . rw[ulens,if_neg hc];exact⟨Nat.le_refl _,hp,rfl,rfl⟩
theorem Z6v {row:List Bool}{u v u1 u2 u3 us:US}{m0 n0 c0:Nat}{S L A C:List Int}(h:Told row u m0 n0 c0 u1 u2 u3 us S L A C v)(hp:u.p<=row.length):u.p+1<=v.p/\v.p<=row.length/\v.out=u.out/\v.ks=u.ks:=by
 obtain⟨a1,a2,a3,a4,ae⟩:=Gn h.g3 h.e3;obtain⟨b1,b2,b3,b4,be⟩:=Gn h.g2 ae;obtain⟨c1,c2,c3,c4,_⟩:=Gn h.g1 be;have s:=Sw (row:=row) (ks:=ord19.take (c0+4)) (s:=List.replicate 19 0) (u:=u3) (by rw[h.sm];exact h.es) a2;rw[h.sm]at s;obtain⟨s1,s2,s3,s4⟩:=s;have t:=Z71 (row:=row) (small:=S) (tot:=m0+257+(n0+1)) (F:=m0+257+(n0+1)) (l:= []) (u:=us) (by rw[h.ln];exact h.ev) s2;rw[h.ln]at t;obtain⟨t1,t2,t3,t4⟩:=t;simp only at s1 s2 s3 s4 t1 t2 t3 t4
 exact⟨by omega,t2,by rw[t3,s3,a3,b3,c3],by rw[t4,s4,a4,b4,c4]⟩
theorem Mm {row:List Bool}:∀ {k:Nat} {u:US},(Bp row k u).e=0->u.e=0
 |0,u,h=>h
 |k+1,u,h=>by
  rw[Bp]at h
  by_cases e:u.e=0
  . exact e
  . rw[if_neg e]at h;exact h
theorem Vm {row:List Bool}:∀ {k:Nat} {u:US},(Bp row k u).e=0->(Bp row k u).ks=u.ks
 |0,u,h=>rfl
 |k+1,u,h=>by
  have he:=Mm h;rw[Bp,if_pos he]at h ⊢;obtain⟨r,y,hg⟩:∃r y,uget row 8 u=(r,y):=⟨_,_,rfl⟩
  rw[hg]at h ⊢;obtain⟨h1,_,h3⟩:=Z6z (Mm h);rw[Vm h,h3];exact(Gn hg h1).2.2.2.1
theorem Z22 {row:List Bool}:∀ {k:Nat} {u:US},(Bp row k u).e=0->u.p<=row.length->u.p<=(Bp row k u).p/\(Bp row k u).p<=row.length/\(u.out.length<=3000->(Bp row k u).out.length<=3000)
 |0,u,h,hp=>⟨Nat.le_refl _,hp,fun h=>h⟩
 |k+1,u,h,hp=>by
  have he:=Mm h;rw[Bp,if_pos he]at h ⊢;obtain⟨r,y,hg⟩:∃r y,uget row 8 u=(r,y):=⟨_,_,rfl⟩
  rw[hg]at h ⊢;obtain⟨h1,h2,h3⟩:=Z6z (Mm h);obtain⟨q1,q2,q3,_,_⟩:=Gn hg h1;have ih:=Z22 h (by rw[h3];exact q2);rw[h3]at ih ⊢;refine⟨?_,ih.2.1,fun ho=>ih.2.2 ?_⟩
  . have:=ih.1
    simp only at this ⊢
    omega
  . simp only[List.length_append,List.length_cons,List.length_nil];rw[q3]at h2 ⊢;omega
def Oz (k:Nat)(u:US):US:=if u.e=0 then Vs k u else u
def Dx (row:List Bool)(k:Nat)(u:US):US:=
 if k=0 then Oz 0 (Cu row u)
 else if k=1 then Oz 1 (Hu row Qr Jg (row.length+1) u)
 else if k=2 then (if (Dh row u).2.e≠0 then (Dh row u).2 else Oz 2 (Hu row (Dh row u).1.1 (Dh row u).1.2 (row.length+1) (Dh row u).2))
 else {u with e:=4}
def Ca (row:List Bool)(u:US):Nat×US:=
 if (uget row 1 u).2.e≠0 then (1,(uget row 1 u).2)
 else if (uget row 2 (uget row 1 u).2).2.e≠0 then (1,(uget row 2 (uget row 1 u).2).2)
 else ((uget row 1 u).1,Dx row (uget row 2 (uget row 1 u).2).1 (uget row 2 (uget row 1 u).2).2)
def Ch (row:List Bool):Nat->US->US
 |0,u=>u
 |f+1,u=>if (Ca row u).1=0/\(Ca row u).2.e=0 then Ch row f (Ca row u).2 else (Ca row u).2
def Dj (row:List Bool):US:=Ch row (row.length+1) US0
structure Ahd (row:List Bool)(u v:US):Prop where
 ks:v.ks=u.ks
 ge:u.p<=v.p
 le:v.p<=row.length
 out:v.out.length<=3000
theorem Ahd.trans {row:List Bool}{u v x:US}(h:Ahd row u v)(k:Ahd row v x):Ahd row u x:=⟨k.ks.trans h.ks,Nat.le_trans h.ge k.ge,k.le,k.out⟩
theorem Sz (row:List Bool)(n:Nat)(u:US)(hp:u.p<=row.length)(ho:u.out.length<=3000):Ahd row u (uget row n u).2:=⟨Gy _ _ _,Z02 _ _ _,Fo _ _ _ hp,by rw[Eh];exact ho⟩
theorem Qz (l:List Int)(row:List Bool)(u:US)(hp:u.p<=row.length)(ho:u.out.length<=3000):Ahd row u (uplace l row u).2:=by
 obtain⟨h1,h2,h3⟩:=Fh l row u;exact⟨h2,h3,Hk l row u hp,by rw[h1];exact ho⟩
theorem Z97 (row:List Bool)(lb:List Int)(k:Nat)(u:US)(hp:u.p<=row.length)(ho:u.out.length<=3000)(h:(Cy row lb k u).e=0):Ahd row u (Cy row lb k u):=by
 unfold Cy at h ⊢
 split
 . rename_i c1
   rw[if_pos c1]at h
   split
   . rename_i c2
     rw[if_pos c2]at h;exact absurd (show (2:Int)=0 from h) (by decide)
   . refine⟨rfl,Nat.le_refl _,hp, ?_⟩;simp only[List.length_append,List.length_cons,List.length_nil];omega
 . rename_i c1
   rw[if_neg c1]at h
   split
   . rename_i c2
     rw[if_pos c2]at h;exact absurd (show (8:Int)=0 from h) (by decide)
   . rename_i c2
     rw[if_neg c2]at h
     split
     . rename_i c3
       rw[if_pos c3]at h;exact absurd h c3
     . rename_i c3
       rw[if_neg c3]at h;have a1:=Sz row (Cv k).2 u hp ho;generalize uget row (Cv k).2 u=g at*
       split
       . rename_i c4
         rw[if_pos c4]at h;exact absurd h c4
       . rename_i c4
         rw[if_neg c4]at h;obtain⟨b1,b2,b3,b4⟩:=Sc row lb g.2 a1.le;have a2:Ahd row g.2 (Pa row lb g.2).2:=⟨b2,b3,b4,by rw[b1];exact a1.out⟩
         generalize Pa row lb g.2=q at*;obtain⟨d1,d2,d3⟩:=Pc _ _ _ h;exact(a1.trans a2).trans ⟨d2,by omega,by rw[d1];exact a2.le,d3 a2.out⟩
theorem Lh (row:List Bool)(la lb:List Int)(f:Nat)(u:US):Hu row la lb (f+1) u=if (uplace la row u).2.e≠0 then (uplace la row u).2 else if (uplace la row u).1=256 then (uplace la row u).2 else if (Cy row lb (uplace la row u).1 (uplace la row u).2).e≠0 then Cy row lb (uplace la row u).1 (uplace la row u).2 else Hu row la lb f (Cy row lb (uplace la row u).1 (uplace la row u).2):=by
 unfold Hu;rw[Z50]
theorem Ht (row:List Bool)(la lb:List Int):∀(f:Nat) (u:US),u.p<=row.length->u.out.length<=3000->(Hu row la lb f u).e=0->Ahd row u (Hu row la lb f u)
 |0,u,hp,ho,h=>by
  have a1:=Qz la row u hp ho;unfold Hu
  split
  . exact a1
  . exact a1
 |f+1,u,hp,ho,h=>by
  have a1:=Qz la row u hp ho;rw[Lh]at h ⊢;generalize uplace la row u=r at*
  split
  . exact a1
  . rename_i c1
    rw[if_neg c1]at h
    split
    . exact a1
    . rename_i c2
      rw[if_neg c2]at h
      split
      . rename_i c3
        rw[if_pos c3]at h;exact absurd h c3
      . rename_i c3
        rw[if_neg c3]at h;have a2:=Z97 row lb r.1 r.2 a1.le a1.out (by omega);exact(a1.trans a2).trans (Ht row la lb f _ a2.le a2.out h)
theorem Z0y (row:List Bool)(u:US)(hp:(u.p+7)/8*8<=row.length)(ho:u.out.length<=3000)(h:(Cu row u).e=0):Ahd row u (Cu row u):=by
 obtain⟨r1,v1,h1⟩:∃r1 v1,uget row 16 {u with p:=(u.p+7)/8*8}=(r1,v1):=⟨_,_,rfl⟩
 obtain⟨r2,v2,h2⟩:∃r2 v2,uget row 16 v1=(r2,v2):=⟨_,_,rfl⟩
 have a1:=Sz row 16 {u with p:=(u.p+7)/8*8} hp ho;rw[h1]at a1;have a2:=Sz row 16 v1 a1.le a1.out;rw[h2]at a2;rw[Sa row u v1 v2 _ r1 r2 rfl h1 h2]at h ⊢
 split
 . rename_i c
   rw[if_pos c]at h;exact absurd h c
 . rename_i c
   rw[if_neg c]at h
   split
   . rename_i c2
     rw[if_pos c2]at h;exact absurd (show (4:Int)=0 from h) (by decide)
   . rename_i c2
     rw[if_neg c2]at h
     split
     . rename_i c3
       rw[if_pos c3]at h;exact absurd (show (2:Int)=0 from h) (by decide)
     . rename_i c3
       rw[if_neg c3]at h;obtain⟨s1,s2,s3⟩:=Z22 h a2.le;have hge:=a1.ge;have hge2:=a2.ge;simp only at hge hge2
       exact⟨(Vm h).trans (a2.ks.trans a1.ks),by omega,s2,s3 a2.out⟩
theorem Vh (x:Int)(u:US):(Be x u).p=u.p/\(Be x u).out=u.out/\(Be x u).ks=u.ks:=by
 unfold Be
 split<;>exact⟨rfl,rfl,rfl⟩
theorem Vi (row:List Bool)(u:US)(hp:u.p<=row.length)(ho:u.out.length<=3000)(h:(Dh row u).2.e=0):Ahd row u (Dh row u).2:=by
 obtain⟨A,C,v,hv⟩:∃A C v,Dh row u=((A,C),v):=⟨_,_,_,rfl⟩
 rw[hv]at h ⊢;obtain⟨m0,n0,c0,u1,u2,u3,us,S,L,hT⟩:=Qw hv h;obtain⟨t1,t2,t3,t4⟩:=Z6v hT hp;exact⟨t4,by show u.p<=v.p;omega,t2,by show v.out.length<=3000;rw[t3];exact ho⟩
theorem Z9f (row:List Bool)(q:Nat)(hq:row.length=8*q)(k:Nat)(u:US)(hp:u.p<=row.length)(ho:u.out.length<=3000)(h:(Dx row k u).e=0):k<=2/\(Dx row k u).ks=u.ks++ [k]/\u.p<=(Dx row k u).p/\(Dx row k u).p<=row.length/\(Dx row k u).out.length<=3000:=by
 have key:∀(j:Nat) (x:US),(Oz j x).e=0->x.e=0/\Oz j x=Vs j x:=fun j x hx=>by
  unfold Oz at hx ⊢
  by_cases c:x.e=0
  . exact⟨c,by rw[if_pos c]⟩
  . rw[if_neg c]at hx;exact absurd hx c
 unfold Dx at h ⊢
 split
 . rename_i c
   subst c;rw[if_pos rfl]at h;obtain⟨k1,k2⟩:=key _ _ h;have a:=Z0y row u (by omega) ho k1;rw[k2];exact⟨by decide,by show _++ [0]=_;rw[a.ks],a.ge,a.le,a.out⟩
 . rename_i c
   rw[if_neg c]at h
   split
   . rename_i c1
     subst c1;rw[if_pos rfl]at h;obtain⟨k1,k2⟩:=key _ _ h;have a:=Ht row Qr Jg _ u hp ho k1;rw[k2];exact⟨by decide,by show _++ [1]=_;rw[a.ks],a.ge,a.le,a.out⟩
   . rename_i c1
     rw[if_neg c1]at h
     split
     . rename_i c2
       subst c2;rw[if_pos rfl]at h
       split
       . rename_i c3
         rw[if_pos c3]at h;exact absurd h c3
       . rename_i c3
         rw[if_neg c3]at h;obtain⟨k1,k2⟩:=key _ _ h;have a0:=Vi row u hp ho (by omega);have a:=a0.trans (Ht row _ _ _ _ a0.le a0.out k1);rw[k2];exact⟨by decide,by show _++ [2]=_;rw[a.ks],a.ge,a.le,a.out⟩
     . rename_i c2
       rw[if_neg c2]at h;exact absurd (show (4:Int)=0 from h) (by decide)
theorem Ii (row:List Bool)(q:Nat)(hq:row.length=8*q)(u:US)(he:u.e=0)(hp:u.p<=row.length)(ho:u.out.length<=3000)(h:(Ca row u).2.e=0):(Ca row u).2.ks.length=u.ks.length+1/\u.p+3<=(Ca row u).2.p/\(Ca row u).2.p<=row.length/\(Ca row u).2.out.length<=3000:=by
 unfold Ca at h ⊢
 split
 . rename_i c
   rw[if_pos c]at h;exact absurd h c
 . rename_i c
   rw[if_neg c]at h
   split
   . rename_i c2
     rw[if_pos c2]at h;exact absurd h c2
   . rename_i c2
     rw[if_neg c2]at h;obtain⟨r1,v1,h1⟩:∃r1 v1,uget row 1 u=(r1,v1):=⟨_,_,rfl⟩
     rw[h1]at c c2 h ⊢;obtain⟨r2,v2,h2⟩:∃r2 v2,uget row 2 v1=(r2,v2):=⟨_,_,rfl⟩
     simp only at c c2 h ⊢
     rw[h2]at c2 h ⊢;simp only at c2 h ⊢
     obtain⟨q1,q2,q3,q4,_⟩:=Gn h1 (by omega);obtain⟨s1,s2,s3,s4,_⟩:=Gn h2 (by omega);obtain⟨t1,t2,t3,t4,t5⟩:=Z9f row q hq r2 v2 s2 (by rw[s3,q3];exact ho) h;exact⟨by rw[t2,s4,q4,List.length_append];rfl,by omega,t4,t5⟩
end Go.Proofs.YtcjbgpacnkilnaiGreatDoor
namespace Go.Proofs.YtcjbgpacnkilnaiGreatDoor
set_option linter.unusedVariables false
def n8 (l:List UInt8):List Nat:=l.map UInt8.toNat
def o8 (l:List Nat):List UInt8:=l.map UInt8.ofNat
theorem Fm (l:List UInt8):(n8 l).length=l.length:=by simp[n8]
theorem Jw (l:List Nat):(o8 l).length=l.length:=by simp[o8]
theorem Ly (l:List UInt8):∀x∈n8 l,x<256:=by
 intro x hx;obtain⟨y,_,rfl⟩:=List.mem_map.1 hx;exact y.toNat_lt
theorem Zcx (l:List UInt8):o8 (n8 l)=l:=by simp[o8,n8,Function.comp_def]
theorem Zjn {l:List Nat}(h:∀x∈l,x<256):n8 (o8 l)=l:=by
 unfold n8 o8;rw[List.map_map]
 conv=>rhs;rw[<-List.map_id l]
 apply List.map_congr_left
 intro x hx;have:=h x hx
 simp
 omega
theorem Dm {l:List Nat}(h:∀x∈l,x<256)(j:Nat):l.getD j 0<256:=by
 by_cases hk:j<l.length
 . have e:l.getD j 0=l[j]:=by simp[List.getD,hk]
   rw[e];exact h _ (List.getElem_mem hk)
 . simp[List.getD,hk]
theorem Z3c {l:List Nat}(h:∀j,l.getD j 0<256):∀x∈l,x<256:=by
 intro x hx;obtain⟨j,hj,rfl⟩:=List.getElem_of_mem hx;have:=h j
 simpa[List.getD,hj]using this
structure En where
 f:Fl
 meth:Nat
 pk:List Nat
 crc:Nat
def Z14 (b:Bool):Nat:=if b then 1 else 0
def Xk (x:En):List Nat:=Az 20 2++Az 0 2++Az x.meth 2++Az 0 4++Az x.crc 4++Az x.pk.length 4++Az x.f.bytes.length 4++Az x.f.name.length 2++Az 11 2
def Yp (x:En):List Nat:=Az 29297 2++Az 7 2++Az x.f.stamp.toNat 4++Az x.f.node.toNat 2++Az (Z14 x.f.gone) 1
def Zv (x:En):List Nat:=Az 67324752 4++Xk x++n8 x.f.name++Yp x++x.pk
def Zce (x:En)(p:Nat):List Nat:=Az 33639248 4++Az 20 2++Xk x++Az 0 10++Az p 4++n8 x.f.name++Yp x
def Bd:List En->List Nat
 | []=> []
 |x::r=>Zv x++Bd r
def Bf:Nat->List En->List Nat
 |_,[]=> []
 |p,x::r=>Zce x p++Bf (p+(Zv x).length) r
def Z6k (n size at_:Nat):List Nat:=Az 101010256 4++Az 0 4++Az n 2++Az n 2++Az size 4++Az at_ 4++Az 0 2
def Bt (l:List En):List Nat:=Bd l++Bf 0 l++Z6k l.length (Bf 0 l).length (Bd l).length
theorem Mw (x:En):(Xk x).length=26:=by simp[Xk,Aj]
theorem Nf (x:En):(Yp x).length=11:=by simp[Yp,Aj]
theorem Nc (x:En):(Zv x).length=41+x.f.name.length+x.pk.length:=by simp[Zv,Aj,Mw,Nf,Fm];omega
theorem Tg (x:En)(p:Nat):(Zce x p).length=57+x.f.name.length:=by simp[Zce,Aj,Mw,Nf,Fm];omega
theorem Z3l (n s a:Nat):(Z6k n s a).length=22:=by simp[Z6k,Aj]
theorem Z3a:∀(a b:List En),Bd (a++b)=Bd a++Bd b
 | [],b=>rfl
 |x::a,b=>by rw[List.cons_append,Bd,Z3a a b,Bd,List.append_assoc]
theorem Vy:∀(a b:List En) (p:Nat),Bf p (a++b)=Bf p a++Bf (p+(Bd a).length) b
 | [],b,p=>by simp[Bf,Bd]
 |x::a,b,p=>by rw[List.cons_append,Bf,Vy a b,Bf,Bd,List.append_assoc,List.length_append,Nat.add_assoc]
theorem Cq {a b:List Nat}(ha:∀x∈a,x<256)(hb:∀x∈b,x<256):∀x∈a++b,x<256:=by
 intro x hx
 rcases List.mem_append.1 hx with h|h
 . exact ha x h
 . exact hb x h
theorem Z2x (x:En):∀y∈Xk x,y<256:=by
 unfold Xk
 repeat first|apply Ds|apply Cq
theorem Z3f (x:En):∀y∈Yp x,y<256:=by
 unfold Yp
 repeat first|apply Ds|apply Cq
theorem Zdp (x:En)(h:∀y∈x.pk,y<256):∀y∈Zv x,y<256:=by
 unfold Zv;exact Cq (Cq (Cq (Cq (Ds _ _) (Z2x x)) (Ly _)) (Z3f x)) h
theorem Zcd (x:En)(p:Nat):∀y∈Zce x p,y<256:=by
 unfold Zce;exact Cq (Cq (Cq (Cq (Cq (Cq (Ds _ _) (Ds _ _)) (Z2x x)) (Ds _ _)) (Ds _ _)) (Ly _)) (Z3f x)
theorem Z39:∀(l:List En),(∀x∈l,∀y∈x.pk,y<256)->∀y∈Bd l,y<256
 | [],_=>fun y hy=>by cases hy
 |x::r,h=>Cq (Zdp x (h x (by simp))) (Z39 r (fun z hz=>h z (List.mem_cons_of_mem _ hz)))
theorem Vx:∀(l:List En) (p:Nat),∀y∈Bf p l,y<256
 | [],_=>fun y hy=>by cases hy
 |x::r,p=>Cq (Zcd x p) (Vx r _)
theorem Ze2 (n s a:Nat):∀y∈Z6k n s a,y<256:=by
 unfold Z6k
 repeat first|apply Ds|apply Cq
theorem Vb (l:List En)(h:∀x∈l,∀y∈x.pk,y<256):∀y∈Bt l,y<256:=Cq (Cq (Z39 l h) (Vx l 0)) (Ze2 _ _ _)
def Dg (k:Nat)(r:List Nat):Option (List Nat×List Nat):=if r.length<k then none else some (r.take k,r.drop k)
theorem Bc (a r:List Nat){k:Nat}(h:a.length=k):Dg k (a++r)=some (a,r):=by
 unfold Dg;rw[if_neg (by rw[List.length_append];omega),List.take_left' h,List.drop_left' h]
theorem Nb (n k:Nat)(r:List Nat):Dg k (Az n k++r)=some (Az n k,r):=Bc _ _ (Aj k n)
theorem Yf {k:Nat}{r a q:List Nat}(h:Dg k r=some (a,q)):r=a++q/\a.length=k:=by
 unfold Dg at h
 split at h
 . cases h
 . rename_i hk
   simp only[Option.some.injEq,Prod.mk.injEq]at h;obtain⟨rfl,rfl⟩:=h;exact⟨(List.take_append_drop _ _).symm,by rw[List.length_take];omega⟩
theorem Al {β:Type}{k:Nat}{r:List Nat}{f:List Nat×List Nat->Option β}{y:β}(h:(Dg k r).bind f=some y):
 ∃a q,r=a++q/\a.length=k/\f (a,q)=some y:=by
 cases hg:Dg k r with
 |none=>rw[hg]at h;cases h
 |some p=>rw[hg]at h;exact⟨p.1,p.2,(Yf hg).1,(Yf hg).2,h⟩
def unpF (m:Nat)(pk:List Nat):Option (List Nat):=
 if m=0 then some pk
 else if m=8 then (if pk.length<=6000/\(Dj (rowB pk pk.length)).e=0/\((Dj (rowB pk pk.length)).p+7)/8=pk.length then some (Dj (rowB pk pk.length)).out else none)
 else none
def Eo (r:List Nat):Option (En×List Nat):=
 (Dg 4 r).bind fun a1=>(Dg 2 a1.2).bind fun a2=>(Dg 4 a2.2).bind fun a3=>(Dg 4 a3.2).bind fun a4=>(Dg 4 a4.2).bind fun a5=>
 (Dg 4 a5.2).bind fun a6=>(Dg 2 a6.2).bind fun a7=>(Dg 2 a7.2).bind fun a8=>(Dg (Ah a7.1) a8.2).bind fun a9=>(Dg 4 a9.2).bind fun a10=>
 (Dg 4 a10.2).bind fun a11=>(Dg 2 a11.2).bind fun a12=>(Dg 1 a12.2).bind fun a13=>(Dg (Ah a5.1) a13.2).bind fun a14=>
 (unpF (Ah a2.1) a14.1).bind fun b=>some (⟨⟨o8 a9.1,o8 b,(Ah a11.1:Nat),(Ah a12.1:Nat),decide (Ah a13.1=1)⟩,Ah a2.1,a14.1,Ah a4.1⟩,a14.2)
def Bw:Nat->List Nat->Option (List En)
 |0,_=>none
 |F+1,r=>(Dg 4 r).bind fun m=>if Ah m.1=67324752 then (Eo m.2).bind fun x=>(Bw F x.2).map (x.1:: ·)else some []
theorem Po {r:List Nat}{x:En}{q:List Nat}(h:Eo r=some (x,q)):
 q.length+37<=r.length/\((∀z∈r,z<256)->(∀z∈x.pk,z<256)/\∀z∈q,z<256)/\∀t,Eo (r++t)=some (x,q++t):=by
 unfold Eo at h;obtain⟨a1,r1,rfl,l1,h⟩:=Al h;dsimp only at h;obtain⟨a2,r2,rfl,l2,h⟩:=Al h;dsimp only at h;obtain⟨a3,r3,rfl,l3,h⟩:=Al h;dsimp only at h;obtain⟨a4,r4,rfl,l4,h⟩:=Al h;dsimp only at h;obtain⟨a5,r5,rfl,l5,h⟩:=Al h;dsimp only at h;obtain⟨a6,r6,rfl,l6,h⟩:=Al h;dsimp only at h;obtain⟨a7,r7,rfl,l7,h⟩:=Al h;dsimp only at h;obtain⟨a8,r8,rfl,l8,h⟩:=Al h;dsimp only at h;obtain⟨a9,r9,rfl,l9,h⟩:=Al h;dsimp only at h;obtain⟨a10,r10,rfl,l10,h⟩:=Al h;dsimp only at h;obtain⟨a11,r11,rfl,l11,h⟩:=Al h;dsimp only at h;obtain⟨a12,r12,rfl,l12,h⟩:=Al h;dsimp only at h;obtain⟨a13,r13,rfl,l13,h⟩:=Al h;dsimp only at h;obtain⟨a14,r14,rfl,l14,h⟩:=Al h;dsimp only at h
 cases hu:unpF (Ah a2) a14 with
 |none=>rw[hu]at h;cases h
 |some b=>
  rw[hu]at h;simp only[Option.bind_some,Option.some.injEq,Prod.mk.injEq]at h;obtain⟨rfl,rfl⟩:=h;refine⟨?_,fun hv=>⟨fun z hz=>hv z (by simp[hz]),fun z hz=>hv z (by simp[hz])⟩,fun t=> ?_⟩
  . simp only[List.length_append];omega
  . unfold Eo;simp only[List.append_assoc];rw[Bc _ _ l1,Option.bind_some];dsimp only;rw[Bc _ _ l2,Option.bind_some];dsimp only;rw[Bc _ _ l3,Option.bind_some];dsimp only;rw[Bc _ _ l4,Option.bind_some];dsimp only;rw[Bc _ _ l5,Option.bind_some];dsimp only;rw[Bc _ _ l6,Option.bind_some];dsimp only;rw[Bc _ _ l7,Option.bind_some];dsimp only;rw[Bc _ _ l8,Option.bind_some];dsimp only;rw[Bc _ _ l9,Option.bind_some];dsimp only;rw[Bc _ _ l10,Option.bind_some];dsimp only;rw[Bc _ _ l11,Option.bind_some];dsimp only;rw[Bc _ _ l12,Option.bind_some];dsimp only;rw[Bc _ _ l13,Option.bind_some];dsimp only;rw[Bc _ _ l14,Option.bind_some];dsimp only;rw[hu];rfl
theorem Z5q:∀ {F:Nat} {r:List Nat} {l:List En},Bw F r=some l->∀t,Bw F (r++t)=some l
 |0,r,l,h,t=>by cases h
 |F+1,r,l,h,t=>by
  unfold Bw at h ⊢;obtain⟨m,q,rfl,hl,h⟩:=Al h;dsimp only at h;rw[List.append_assoc,Bc _ _ hl,Option.bind_some];dsimp only
  split at h
  . rename_i hm
    rw[if_pos hm]
    cases he:Eo q with
    |none=>rw[he]at h;cases h
    |some p=>
     rw[he]at h;rw[(Po (x:=p.1) (q:=p.2) he).2.2 t,Option.bind_some];simp only[Option.bind_some,Option.map_eq_some_iff]at h ⊢;obtain⟨l2,h1,h2⟩:=h;exact⟨l2,Z5q h1 t,h2⟩
  . rename_i hm
    rw[if_neg hm];exact h
theorem Yt:∀ {F:Nat} {r:List Nat} {l:List En},Bw F r=some l->(∀z∈r,z<256)->∀x∈l,∀z∈x.pk,z<256
 |0,r,l,h,_=>by cases h
 |F+1,r,l,h,hv=>by
  unfold Bw at h;obtain⟨m,q,rfl,hl,h⟩:=Al h;dsimp only at h
  split at h
  . cases he:Eo q with
    |none=>rw[he]at h;cases h
    |some p=>
     rw[he]at h;simp only[Option.bind_some,Option.map_eq_some_iff]at h;obtain⟨l2,h1,rfl⟩:=h;have h2:=(Po (x:=p.1) (q:=p.2) he).2.1 (fun z hz=>hv z (by simp[hz]));intro x hx
     rcases List.mem_cons.1 hx with rfl|hx
     . exact h2.1
     . exact Yt h1 h2.2 x hx
  . cases h
    intro x hx
    cases hx
structure EOk (x:En):Prop where
 st:0<=x.f.stamp/\x.f.stamp<4294967296
 nd:0<=x.f.node/\x.f.node<65536
 nm:x.f.name.length<65536
 pl:x.pk.length<4294967296
 cr:x.crc<4294967296
 mt:x.meth<65536
 un:unpF x.meth x.pk=some (n8 x.f.bytes)
theorem Ze1 (x:En)(h:EOk x)(t:List Nat):Eo (Xk x++n8 x.f.name++Yp x++x.pk++t)=some (x,t):=by
 have e:Xk x++n8 x.f.name++Yp x++x.pk++t=(Az 20 2++Az 0 2)++(Az x.meth 2++(Az 0 4++(Az x.crc 4++(Az x.pk.length 4++(Az x.f.bytes.length 4++(Az x.f.name.length 2++(Az 11 2++(n8 x.f.name++((Az 29297 2++Az 7 2)++(Az x.f.stamp.toNat 4++(Az x.f.node.toNat 2++(Az (Z14 x.f.gone) 1++(x.pk++t))))))))))))):=by
  simp only[Xk,Yp,List.append_assoc]
 obtain⟨⟨st0,st1⟩,⟨nd0,nd1⟩,nm,pl,cr,mt,un⟩:=h;have o1:Ah (Az x.meth 2)=x.meth:=Bz 2 _ mt;have o2:Ah (Az x.crc 4)=x.crc:=Bz 4 _ cr;have o3:Ah (Az x.pk.length 4)=x.pk.length:=Bz 4 _ pl;have o4:Ah (Az x.f.name.length 2)=x.f.name.length:=Bz 2 _ nm;have o5:Ah (Az x.f.stamp.toNat 4)=x.f.stamp.toNat:=Bz 4 _ (by show _<4294967296;omega);have o6:Ah (Az x.f.node.toNat 2)=x.f.node.toNat:=Bz 2 _ (by show _<65536;omega);have o7:Ah (Az (Z14 x.f.gone) 1)=Z14 x.f.gone:=Bz 1 _ (by unfold Z14;split<;>decide);rw[e];unfold Eo;rw[Bc _ _ (show (Az 20 2++Az 0 2).length=4 from rfl)];simp only[Option.bind_some,Nb,o1,o2,o3,o4];rw[Bc _ _ (Fm x.f.name)];simp only[Option.bind_some];rw[Bc _ _ (show (Az 29297 2++Az 7 2).length=4 from rfl)];simp only[Option.bind_some,Nb,o5,o6,o7];rw[Bc _ _ rfl];simp only[Option.bind_some,un,Zcx,Option.some.injEq,Prod.mk.injEq,and_true];have e1:((x.f.stamp.toNat:Nat):Int)=x.f.stamp:=Int.toNat_of_nonneg st0;have e2:((x.f.node.toNat:Nat):Int)=x.f.node:=Int.toNat_of_nonneg nd0;have e3:decide (Z14 x.f.gone=1)=x.f.gone:=by cases x.f.gone<;>rfl
 rw[e1,e2,e3]
theorem Sj:∀(l:List En) {F:Nat} {t:List Nat},(∀x∈l,EOk x)->l.length<F->(∃m q,Dg 4 t=some (m,q)/\Ah m≠67324752)->Bw F (Bd l++t)=some l
 | [],0,t,_,h,_=>by cases h
 | [],F+1,t,_,_,⟨m,q,h1,h2⟩=>by
  unfold Bw;show (Dg 4 t).bind _=_
  rw[h1,Option.bind_some];dsimp only;rw[if_neg h2]
 |x::l,0,t,_,h,_=>by cases h
 |x::l,F+1,t,h,hF,ht=>by
  unfold Bw
  have e:Bd (x::l)++t=Az 67324752 4++(Xk x++n8 x.f.name++Yp x++x.pk++(Bd l++t)):=by
   simp only[Bd,Zv,List.append_assoc]
  have hm:Ah (Az 67324752 4)=67324752:=Bz 4 _ (by decide);rw[e,Nb,Option.bind_some];dsimp only;rw[if_pos hm,Ze1 x (h x (by simp)),Option.bind_some];dsimp only;rw[Sj l (fun y hy=>h y (List.mem_cons_of_mem _ hy)) (by simpa using hF) ht];rfl
theorem Za5 (l:List En)(h:∀x∈l,EOk x)(t:List Nat){F:Nat}(hF:l.length<F):Bw F (Bt l++t)=some l:=by
 unfold Bt;rw[List.append_assoc,List.append_assoc];refine Sj l h hF ?_
 cases l with
 |nil=>
  refine⟨Az 101010256 4,(Z6k 0 0 0).drop 4++t, ?_,by rw[Bz 4 _ (by decide)];decide⟩;exact Bc (Az 101010256 4) ((Z6k 0 0 0).drop 4++t) rfl
 |cons x r=>
  refine⟨Az 33639248 4,Az 20 2++(Xk x++(Az 0 10++(Az 0 4++(n8 x.f.name++(Yp x++(Bf (0+(Zv x).length) r++(Z6k (x::r).length (Bf 0 (x::r)).length (Bd (x::r)).length++t))))))), ?_,by rw[Bz 4 _ (by decide)];decide⟩;rw[<-Nb];simp only[Bf,Zce,List.append_assoc]
theorem Z6i (l:List En):l.length+22<=(Bt l).length:=by
 have:∀l:List En,l.length<=(Bd l).length:=by
  intro l
  induction l with
  |nil=>exact Nat.zero_le _
  |cons x r ih=>rw[Bd,List.length_append,Nc,List.length_cons];omega
 have h:=this l;unfold Bt;rw[List.length_append,List.length_append,Z3l];omega
theorem Zea (l:List En):l.length<(Bt l).length+1:=by
 have:=Z6i l
 omega
def Lc (l:List En):Bool:=l.all fun x=>decide (x.crc=crcN 0 (n8 x.f.bytes))
def Ee (b:List Nat):Nat:=
 if 12000<b.length then 2
 else match Bw (b.length+1) b with
  |none=>7
  |some l=>if Em (l.map En.f)≠0\/Bt l≠b then 7 else if Lc l=false then 10 else 0
def Da (b:List Nat):List Fl:=if Ee b≠0 then []else ((Bw (b.length+1) b).getD []).map En.f
theorem Wt {b:List Nat}(h:Ee b=0):∃l,Bw (b.length+1) b=some l/\Em (l.map En.f)=0/\Bt l=b/\Lc l=true/\Da b=l.map En.f/\b.length<=12000:=by
 have hL:Da b=((Bw (b.length+1) b).getD []).map En.f:=by unfold Da;rw[if_neg (by rw[h];decide)]
 unfold Ee at h
 split at h
 . cases h
 . rename_i hb
   cases he:Bw (b.length+1) b with
   |none=>rw[he]at h;cases h
   |some l=>
    rw[he]at h hL;dsimp only at h
    split at h
    . cases h
    . rename_i hc
      split at h
      . cases h
      . rename_i hs
        refine⟨l,rfl, ?_, ?_, ?_,hL,by omega⟩
        . by_cases e:Em (l.map En.f)=0
          . exact e
          . exact absurd (.inl e) hc
        . by_cases e:Bt l=b
          . exact e
          . exact absurd (.inr e) hc
        . cases e:Lc l
          . exact absurd e hs
          . rfl
theorem Wu (l:List En)(h:∀x∈l,EOk x)(hc:Em (l.map En.f)=0)(hs:Lc l=true)(hn:(Bt l).length<=12000):Ee (Bt l)=0/\Da (Bt l)=l.map En.f:=by
 have he:Bw ((Bt l).length+1) (Bt l)=some l:=by
  have:=Za5 l h [] (Zea l)
  rwa [List.append_nil]at this
 have h0:Ee (Bt l)=0:=by
  unfold Ee;rw[if_neg (by omega),he];dsimp only;rw[if_neg (by intro hh;rcases hh with hh|hh;exact hh hc;exact hh rfl),if_neg (by rw[hs];decide)]
 refine⟨h0, ?_⟩;unfold Da;rw[if_neg (by rw[h0];decide),he];rfl
end Go.Proofs.YtcjbgpacnkilnaiGreatDoor
namespace Go.Proofs.YtcjbgpacnkilnaiGreatDoor
open Go.RowKit
set_option linter.unusedVariables false
theorem Z1m {w w':World}(h:Below w.heap.size w w'):w.grownBy w' none:=⟨h.os,h.tape,h.output,h.size,fun k hk _=>h.block k hk⟩
theorem Xb {w w':World}{B e size n:Nat}{v:Value}{xs:List Value}(h:w.ownsRow B e size v n xs)(hg:Below w.heap.size w w'):w'.ownsRow B e size v n xs:=
 h.kept (Z1m hg) (by cases hv:v.ownBlock with
  |none=>exact .inl rfl
  |some k=>exact .inr (by simp))
end Go.Proofs.YtcjbgpacnkilnaiGreatDoor
