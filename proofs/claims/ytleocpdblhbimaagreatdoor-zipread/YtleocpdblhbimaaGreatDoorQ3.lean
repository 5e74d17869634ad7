import Derived.Test.YtleocpdblhbimaaGreatDoorQ2
import Derived.Laws.BitsAllLaws
set_option linter.unusedSimpArgs false
namespace Go.Proofs.YtleocpdblhbimaaGreatDoor
set_option linter.unusedVariables false
set_option maxRecDepth 100000
def Df (s:Nat):Nat×Nat:=if s=285 then (258,0)else (3+((s-257)-4*((s-257)/4-1))*2^((s-257)/4-1),(s-257)/4-1)
def Dg (s:Nat):Nat×Nat:=(1+(s-2*(s/2-1))*2^(s/2-1),s/2-1)
theorem F7 (s:Nat)(h1:257<=s)(h2:s<=285):Df s=samesL.getD (s-257) (0,0):=by
 have:∀k∈List.range 29,Df (k+257)=samesL.getD k (0,0):=by decide+kernel
 have:=this (s-257) (by simp;omega)
 rwa [Nat.sub_add_cancel h1]at this
theorem F9 (s:Nat)(h2:s<=29):Dg s=farsL.getD s (0,0):=by
 have:∀k∈List.range 30,Dg k=farsL.getD k (0,0):=by decide+kernel
 exact this s (by simp;omega)
def Cl (row:List Bool)(u:US):Nat×US:=
 let n:=uget row 16 {u with p:=(u.p+7)/8*8}
 let t:=uget row 16 n.2
 (n.1,if t.2.e=0/\n.1+t.1≠65535 then Am 4 t.2 else t.2)
def Cj (row:List Bool)(u:US):US:=
 let x:=Cl row u
 if x.2.e=0/\3000<x.2.out.length+x.1 then Am 2 x.2 else ustore row x.1 x.2
theorem Fo (row:List Bool)(k:Nat)(u:US)(h:u.e≠0):ustore row k u=u:=by
 cases k with
 |zero=>rfl
 |succ k=>unfold ustore;rw[if_neg h]
theorem Gr (row:List Bool)(n:Nat)(u:US)(h:u.p<=row.length):(uget row n u).2.p<=row.length:=by
 unfold uget
 split
 . split
   . exact h
   . show u.p+n<=row.length;omega
 . exact h
theorem Cm (row:List Bool)(n:Nat)(u:US):(uget row n u).2.out=u.out:=by
 unfold uget
 split
 . split<;>rfl
 . rfl
theorem Fj (row:List Bool)(n:Nat)(u:US)(h:u.e≠0):(uget row n u).2=u:=by
 unfold uget;rw[if_neg h]
theorem Vj (row:List Bool)(u v1 v2:US)(p' r1 r2:Nat)(hp:(u.p+7)/8*8=p')(h1:uget row 16 {u with p:=p'}=(r1,v1))(h2:uget row 16 v1=(r2,v2)):
 Cj row u=if v2.e≠0 then v2 else if r1+r2≠65535 then {v2 with e:=4}else if 3000<v2.out.length+r1 then {v2 with e:=2}else ustore row r1 v2:=by
 have hx:Cl row u=(r1,if v2.e=0/\r1+r2≠65535 then Am 4 v2 else v2):=by
  simp only[Cl,hp,h1,h2]
 unfold Cj;simp only[hx]
 by_cases e:v2.e=0
 . by_cases e2:r1+r2=65535
   . by_cases e3:3000<v2.out.length+r1
     . simp[e,e2,e3,Am]
     . simp[e,e2,e3]
   . simp[e,e2,Am,Fo]
 . simp[e,Fo]
theorem Ic (row:List Bool)(n:Nat)(u:US):(uget row n u).2.ks=u.ks:=by
 unfold uget
 split
 . split<;>rfl
 . rfl
def Jh (d k:Nat)(u:US):US:=if u.out.length<d then {u with e:=9}else if 3000<u.out.length+k then {u with e:=2}else ucopy d k u
theorem Ro (row:List Bool):∀(k:Nat) (x:US),x.out.length<=3000->3000<x.out.length+k->(ustore row k x).e≠0
 |0,x,h1,h2=>by omega
 |k+1,x,h1,h2=>by
  by_cases e:x.e=0
  . unfold ustore;rw[if_pos e];obtain⟨c,y,hg⟩:∃c y,uget row 8 x=(c,y):=⟨_,_,rfl⟩
    have ho:y.out=x.out:=by have:=Cm row 8 x;rw[hg]at this;exact this
    rw[hg];show (ustore row k (Fd c y)).e≠0
    by_cases e2:y.e=0
    . by_cases e3:y.out.length=3000
      . have:Fd c y= {y with e:=2}:=by unfold Fd;rw[if_pos e2,if_pos e3]
        rw[this,Fo _ _ _ (show (2:Int)≠0 by decide)];exact(by decide:(2:Int)≠0)
      . have:Fd c y= {y with out:=y.out++ [c]}:=by unfold Fd;rw[if_pos e2,if_neg e3]
        rw[this];refine Ro row k _ ?_ ?_
        . show (y.out++ [c]).length<=3000
          rw[VE,ho];rw[ho]at e3;simp only[VJ,WE];omega
        . show 3000<(y.out++ [c]).length+k
          rw[VE,ho];simp only[VJ,WE];omega
    . have:Fd c y=y:=by unfold Fd;rw[if_neg e2]
      rw[this,Fo _ _ _ e2];exact e2
  . rw[Fo _ _ _ e];exact e
theorem GH (row:List Bool)(u:US)(ho:u.out.length<=3000)(h:(ustored row u).e=0):Cj row u=ustored row u:=by
 have hx:ustored row u=ustore row (Cl row u).1 (Cl row u).2:=rfl
 have h1:(Cl row u).2.out=u.out:=by
  unfold Cl;dsimp only
  split
  . unfold Am
    split
    . show (uget row 16 _).2.out=_
      rw[Cm,Cm]
    . rw[Cm,Cm]
  . rw[Cm,Cm]
 unfold Cj;dsimp only;rw[if_neg,hx];rintro ⟨_,h3⟩;rw[hx]at h;exact Ro row _ _ (by rw[h1];exact ho) h3 h
def US0:US:= {p:=0,out:= [],ks:= [],e:=0}
def Me (row:List Bool)(lb:List Int)(u:US):Nat×US:=
 if (uplace lb row u).2.e≠0 then (0,(uplace lb row u).2)
 else if 29<(uplace lb row u).1 then (0,{(uplace lb row u).2 with e:=8})
 else ((Dg (uplace lb row u).1).1+(uget row (Dg (uplace lb row u).1).2 (uplace lb row u).2).1,(uget row (Dg (uplace lb row u).1).2 (uplace lb row u).2).2)
theorem CA (l:List Int)(row:List Bool)(p:Nat)(hp:p<=row.length):∀f n,p+(Ej l row p f n).2.1<=row.length
 |0,n=>by simpa[Ej]using hp
 |f+1,n=>by
  unfold Ej
  split
  . simpa using hp
  . split
    . show p+n<=row.length
      omega
    . exact CA l row p hp f (n+1)
theorem Ix (l:List Int)(row:List Bool)(u:US)(hp:u.p<=row.length):(uplace l row u).2.p<=row.length:=by
 unfold uplace
 split
 . exact CA l row u.p hp 15 1
 . exact hp
def Co (row:List Bool)(lb:List Int)(k:Nat)(u:US):US:=
 if k<256 then (if 3000<u.out.length+1 then {u with e:=2}else {u with out:=u.out++ [k]})
 else if 285<k then {u with e:=8}
 else if (uget row (Df k).2 u).2.e≠0 then (uget row (Df k).2 u).2
 else if (Me row lb (uget row (Df k).2 u).2).2.e≠0 then (Me row lb (uget row (Df k).2 u).2).2
 else Jh (Me row lb (uget row (Df k).2 u).2).1 ((Df k).1+(uget row (Df k).2 u).1) (Me row lb (uget row (Df k).2 u).2).2
def GE (row:List Bool)(la lb:List Int):Nat->Nat->US->US
 |0,_,u=>u
 |f+1,k,u=>if k=256 then u
  else if (Co row lb k u).e≠0 then Co row lb k u
  else if (uplace la row (Co row lb k u)).2.e≠0 then (uplace la row (Co row lb k u)).2
  else GE row la lb f (uplace la row (Co row lb k u)).1 (uplace la row (Co row lb k u)).2
def Hk (row:List Bool)(la lb:List Int)(f:Nat)(u:US):US:=
 if (uplace la row u).2.e≠0 then (uplace la row u).2 else GE row la lb f (uplace la row u).1 (uplace la row u).2
theorem Gm (l:List Int)(row:List Bool)(u:US):(uplace l row u).2.out=u.out/\(uplace l row u).2.ks=u.ks/\u.p<=(uplace l row u).2.p:=by
 unfold uplace
 split
 . exact⟨rfl,rfl,ZS _ _⟩
 . exact⟨rfl,rfl,VB _⟩
theorem R0 (row:List Bool)(n:Nat)(u:US):u.p<=(uget row n u).2.p:=by
 unfold uget
 split
 . split
   . exact VB _
   . exact ZS _ _
 . exact VB _
theorem Vm (row:List Bool)(l:List Int)(u:US)(hp:u.p<=row.length):(Me row l u).2.out=u.out/\(Me row l u).2.ks=u.ks/\u.p<=(Me row l u).2.p/\(Me row l u).2.p<=row.length:=by
 obtain⟨h1,h2,h3⟩:=Gm l row u;have h4:=Ix l row u hp;unfold Me
 split
 . exact⟨h1,h2,h3,h4⟩
 . split
   . exact⟨h1,h2,h3,h4⟩
   . exact⟨(Cm row _ _).trans h1,(Ic row _ _).trans h2,VU h3 (R0 _ _ _),Gr row _ _ h4⟩
theorem Ru (d k:Nat)(u:US)(h:(Jh d k u).e=0):(Jh d k u).p=u.p/\(Jh d k u).ks=u.ks/\(u.out.length<=3000->(Jh d k u).out.length<=3000):=by
 unfold Jh at h ⊢
 split
 . rename_i hc
   rw[if_pos hc]at h;exact absurd (show (9:Int)=0 from h) (by decide)
 . rename_i hc
   rw[if_neg hc]at h
   split
   . rename_i hd
     rw[if_pos hd]at h;exact absurd (show (2:Int)=0 from h) (by decide)
   . rename_i hd
     rw[if_neg hd]at h;exact R2 h
theorem Vg (l:List Int)(row:List Bool)(p:Nat):∀f n,1<=n->(Ej l row p f n).2.2=0->1<=(Ej l row p f n).2.1
 |0,n,_,h=>absurd (show (8:Int)=0 from h) (by decide)
 |f+1,n,hn,h=>by
  unfold Ej at h ⊢
  split
  . rename_i hc
    rw[if_pos hc]at h;exact absurd (show (7:Int)=0 from h) (by decide)
  . rename_i hc
    rw[if_neg hc]at h
    split
    . exact hn
    . rename_i hf
      rw[hf]at h;exact Vg l row p f (n+1) (by omega) h
theorem KE (l:List Int)(row:List Bool)(u:US)(he:u.e=0)(h:(uplace l row u).2.e=0):u.p<(uplace l row u).2.p:=by
 unfold uplace at h ⊢;rw[if_pos he]at h ⊢;have:=Vg l row u.p 15 1 (VB _) h
 show u.p<u.p+(Lt l row u.p).2.1
 unfold Lt;omega
def Jg (k:Nat)(u:US):US:=if u.e=0 then ukept k u else u
def Ds (row:List Bool)(k:Nat)(u:US):US:=
 if k=0 then Jg 0 (Cj row u)
 else if k=1 then Jg 1 (Hk row Ky Ir (row.length+1) u)
 else if k=2 then (if (Db row u).2.e≠0 then (Db row u).2 else Jg 2 (Hk row (Db row u).1.1 (Db row u).1.2 (row.length+1) (Db row u).2))
 else {u with e:=4}
def Bj (row:List Bool)(u:US):Nat×US:=
 if (uget row 1 u).2.e≠0 then (1,(uget row 1 u).2)
 else if (uget row 2 (uget row 1 u).2).2.e≠0 then (1,(uget row 2 (uget row 1 u).2).2)
 else ((uget row 1 u).1,Ds row (uget row 2 (uget row 1 u).2).1 (uget row 2 (uget row 1 u).2).2)
def Bw (row:List Bool):Nat->US->US
 |0,u=>u
 |f+1,u=>if (Bj row u).1=0/\(Bj row u).2.e=0 then Bw row f (Bj row u).2 else (Bj row u).2
def Dk (row:List Bool):US:=Bw row (row.length+1) US0
structure Ahd (row:List Bool)(u v:US):Prop where
 ks:v.ks=u.ks
 ge:u.p<=v.p
 le:v.p<=row.length
 out:v.out.length<=3000
theorem Ahd.trans {row:List Bool}{u v x:US}(h:Ahd row u v)(k:Ahd row v x):Ahd row u x:=⟨k.ks.trans h.ks,VU h.ge k.ge,k.le,k.out⟩
theorem Wv (row:List Bool)(n:Nat)(u:US)(hp:u.p<=row.length)(ho:u.out.length<=3000):Ahd row u (uget row n u).2:=⟨Ic _ _ _,R0 _ _ _,Gr _ _ _ hp,by rw[Cm];exact ho⟩
theorem Ue (l:List Int)(row:List Bool)(u:US)(hp:u.p<=row.length)(ho:u.out.length<=3000):Ahd row u (uplace l row u).2:=by
 obtain⟨h1,h2,h3⟩:=Gm l row u;exact⟨h2,h3,Ix l row u hp,by rw[h1];exact ho⟩
theorem I3 (row:List Bool)(lb:List Int)(k:Nat)(u:US)(hp:u.p<=row.length)(ho:u.out.length<=3000)(h:(Co row lb k u).e=0):Ahd row u (Co row lb k u):=by
 unfold Co at h ⊢
 split
 . rename_i c1
   rw[if_pos c1]at h
   split
   . rename_i c2
     rw[if_pos c2]at h;exact absurd (show (2:Int)=0 from h) (by decide)
   . refine⟨rfl,VB _,hp, ?_⟩;simp only[VE,VJ,WE];omega
 . rename_i c1
   rw[if_neg c1]at h
   split
   . rename_i c2
     rw[if_pos c2]at h;exact absurd (show (8:Int)=0 from h) (by decide)
   . rename_i c2
     rw[if_neg c2]at h
     split
     . rename_i c3
       rw[if_pos c3]at h;exact absurd h c3
     . rename_i c3
       rw[if_neg c3]at h;have a1:=Wv row (Df k).2 u hp ho;generalize uget row (Df k).2 u=g at*
       split
       . rename_i c4
         rw[if_pos c4]at h;exact absurd h c4
       . rename_i c4
         rw[if_neg c4]at h;obtain⟨b1,b2,b3,b4⟩:=Vm row lb g.2 a1.le;have a2:Ahd row g.2 (Me row lb g.2).2:=⟨b2,b3,b4,by rw[b1];exact a1.out⟩
         generalize Me row lb g.2=q at*;obtain⟨d1,d2,d3⟩:=Ru _ _ _ h;exact(a1.trans a2).trans ⟨d2,by omega,by rw[d1];exact a2.le,d3 a2.out⟩
theorem Hj (row:List Bool)(la lb:List Int)(f:Nat)(u:US):Hk row la lb (f+1) u=if (uplace la row u).2.e≠0 then (uplace la row u).2 else if (uplace la row u).1=256 then (uplace la row u).2 else if (Co row lb (uplace la row u).1 (uplace la row u).2).e≠0 then Co row lb (uplace la row u).1 (uplace la row u).2 else Hk row la lb f (Co row lb (uplace la row u).1 (uplace la row u).2):=by
 unfold Hk;rw[GE]
theorem Jf (row:List Bool)(la lb:List Int):∀(f:Nat) (u:US),u.p<=row.length->u.out.length<=3000->(Hk row la lb f u).e=0->Ahd row u (Hk row la lb f u)
 |0,u,hp,ho,h=>by
  have a1:=Ue la row u hp ho;unfold Hk
  split
  . exact a1
  . exact a1
 |f+1,u,hp,ho,h=>by
  have a1:=Ue la row u hp ho;rw[Hj]at h ⊢;generalize uplace la row u=r at*
  split
  . exact a1
  . rename_i c1
    rw[if_neg c1]at h
    split
    . exact a1
    . rename_i c2
      rw[if_neg c2]at h
      split
      . rename_i c3
        rw[if_pos c3]at h;exact absurd h c3
      . rename_i c3
        rw[if_neg c3]at h;have a2:=I3 row lb r.1 r.2 a1.le a1.out (by omega);exact(a1.trans a2).trans (Jf row la lb f _ a2.le a2.out h)
theorem Y3 (row:List Bool)(u:US)(hp:(u.p+7)/8*8<=row.length)(ho:u.out.length<=3000)(h:(Cj row u).e=0):Ahd row u (Cj row u):=by
 obtain⟨r1,v1,h1⟩:∃r1 v1,uget row 16 {u with p:=(u.p+7)/8*8}=(r1,v1):=⟨_,_,rfl⟩
 obtain⟨r2,v2,h2⟩:∃r2 v2,uget row 16 v1=(r2,v2):=⟨_,_,rfl⟩
 have a1:=Wv row 16 {u with p:=(u.p+7)/8*8} hp ho;rw[h1]at a1;have a2:=Wv row 16 v1 a1.le a1.out;rw[h2]at a2;rw[Vj row u v1 v2 _ r1 r2 rfl h1 h2]at h ⊢
 split
 . rename_i c
   rw[if_pos c]at h;exact absurd h c
 . rename_i c
   rw[if_neg c]at h
   split
   . rename_i c2
     rw[if_pos c2]at h;exact absurd (show (4:Int)=0 from h) (by decide)
   . rename_i c2
     rw[if_neg c2]at h
     split
     . rename_i c3
       rw[if_pos c3]at h;exact absurd (show (2:Int)=0 from h) (by decide)
     . rename_i c3
       rw[if_neg c3]at h;obtain⟨s1,s2,s3⟩:=Wm h a2.le;have hge:=a1.ge;have hge2:=a2.ge;simp only at hge hge2
       exact⟨(Pw h).trans (a2.ks.trans a1.ks),by omega,s2,s3 a2.out⟩
theorem Ze (x:Int)(u:US):(Am x u).p=u.p/\(Am x u).out=u.out/\(Am x u).ks=u.ks:=by
 unfold Am
 split<;>exact⟨rfl,rfl,rfl⟩
theorem Pv (row:List Bool)(u:US)(hp:u.p<=row.length)(ho:u.out.length<=3000)(h:(Db row u).2.e=0):Ahd row u (Db row u).2:=by
 obtain⟨A,C,v,hv⟩:∃A C v,Db row u=((A,C),v):=⟨_,_,_,rfl⟩
 rw[hv]at h ⊢;obtain⟨m0,n0,c0,u1,u2,u3,us,S,L,hT⟩:=Hd hv h;obtain⟨t1,t2,t3,t4⟩:=Pu hT hp;exact⟨t4,by show u.p<=v.p;omega,t2,by show v.out.length<=3000;rw[t3];exact ho⟩
theorem OO (row:List Bool)(q:Nat)(hq:row.length=8*q)(k:Nat)(u:US)(hp:u.p<=row.length)(ho:u.out.length<=3000)(h:(Ds row k u).e=0):k<=2/\(Ds row k u).ks=u.ks++ [k]/\u.p<=(Ds row k u).p/\(Ds row k u).p<=row.length/\(Ds row k u).out.length<=3000:=by
 have key:∀(j:Nat) (x:US),(Jg j x).e=0->x.e=0/\Jg j x=ukept j x:=fun j x hx=>by
  unfold Jg at hx ⊢
  by_cases c:x.e=0
  . exact⟨c,by rw[if_pos c]⟩
  . rw[if_neg c]at hx;exact absurd hx c
 unfold Ds at h ⊢
 split
 . rename_i c
   subst c;rw[if_pos rfl]at h;obtain⟨k1,k2⟩:=key _ _ h;have a:=Y3 row u (by omega) ho k1;rw[k2];exact⟨by decide,by show _++ [0]=_;rw[a.ks],a.ge,a.le,a.out⟩
 . rename_i c
   rw[if_neg c]at h
   split
   . rename_i c1
     subst c1;rw[if_pos rfl]at h;obtain⟨k1,k2⟩:=key _ _ h;have a:=Jf row Ky Ir _ u hp ho k1;rw[k2];exact⟨by decide,by show _++ [1]=_;rw[a.ks],a.ge,a.le,a.out⟩
   . rename_i c1
     rw[if_neg c1]at h
     split
     . rename_i c2
       subst c2;rw[if_pos rfl]at h
       split
       . rename_i c3
         rw[if_pos c3]at h;exact absurd h c3
       . rename_i c3
         rw[if_neg c3]at h;obtain⟨k1,k2⟩:=key _ _ h;have a0:=Pv row u hp ho (by omega);have a:=a0.trans (Jf row _ _ _ _ a0.le a0.out k1);rw[k2];exact⟨by decide,by show _++ [2]=_;rw[a.ks],a.ge,a.le,a.out⟩
     . rename_i c2
       rw[if_neg c2]at h;exact absurd (show (4:Int)=0 from h) (by decide)
theorem Hl (row:List Bool)(q:Nat)(hq:row.length=8*q)(u:US)(he:u.e=0)(hp:u.p<=row.length)(ho:u.out.length<=3000)(h:(Bj row u).2.e=0):(Bj row u).2.ks.length=u.ks.length+1/\u.p+3<=(Bj row u).2.p/\(Bj row u).2.p<=row.length/\(Bj row u).2.out.length<=3000:=by
 unfold Bj at h ⊢
 split
 . rename_i c
   rw[if_pos c]at h;exact absurd h c
 . rename_i c
   rw[if_neg c]at h
   split
   . rename_i c2
     rw[if_pos c2]at h;exact absurd h c2
   . rename_i c2
     rw[if_neg c2]at h;obtain⟨r1,v1,h1⟩:∃r1 v1,uget row 1 u=(r1,v1):=⟨_,_,rfl⟩
     rw[h1]at c c2 h ⊢;obtain⟨r2,v2,h2⟩:∃r2 v2,uget row 2 v1=(r2,v2):=⟨_,_,rfl⟩
     simp only at c c2 h ⊢
     rw[h2]at c2 h ⊢;simp only at c2 h ⊢
     obtain⟨q1,q2,q3,q4,_⟩:=Bn h1 (by omega);obtain⟨s1,s2,s3,s4,_⟩:=Bn h2 (by omega);obtain⟨t1,t2,t3,t4,t5⟩:=OO row q hq r2 v2 s2 (by rw[s3,q3];exact ho) h;exact⟨by rw[t2,s4,q4,VE];rfl,by omega,t4,t5⟩
end Go.Proofs.YtleocpdblhbimaaGreatDoor
namespace Go.Proofs.YtleocpdblhbimaaGreatDoor
set_option linter.unusedVariables false
def lft (n:Nat):Nat:=if n%2=1 then (n/2)^^^3988292384 else n/2
def Ik:Nat->Nat->Nat
 |0,n=>n
 |k+1,n=>Ik k (lft n)
def Z1x (r x:Nat):Nat:=Ik 8 (r^^^x)
def Sn (r:Nat)(l:List Nat):Nat:=l.foldl Z1x r
def crcN (p:Nat)(l:List Nat):Nat:=Sn (p^^^4294967295) l^^^4294967295
theorem Ym (r:Nat):Sn r []=r:=rfl
theorem Ms (r x:Nat)(l:List Nat):Sn r (x::l)=Sn (Z1x r x) l:=rfl
theorem F4 (k n:Nat):Ik (k+1) n=lft (Ik k n):=by
 induction k generalizing n with
 |zero=>rfl
 |succ k ih=>rw[Ik,ih,Ik]
theorem AU (a b:Nat):(a^^^b)%2=(a%2+b%2)%2:=by
 have h:=Nat.xor_mod_two_eq_one (a:=a) (b:=b);have h1:=WY (a^^^b);have h2:=WY a;have h3:=WY b
 rcases h1 with h1|h1<;>rcases h2 with h2|h2<;>rcases h3 with h3|h3<;>simp_all
theorem AV (a b:Nat):(a^^^b)/2=a/2^^^b/2:=by
 have:=Nat.shiftRight_xor_distrib (a:=a) (b:=b) (i:=1)
 simpa[Nat.shiftRight_eq_div_pow]using this
theorem Z4r (a b:Nat):lft (a^^^b)=lft a^^^lft b:=by
 unfold lft;have h2:=WY a;have h3:=WY b;rw[AU,AV];generalize a/2=A;generalize b/2=B
 rcases h2 with h2|h2<;>rcases h3 with h3|h3<;>simp only[h2,h3]
 . simp
 . simp[ZG]
 . rw[if_pos (by decide),if_pos trivial,if_neg (by decide),ZG,ZG,Nat.xor_comm B]
 . rw[if_neg (by decide),if_pos trivial,if_pos trivial,ZG,Nat.xor_comm B,<-ZG 3988292384,Nat.xor_self,Nat.zero_xor]
theorem Xs:∀(k a b:Nat),Ik k (a^^^b)=Ik k a^^^Ik k b
 |0,_,_=>rfl
 |k+1,a,b=>by rw[Ik,Z4r,Xs k];rfl
theorem Z4s (y:Nat):lft (2*y)=y:=by
 unfold lft;rw[if_neg (by omega)];omega
theorem CE (k y:Nat):Ik k (2^k*y)=y:=by
 induction k with
 |zero=>simp[Ik]
 |succ k ih=>
  rw[Ik,show 2^(k+1)*y=2*(2^k*y) by rw[XC,YF (2^k) 2,XY],Z4s,ih]
theorem Z6u {n:Nat}(h:n<4294967296):lft n<4294967296:=by
 unfold lft
 by_cases e:n%2=1
 . rw[if_pos e];exact ZO (n:=32) (by omega) (by decide)
 . rw[if_neg e];omega
theorem Rl:∀(k:Nat) {n:Nat},n<4294967296->Ik k n<4294967296
 |0,_,h=>h
 |k+1,_,h=>Rl k (Z6u h)
theorem Z6p (k n:Nat):n=n%2^k^^^2^k*(n/2^k):=by
 apply Nat.eq_of_testBit_eq
 intro i;rw[Nat.testBit_xor,Nat.testBit_mod_two_pow,Nat.testBit_two_pow_mul,Nat.testBit_div_two_pow]
 by_cases h:i<k
 . simp[h,show ¬(k<=i) by omega]
 . simp[h,show k<=i by omega,show i-k+k=i by omega]
theorem Z5t {k x:Nat}(y:Nat)(hx:x<2^k):x+2^k*y=x^^^2^k*y:=by
 have h:=Z6p k (x+2^k*y);rw[Nat.add_mul_mod_self_left,ZJ hx,Nat.add_mul_div_left _ _ (YQ k),Nat.div_eq_of_lt hx,WG]at h;exact h
theorem FX (n:Nat):Ik 8 n=Ik 8 (n%256)^^^n/256:=by
 have h:=Z6p 8 n
 conv=>lhs;rw[h]
 rw[Xs,CE]
theorem Sm:∀(a b:List Nat) (r:Nat),Sn r (a++b)=Sn (Sn r a) b
 | [],_,_=>by rw[Ym,List.nil_append]
 |x::a,b,r=>by rw[XL,Ms,Sm a,Ms]
theorem Sl:∀(l:List Nat) (r:Nat),(∀x∈l,x<256)->r<4294967296->Sn r l<4294967296
 | [],r,_,h=>by rw[Ym];exact h
 |x::l,r,hl,h=>by
  rw[Ms];have hx:=hl x (by simp);exact Sl l _ (fun y hy=>hl y (by simp[hy])) (Rl 8 (ZO (n:=32) h (by omega)))
theorem E5 {n:Nat}(h:n<4294967296):n^^^4294967295<4294967296:=ZO (n:=32) h (by decide)
theorem Z5b {l:List Nat}{p:Nat}(hl:∀x∈l,x<256)(h:p<4294967296):crcN p l<4294967296:=E5 (Sl l _ hl (E5 h))
theorem NU (c x k:Nat):Ik (k+1) (c^^^x%2^(k+1))=lft (Ik k (c^^^x%2^k)^^^x/2^k%2):=by
 have h1:x%2^(k+1)=x%2^k^^^2^k*(x/2^k%2):=by
  rw[Nat.mod_pow_succ];exact Z5t _ (Nat.mod_lt _ (YQ k))
 rw[h1,<-ZG,F4,Xs,CE]
theorem NV (c b:Nat)(hb:b<2):lft (c^^^b)=if (c%2^^^b)=1 then (c/2)^^^3988292384 else c/2:=by
 unfold lft;rw[AU,AV];have:b/2=0:=by omega
 rw[this,Nat.xor_zero];have h2:=WY c;have h3:b=0\/b=1:=by omega
 rcases h2 with h2|h2<;>rcases h3 with h3|h3<;>simp[h2,h3]
theorem N7 (l:List Nat)(r x:Nat):Sn r (l++ [x])=Z1x (Sn r l) x:=by rw[Sm,Ms,Ym]
end Go.Proofs.YtleocpdblhbimaaGreatDoor
