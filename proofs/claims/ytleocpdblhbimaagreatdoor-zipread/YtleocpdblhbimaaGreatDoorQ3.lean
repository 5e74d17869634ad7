import Derived.Test.YtleocpdblhbimaaGreatDoorQ2
import Derived.Laws.BitsAllLaws
set_option linter.unusedSimpArgs false
namespace Go.Proofs.YtleocpdblhbimaaGreatDoor
set_option linter.unusedVariables false
set_option maxRecDepth 100000
def Df (s:Nat):Nat×Nat:=if s=285 then (258,0)else (3+((s-257)-4*((s-257)/4-1))*2^((s-257)/4-1),(s-257)/4-1)
def Dg (s:Nat):Nat×Nat:=(1+(s-2*(s/2-1))*2^(s/2-1),s/2-1)
theorem F7 (s:Nat)(E:257<=s)(F:s<=285):Df s=samesL.getD (s-257) (0,0):=by
 have:∀k∈List.range 29,Df (k+257)=samesL.getD k (0,0):=by decide+kernel
 have:=this (s-257) (by simp;omega)
 rwa [Nat.sub_add_cancel E]at this
theorem F9 (s:Nat)(E:s<=29):Dg s=farsL.getD s (0,0):=by
 have:∀k∈List.range 30,Dg k=farsL.getD k (0,0):=by decide+kernel
 exact this s (by simp;omega)
def Cl (row:List Bool)(u:US):Nat×US:=
 let n:=uget row 16 {u with p:=(u.p+7)/8*8}
 let t:=uget row 16 n.2
 (n.1,if t.2.e=0/\n.1+t.1≠65535 then Am 4 t.2 else t.2)
def Cj (row:List Bool)(u:US):US:=
 let x:=Cl row u
 if x.2.e=0/\3000<x.2.out.length+x.1 then Am 2 x.2 else ustore row x.1 x.2
theorem Fo (row:List Bool)(k:Nat)(u:US)(E:u.e≠0):ustore row k u=u:=by
 cases k with
 |zero=>rfl
 |succ k=>unfold ustore;rw[if_neg E]
theorem Gr (row:List Bool)(n:Nat)(u:US)(E:u.p<=row.length):(uget row n u).2.p<=row.length:=by
 unfold uget
 split
 . split
   . exact E
   . show u.p+n<=row.length;omega
 . exact E
theorem Cm (row:List Bool)(n:Nat)(u:US):(uget row n u).2.out=u.out:=by
 unfold uget
 split
 . split<;>rfl
 . rfl
theorem Fj (row:List Bool)(n:Nat)(u:US)(E:u.e≠0):(uget row n u).2=u:=by
 unfold uget;rw[if_neg E]
theorem Vj (row:List Bool)(u H E:US)(I F G:Nat)(T:(u.p+7)/8*8=I)(U:uget row 16 {u with p:=I}=(F,H))(O:uget row 16 H=(G,E)):
 Cj row u=if E.e≠0 then E else if F+G≠65535 then {E with e:=4}else if 3000<E.out.length+F then {E with e:=2}else ustore row F E:=by
 have M:Cl row u=(F,if E.e=0/\F+G≠65535 then Am 4 E else E):=by
  simp only[Cl,T,U,O]
 unfold Cj;simp only[M]
 by_cases e:E.e=0
 . by_cases e2:F+G=65535
   . by_cases e3:3000<E.out.length+F
     . simp[e,e2,e3,Am]
     . simp[e,e2,e3]
   . simp[e,e2,Am,Fo]
 . simp[e,Fo]
theorem Ic (row:List Bool)(n:Nat)(u:US):(uget row n u).2.ks=u.ks:=by
 unfold uget
 split
 . split<;>rfl
 . rfl
def Jh (d k:Nat)(u:US):US:=if u.out.length<d then {u with e:=9}else if 3000<u.out.length+k then {u with e:=2}else ucopy d k u
theorem Ro (row:List Bool):∀(k:Nat) (x:US),x.out.length<=3000->3000<x.out.length+k->(ustore row k x).e≠0
 |0,x,h1,h2=>by omega
 |k+1,x,h1,h2=>by
  by_cases e:x.e=0
  . unfold ustore;rw[if_pos e];obtain⟨c,y,F⟩:∃c y,uget row 8 x=(c,y):=⟨_,_,rfl⟩
    have E:y.out=x.out:=by have:=Cm row 8 x;rw[F]at this;exact this
    rw[F];show (ustore row k (Fd c y)).e≠0
    by_cases e2:y.e=0
    . by_cases e3:y.out.length=3000
      . have:Fd c y= {y with e:=2}:=by unfold Fd;rw[if_pos e2,if_pos e3]
        rw[this,Fo _ _ _ (show (2:Int)≠0 by decide)];exact(by decide:(2:Int)≠0)
      . have:Fd c y= {y with out:=y.out++ [c]}:=by unfold Fd;rw[if_pos e2,if_neg e3]
        rw[this];refine Ro row k _ ?_ ?_
        . show (y.out++ [c]).length<=3000
          rw[VE,E];rw[E]at e3;simp only[VJ,WE];omega
        . show 3000<(y.out++ [c]).length+k
          rw[VE,E];simp only[VJ,WE];omega
    . have:Fd c y=y:=by unfold Fd;rw[if_neg e2]
      rw[this,Fo _ _ _ e2];exact e2
  . rw[Fo _ _ _ e];exact e
theorem GH (row:List Bool)(u:US)(H:u.out.length<=3000)(F:(ustored row u).e=0):Cj row u=ustored row u:=by
 have E:ustored row u=ustore row (Cl row u).1 (Cl row u).2:=rfl
 have I:(Cl row u).2.out=u.out:=by
  unfold Cl;dsimp only
  split
  . unfold Am
    split
    . show (uget row 16 _).2.out=_
      rw[Cm,Cm]
    . rw[Cm,Cm]
  . rw[Cm,Cm]
 unfold Cj;dsimp only;rw[if_neg,E];rintro ⟨_,G⟩;rw[E]at F;exact Ro row _ _ (by rw[I];exact H) G F
def US0:US:= {p:=0,out:= [],ks:= [],e:=0}
def Me (row:List Bool)(lb:List Int)(u:US):Nat×US:=
 if (uplace lb row u).2.e≠0 then (0,(uplace lb row u).2)
 else if 29<(uplace lb row u).1 then (0,{(uplace lb row u).2 with e:=8})
 else ((Dg (uplace lb row u).1).1+(uget row (Dg (uplace lb row u).1).2 (uplace lb row u).2).1,(uget row (Dg (uplace lb row u).1).2 (uplace lb row u).2).2)
theorem CA (l:List Int)(row:List Bool)(p:Nat)(E:p<=row.length):∀f n,p+(Ej l row p f n).2.1<=row.length
 |0,n=>by simpa[Ej]using E
 |f+1,n=>by
  unfold Ej
  split
  . simpa using E
  . split
    . show p+n<=row.length
      omega
    . exact CA l row p E f (n+1)
theorem Ix (l:List Int)(row:List Bool)(u:US)(E:u.p<=row.length):(uplace l row u).2.p<=row.length:=by
 unfold uplace
 split
 . exact CA l row u.p E 15 1
 . exact E
def Co (row:List Bool)(lb:List Int)(k:Nat)(u:US):US:=
 if k<256 then (if 3000<u.out.length+1 then {u with e:=2}else {u with out:=u.out++ [k]})
 else if 285<k then {u with e:=8}
 else if (uget row (Df k).2 u).2.e≠0 then (uget row (Df k).2 u).2
 else if (Me row lb (uget row (Df k).2 u).2).2.e≠0 then (Me row lb (uget row (Df k).2 u).2).2
 else Jh (Me row lb (uget row (Df k).2 u).2).1 ((Df k).1+(uget row (Df k).2 u).1) (Me row lb (uget row (Df k).2 u).2).2
def GE (row:List Bool)(la lb:List Int):Nat->Nat->US->US
 |0,_,u=>u
 |f+1,k,u=>if k=256 then u
  else if (Co row lb k u).e≠0 then Co row lb k u
  else if (uplace la row (Co row lb k u)).2.e≠0 then (uplace la row (Co row lb k u)).2
  else GE row la lb f (uplace la row (Co row lb k u)).1 (uplace la row (Co row lb k u)).2
def Hk (row:List Bool)(la lb:List Int)(f:Nat)(u:US):US:=
 if (uplace la row u).2.e≠0 then (uplace la row u).2 else GE row la lb f (uplace la row u).1 (uplace la row u).2
theorem Gm (l:List Int)(row:List Bool)(u:US):(uplace l row u).2.out=u.out/\(uplace l row u).2.ks=u.ks/\u.p<=(uplace l row u).2.p:=by
 unfold uplace
 split
 . exact⟨rfl,rfl,ZS _ _⟩
 . exact⟨rfl,rfl,VB _⟩
theorem R0 (row:List Bool)(n:Nat)(u:US):u.p<=(uget row n u).2.p:=by
 unfold uget
 split
 . split
   . exact VB _
   . exact ZS _ _
 . exact VB _
theorem Vm (row:List Bool)(l:List Int)(u:US)(I:u.p<=row.length):(Me row l u).2.out=u.out/\(Me row l u).2.ks=u.ks/\u.p<=(Me row l u).2.p/\(Me row l u).2.p<=row.length:=by
 obtain⟨H,F,E⟩:=Gm l row u;have G:=Ix l row u I;unfold Me
 split
 . exact⟨H,F,E,G⟩
 . split
   . exact⟨H,F,E,G⟩
   . exact⟨(Cm row _ _).trans H,(Ic row _ _).trans F,VU E (R0 _ _ _),Gr row _ _ G⟩
theorem Ru (d k:Nat)(u:US)(E:(Jh d k u).e=0):(Jh d k u).p=u.p/\(Jh d k u).ks=u.ks/\(u.out.length<=3000->(Jh d k u).out.length<=3000):=by
 unfold Jh at E ⊢
 split
 . rename_i hc
   rw[if_pos hc]at E;exact absurd (show (9:Int)=0 from E) (by decide)
 . rename_i hc
   rw[if_neg hc]at E
   split
   . rename_i F
     rw[if_pos F]at E;exact absurd (show (2:Int)=0 from E) (by decide)
   . rename_i F
     rw[if_neg F]at E;exact R2 E
theorem Vg (l:List Int)(row:List Bool)(p:Nat):∀f n,1<=n->(Ej l row p f n).2.2=0->1<=(Ej l row p f n).2.1
 |0,n,_,h=>absurd (show (8:Int)=0 from h) (by decide)
 |f+1,n,hn,h=>by
  unfold Ej at h ⊢
  split
  . rename_i hc
    rw[if_pos hc]at h;exact absurd (show (7:Int)=0 from h) (by decide)
  . rename_i hc
    rw[if_neg hc]at h
    split
    . exact hn
    . rename_i E
      rw[E]at h;exact Vg l row p f (n+1) (by omega) h
theorem KE (l:List Int)(row:List Bool)(u:US)(F:u.e=0)(E:(uplace l row u).2.e=0):u.p<(uplace l row u).2.p:=by
 unfold uplace at E ⊢;rw[if_pos F]at E ⊢;have:=Vg l row u.p 15 1 (VB _) E
 show u.p<u.p+(Lt l row u.p).2.1
 unfold Lt;omega
def Jg (k:Nat)(u:US):US:=if u.e=0 then ukept k u else u
def Ds (row:List Bool)(k:Nat)(u:US):US:=
 if k=0 then Jg 0 (Cj row u)
 else if k=1 then Jg 1 (Hk row Ky Ir (row.length+1) u)
 else if k=2 then (if (Db row u).2.e≠0 then (Db row u).2 else Jg 2 (Hk row (Db row u).1.1 (Db row u).1.2 (row.length+1) (Db row u).2))
 else {u with e:=4}
def Bj (row:List Bool)(u:US):Nat×US:=
 if (uget row 1 u).2.e≠0 then (1,(uget row 1 u).2)
 else if (uget row 2 (uget row 1 u).2).2.e≠0 then (1,(uget row 2 (uget row 1 u).2).2)
 else ((uget row 1 u).1,Ds row (uget row 2 (uget row 1 u).2).1 (uget row 2 (uget row 1 u).2).2)
def Bw (row:List Bool):Nat->US->US
 |0,u=>u
 |f+1,u=>if (Bj row u).1=0/\(Bj row u).2.e=0 then Bw row f (Bj row u).2 else (Bj row u).2
def Dk (row:List Bool):US:=Bw row (row.length+1) US0
structure Ahd (row:List Bool)(u v:US):Prop where
 ks:v.ks=u.ks
 ge:u.p<=v.p
 le:v.p<=row.length
 out:v.out.length<=3000
theorem Ahd.trans {row:List Bool}{u v x:US}(E:Ahd row u v)(k:Ahd row v x):Ahd row u x:=⟨k.ks.trans E.ks,VU E.ge k.ge,k.le,k.out⟩
theorem Wv (row:List Bool)(n:Nat)(u:US)(E:u.p<=row.length)(F:u.out.length<=3000):Ahd row u (uget row n u).2:=⟨Ic _ _ _,R0 _ _ _,Gr _ _ _ E,by rw[Cm];exact F⟩
theorem Ue (l:List Int)(row:List Bool)(u:US)(H:u.p<=row.length)(G:u.out.length<=3000):Ahd row u (uplace l row u).2:=by
 obtain⟨I,F,E⟩:=Gm l row u;exact⟨F,E,Ix l row u H,by rw[I];exact G⟩
theorem I3 (row:List Bool)(lb:List Int)(k:Nat)(u:US)(M:u.p<=row.length)(Y:u.out.length<=3000)(E:(Co row lb k u).e=0):Ahd row u (Co row lb k u):=by
 unfold Co at E ⊢
 split
 . rename_i c1
   rw[if_pos c1]at E
   split
   . rename_i c2
     rw[if_pos c2]at E;exact absurd (show (2:Int)=0 from E) (by decide)
   . refine⟨rfl,VB _,M, ?_⟩;simp only[VE,VJ,WE];omega
 . rename_i c1
   rw[if_neg c1]at E
   split
   . rename_i c2
     rw[if_pos c2]at E;exact absurd (show (8:Int)=0 from E) (by decide)
   . rename_i c2
     rw[if_neg c2]at E
     split
     . rename_i F
       rw[if_pos F]at E;exact absurd E F
     . rename_i F
       rw[if_neg F]at E;have I:=Wv row (Df k).2 u M Y;generalize uget row (Df k).2 u=g at*
       split
       . rename_i G
         rw[if_pos G]at E;exact absurd E G
       . rename_i G
         rw[if_neg G]at E;obtain⟨b1,b2,T,Z⟩:=Vm row lb g.2 I.le;have H:Ahd row g.2 (Me row lb g.2).2:=⟨b2,T,Z,by rw[b1];exact I.out⟩
         generalize Me row lb g.2=q at*;obtain⟨aa,U,O⟩:=Ru _ _ _ E;exact(I.trans H).trans ⟨U,by omega,by rw[aa];exact H.le,O H.out⟩
theorem Hj (row:List Bool)(E lb:List Int)(f:Nat)(u:US):Hk row E lb (f+1) u=if (uplace E row u).2.e≠0 then (uplace E row u).2 else if (uplace E row u).1=256 then (uplace E row u).2 else if (Co row lb (uplace E row u).1 (uplace E row u).2).e≠0 then Co row lb (uplace E row u).1 (uplace E row u).2 else Hk row E lb f (Co row lb (uplace E row u).1 (uplace E row u).2):=by
 unfold Hk;rw[GE]
theorem Jf (row:List Bool)(F lb:List Int):∀(f:Nat) (u:US),u.p<=row.length->u.out.length<=3000->(Hk row F lb f u).e=0->Ahd row u (Hk row F lb f u)
 |0,u,hp,ho,h=>by
  have E:=Ue F row u hp ho;unfold Hk
  split
  . exact E
  . exact E
 |f+1,u,hp,ho,h=>by
  have E:=Ue F row u hp ho;rw[Hj]at h ⊢;generalize uplace F row u=r at*
  split
  . exact E
  . rename_i c1
    rw[if_neg c1]at h
    split
    . exact E
    . rename_i c2
      rw[if_neg c2]at h
      split
      . rename_i G
        rw[if_pos G]at h;exact absurd h G
      . rename_i G
        rw[if_neg G]at h;have H:=I3 row lb r.1 r.2 E.le E.out (by omega);exact(E.trans H).trans (Jf row F lb f _ H.le H.out h)
theorem Y3 (row:List Bool)(u:US)(ac:(u.p+7)/8*8<=row.length)(Z:u.out.length<=3000)(E:(Cj row u).e=0):Ahd row u (Cj row u):=by
 obtain⟨r1,G,T⟩:∃r1 G,uget row 16 {u with p:=(u.p+7)/8*8}=(r1,G):=⟨_,_,rfl⟩
 obtain⟨r2,M,O⟩:∃r2 M,uget row 16 G=(r2,M):=⟨_,_,rfl⟩
 have H:=Wv row 16 {u with p:=(u.p+7)/8*8} ac Z;rw[T]at H;have F:=Wv row 16 G H.le H.out;rw[O]at F;rw[Vj row u G M _ r1 r2 rfl T O]at E ⊢
 split
 . rename_i c
   rw[if_pos c]at E;exact absurd E c
 . rename_i c
   rw[if_neg c]at E
   split
   . rename_i c2
     rw[if_pos c2]at E;exact absurd (show (4:Int)=0 from E) (by decide)
   . rename_i c2
     rw[if_neg c2]at E
     split
     . rename_i I
       rw[if_pos I]at E;exact absurd (show (2:Int)=0 from E) (by decide)
     . rename_i I
       rw[if_neg I]at E;obtain⟨ae,aa,Y⟩:=Wm E F.le;have U:=H.ge;have ab:=F.ge;simp only at U ab
       exact⟨(Pw E).trans (F.ks.trans H.ks),by omega,aa,Y F.out⟩
theorem Ze (x:Int)(u:US):(Am x u).p=u.p/\(Am x u).out=u.out/\(Am x u).ks=u.ks:=by
 unfold Am
 split<;>exact⟨rfl,rfl,rfl⟩
theorem Pv (row:List Bool)(u:US)(T:u.p<=row.length)(I:u.out.length<=3000)(F:(Db row u).2.e=0):Ahd row u (Db row u).2:=by
 obtain⟨A,C,v,E⟩:∃A C v,Db row u=((A,C),v):=⟨_,_,_,rfl⟩
 rw[E]at F ⊢;obtain⟨m0,n0,c0,u1,u2,u3,us,S,L,M⟩:=Hd E F;obtain⟨U,G,H,O⟩:=Pu M T;exact⟨O,by show u.p<=v.p;omega,G,by show v.out.length<=3000;rw[H];exact I⟩
theorem OO (row:List Bool)(q:Nat)(O:row.length=8*q)(k:Nat)(u:US)(M:u.p<=row.length)(I:u.out.length<=3000)(E:(Ds row k u).e=0):k<=2/\(Ds row k u).ks=u.ks++ [k]/\u.p<=(Ds row k u).p/\(Ds row k u).p<=row.length/\(Ds row k u).out.length<=3000:=by
 have key:∀(j:Nat) (x:US),(Jg j x).e=0->x.e=0/\Jg j x=ukept j x:=fun j x G=>by
  unfold Jg at G ⊢
  by_cases c:x.e=0
  . exact⟨c,by rw[if_pos c]⟩
  . rw[if_neg c]at G;exact absurd G c
 unfold Ds at E ⊢
 split
 . rename_i c
   subst c;rw[if_pos rfl]at E;obtain⟨k1,k2⟩:=key _ _ E;have a:=Y3 row u (by omega) I k1;rw[k2];exact⟨by decide,by show _++ [0]=_;rw[a.ks],a.ge,a.le,a.out⟩
 . rename_i c
   rw[if_neg c]at E
   split
   . rename_i c1
     subst c1;rw[if_pos rfl]at E;obtain⟨k1,k2⟩:=key _ _ E;have a:=Jf row Ky Ir _ u M I k1;rw[k2];exact⟨by decide,by show _++ [1]=_;rw[a.ks],a.ge,a.le,a.out⟩
   . rename_i c1
     rw[if_neg c1]at E
     split
     . rename_i c2
       subst c2;rw[if_pos rfl]at E
       split
       . rename_i F
         rw[if_pos F]at E;exact absurd E F
       . rename_i F
         rw[if_neg F]at E;obtain⟨k1,k2⟩:=key _ _ E;have H:=Pv row u M I (by omega);have a:=H.trans (Jf row _ _ _ _ H.le H.out k1);rw[k2];exact⟨by decide,by show _++ [2]=_;rw[a.ks],a.ge,a.le,a.out⟩
     . rename_i c2
       rw[if_neg c2]at E;exact absurd (show (4:Int)=0 from E) (by decide)
theorem Hl (row:List Bool)(q:Nat)(ab:row.length=8*q)(u:US)(al:u.e=0)(ai:u.p<=row.length)(U:u.out.length<=3000)(E:(Bj row u).2.e=0):(Bj row u).2.ks.length=u.ks.length+1/\u.p+3<=(Bj row u).2.p/\(Bj row u).2.p<=row.length/\(Bj row u).2.out.length<=3000:=by
 unfold Bj at E ⊢
 split
 . rename_i c
   rw[if_pos c]at E;exact absurd E c
 . rename_i c
   rw[if_neg c]at E
   split
   . rename_i c2
     rw[if_pos c2]at E;exact absurd E c2
   . rename_i c2
     rw[if_neg c2]at E;obtain⟨r1,G,H⟩:∃r1 G,uget row 1 u=(r1,G):=⟨_,_,rfl⟩
     rw[H]at c c2 E ⊢;obtain⟨r2,F,I⟩:∃r2 F,uget row 2 G=(r2,F):=⟨_,_,rfl⟩
     simp only at c c2 E ⊢
     rw[I]at c2 E ⊢;simp only at c2 E ⊢
     obtain⟨ag,af,ac,M,_⟩:=Bn H (by omega);obtain⟨aj,Y,O,Z,_⟩:=Bn I (by omega);obtain⟨ah,T,ak,ae,aa⟩:=OO row q ab r2 F Y (by rw[O,ac];exact U) E;exact⟨by rw[T,Z,M,VE];rfl,by omega,ae,aa⟩
end Go.Proofs.YtleocpdblhbimaaGreatDoor
namespace Go.Proofs.YtleocpdblhbimaaGreatDoor
set_option linter.unusedVariables false
def lft (n:Nat):Nat:=if n%2=1 then (n/2)^^^3988292384 else n/2
def Ik:Nat->Nat->Nat
 |0,n=>n
 |k+1,n=>Ik k (lft n)
def Z1x (r x:Nat):Nat:=Ik 8 (r^^^x)
def Sn (r:Nat)(l:List Nat):Nat:=l.foldl Z1x r
def crcN (p:Nat)(l:List Nat):Nat:=Sn (p^^^4294967295) l^^^4294967295
theorem Ym (r:Nat):Sn r []=r:=rfl
theorem Ms (r x:Nat)(l:List Nat):Sn r (x::l)=Sn (Z1x r x) l:=rfl
theorem F4 (k n:Nat):Ik (k+1) n=lft (Ik k n):=by
 induction k generalizing n with
 |zero=>rfl
 |succ k ih=>rw[Ik,ih,Ik]
theorem AU (a b:Nat):(a^^^b)%2=(a%2+b%2)%2:=by
 have h:=Nat.xor_mod_two_eq_one (a:=a) (b:=b);have G:=WY (a^^^b);have F:=WY a;have E:=WY b
 rcases G with G|G<;>rcases F with F|F<;>rcases E with E|E<;>simp_all
theorem AV (a b:Nat):(a^^^b)/2=a/2^^^b/2:=by
 have:=Nat.shiftRight_xor_distrib (a:=a) (b:=b) (i:=1)
 simpa[Nat.shiftRight_eq_div_pow]using this
theorem Z4r (a b:Nat):lft (a^^^b)=lft a^^^lft b:=by
 unfold lft;have F:=WY a;have E:=WY b;rw[AU,AV];generalize a/2=A;generalize b/2=B
 rcases F with F|F<;>rcases E with E|E<;>simp only[F,E]
 . simp
 . simp[ZG]
 . rw[if_pos (by decide),if_pos trivial,if_neg (by decide),ZG,ZG,Nat.xor_comm B]
 . rw[if_neg (by decide),if_pos trivial,if_pos trivial,ZG,Nat.xor_comm B,<-ZG 3988292384,Nat.xor_self,Nat.zero_xor]
theorem Xs:∀(k a b:Nat),Ik k (a^^^b)=Ik k a^^^Ik k b
 |0,_,_=>rfl
 |k+1,a,b=>by rw[Ik,Z4r,Xs k];rfl
theorem Z4s (y:Nat):lft (2*y)=y:=by
 unfold lft;rw[if_neg (by omega)];omega
theorem CE (k y:Nat):Ik k (2^k*y)=y:=by
 induction k with
 |zero=>simp[Ik]
 |succ k ih=>
  rw[Ik,show 2^(k+1)*y=2*(2^k*y) by rw[XC,YF (2^k) 2,XY],Z4s,ih]
theorem Z6u {n:Nat}(E:n<4294967296):lft n<4294967296:=by
 unfold lft
 by_cases e:n%2=1
 . rw[if_pos e];exact ZO (n:=32) (by omega) (by decide)
 . rw[if_neg e];omega
theorem Rl:∀(k:Nat) {n:Nat},n<4294967296->Ik k n<4294967296
 |0,_,h=>h
 |k+1,_,h=>Rl k (Z6u h)
theorem Z6p (k n:Nat):n=n%2^k^^^2^k*(n/2^k):=by
 apply Nat.eq_of_testBit_eq
 intro i;rw[Nat.testBit_xor,Nat.testBit_mod_two_pow,Nat.testBit_two_pow_mul,Nat.testBit_div_two_pow]
 by_cases h:i<k
 . simp[h,show ¬(k<=i) by omega]
 . simp[h,show k<=i by omega,show i-k+k=i by omega]
theorem Z5t {k x:Nat}(y:Nat)(E:x<2^k):x+2^k*y=x^^^2^k*y:=by
 have h:=Z6p k (x+2^k*y);rw[Nat.add_mul_mod_self_left,ZJ E,Nat.add_mul_div_left _ _ (YQ k),Nat.div_eq_of_lt E,WG]at h;exact h
theorem FX (n:Nat):Ik 8 n=Ik 8 (n%256)^^^n/256:=by
 have h:=Z6p 8 n
 conv=>lhs;rw[h]
 rw[Xs,CE]
theorem Sm:∀(a b:List Nat) (r:Nat),Sn r (a++b)=Sn (Sn r a) b
 | [],_,_=>by rw[Ym,List.nil_append]
 |x::a,b,r=>by rw[XL,Ms,Sm a,Ms]
theorem Sl:∀(l:List Nat) (r:Nat),(∀x∈l,x<256)->r<4294967296->Sn r l<4294967296
 | [],r,_,h=>by rw[Ym];exact h
 |x::l,r,hl,h=>by
  rw[Ms];have F:=hl x (by simp);exact Sl l _ (fun y E=>hl y (by simp[E])) (Rl 8 (ZO (n:=32) h (by omega)))
theorem E5 {n:Nat}(E:n<4294967296):n^^^4294967295<4294967296:=ZO (n:=32) E (by decide)
theorem Z5b {l:List Nat}{p:Nat}(E:∀x∈l,x<256)(F:p<4294967296):crcN p l<4294967296:=E5 (Sl l _ E (E5 F))
theorem NU (c x k:Nat):Ik (k+1) (c^^^x%2^(k+1))=lft (Ik k (c^^^x%2^k)^^^x/2^k%2):=by
 have E:x%2^(k+1)=x%2^k^^^2^k*(x/2^k%2):=by
  rw[Nat.mod_pow_succ];exact Z5t _ (Nat.mod_lt _ (YQ k))
 rw[E,<-ZG,F4,Xs,CE]
theorem NV (c b:Nat)(G:b<2):lft (c^^^b)=if (c%2^^^b)=1 then (c/2)^^^3988292384 else c/2:=by
 unfold lft;rw[AU,AV];have:b/2=0:=by omega
 rw[this,Nat.xor_zero];have F:=WY c;have E:b=0\/b=1:=by omega
 rcases F with F|F<;>rcases E with E|E<;>simp[F,E]
theorem N7 (l:List Nat)(r x:Nat):Sn r (l++ [x])=Z1x (Sn r l) x:=by rw[Sm,Ms,Ym]
end Go.Proofs.YtleocpdblhbimaaGreatDoor
