import Derived.Test.YtleocpdblhbimaaGreatDoorQ4
set_option linter.unusedSimpArgs false
namespace Go.Proofs.YtleocpdblhbimaaGreatDoor
set_option linter.unusedVariables false
set_option maxRecDepth 100000
theorem Nq {c:Nat}{u:US}(h:(Hy c u).e=0):u.e=0/\u.out.length≠3000/\Hy c u= {u with out:=u.out++ [c]}:=by
 unfold Hy at h ⊢
 by_cases e:u.e=0
 . rw[if_pos e]at h ⊢
   by_cases e2:u.out.length=3000
   . rw[if_pos e2]at h;exact absurd (show (2:Int)=0 from h) (by decide)
   . rw[if_neg e2];exact⟨e,e2,rfl⟩
 . rw[if_neg e]at h;exact absurd h e
theorem Ax {row:List Bool}{n r:Nat}{u v:US}(h:uget row n u=(r,v))(hv:v.e=0):v.p=u.p+n/\v.p<=row.length/\v.out=u.out/\v.ks=u.ks/\u.e=0:=by
 have hu:u.e=0:=Pu (by rw[h];exact hv);unfold uget at h;rw[if_pos hu]at h
 by_cases e:row.length<u.p+n
 . rw[if_pos e]at h;have:=(XA h).2
   rw[<-this]at hv;exact absurd (show (7:Int)=0 from hv) (by decide)
 . rw[if_neg e]at h;have:=(XA h).2
   subst this;exact⟨rfl,by show u.p+n<=row.length;omega,rfl,rfl,hu⟩
theorem Zt {l:List Int}{row:List Bool}{p:Nat}:∀(f n:Nat),1<=n->(Gm l row p f n).2.2=0->1<=(Gm l row p f n).2.1/\p+(Gm l row p f n).2.1<=row.length/\(Gm l row p f n).1<l.length
 |0,n,_,h=>by rw[Gm]at h;exact absurd h (by decide)
 |f+1,n,hn,h=>by
  rw[Gm]at h ⊢
  by_cases e:row.length<p+n
  . rw[if_pos e]at h;exact absurd h (by decide)
  . rw[if_neg e]at h ⊢
    cases hf:Og l ((row.drop p).take n)with
    |some q=>
     simp only
     refine⟨hn,by omega, ?_⟩;have:=List.mem_of_find?_eq_some hf
     simpa using this
    |none=>
     rw[hf]at h;simp only at h ⊢
     exact Zt f (n+1) (by omega) h
theorem Bt {l:List Int}{row:List Bool}{k:Nat}{u v:US}(h:uplace l row u=(k,v))(hv:v.e=0):u.p+1<=v.p/\v.p<=row.length/\v.out=u.out/\v.ks=u.ks/\u.e=0/\k<l.length:=by
 have hu:u.e=0:=V0 (by rw[h];exact hv);unfold uplace at h;rw[if_pos hu]at h;have h1:=(XA h).2;have h2:=(XA h).1;subst h1;have:=Zt (l:=l) (row:=row) (p:=u.p) 15 1 (VC _) hv
 refine⟨?_, ?_,rfl,rfl,hu, ?_⟩
 . show u.p+1<=u.p+(Na l row u.p).2.1
   have h3:=this.1;unfold Na;omega
 . show u.p+(Na l row u.p).2.1<=row.length
   exact this.2.1
 . rw[<-h2];exact this.2.2
theorem He {d:Nat}:∀ {n:Nat} {u:US},(ucopy d n u).e=0->u.e=0
 |0,u,h=>h
 |n+1,u,h=>by
  rw[ucopy]at h
  by_cases e:u.e=0
  . exact e
  . rw[if_neg e]at h;exact h
theorem J9 {d:Nat}:∀ {n:Nat} {u:US},(ucopy d n u).e=0->(ucopy d n u).p=u.p/\(ucopy d n u).ks=u.ks/\(u.out.length<=3000->(ucopy d n u).out.length<=3000)
 |0,u,h=>⟨rfl,rfl,fun h=>h⟩
 |n+1,u,h=>by
  have e:=He h;rw[ucopy,if_pos e]at h ⊢;obtain⟨h1,h2,h3⟩:=Nq (He h);have ih:=J9 h;rw[h3]at ih ⊢;refine⟨ih.1,ih.2.1,fun ho=>ih.2.2 ?_⟩;simp only[VB,VJ,WO];omega
inductive Tok1 (row:List Bool)(a b:List Int)(u:US):Bool->US->Prop
 |stop (v:US):uplace a row u=(256,v)->v.e=0->Tok1 row a b u false v
 |byte (c:Nat) (x:US):uplace a row u=(c,x)->x.e=0->c<256->x.out.length≠3000->Tok1 row a b u true {x with out:=x.out++ [c]}
 |same (k n0 f d0:Nat) (x1 x2 x3 x4 v:US):uplace a row u=(k,x1)->x1.e=0->257<=k->k<=285->uget row (samesL.getD (k-257) (0,0)).2 x1=(n0,x2)->x2.e=0->uplace b row x2=(f,x3)->x3.e=0->f<=29->
  uget row (farsL.getD f (0,0)).2 x3=(d0,x4)->x4.e=0->(farsL.getD f (0,0)).1+d0<=x4.out.length->ucopy ((farsL.getD f (0,0)).1+d0) ((samesL.getD (k-257) (0,0)).1+n0) x4=v->v.e=0->Tok1 row a b u true v
theorem BM {row:List Bool}{a b:List Int}{u:US}(h:(Ih row a b u).2.e=0):Tok1 row a b u (Ih row a b u).1 (Ih row a b u).2:=by
 obtain⟨k,x1,e1⟩:∃k x1,uplace a row u=(k,x1):=⟨_,_,rfl⟩
 unfold Ih at h ⊢;simp only[e1]at h ⊢
 by_cases c1:x1.e≠0\/k=256
 . rw[if_pos c1]at h ⊢;simp only at h ⊢
   rcases c1 with c1|c1
   . exact absurd h c1
   . subst c1;exact .stop x1 e1 h
 . rw[if_neg c1]at h ⊢
   have hx1:x1.e=0:=by
    by_cases e:x1.e=0
    . exact e
    . exact absurd (.inl e) c1
   have hk:k≠256:=fun e=>c1 (.inr e)
   by_cases c2:k<256
   . rw[if_pos c2]at h ⊢;simp only at h ⊢
     obtain⟨_,h2,h3⟩:=Nq h;rw[h3];exact .byte k x1 e1 hx1 c2 h2
   . rw[if_neg c2]at h ⊢
     by_cases c3:285<k
     . rw[if_pos c3]at h;exact absurd h (Cs (by decide))
     . rw[if_neg c3]at h ⊢;unfold OJ at h ⊢;obtain⟨n0,x2,e2⟩:∃n0 x2,uget row (samesL.getD (k-257) (0,0)).2 x1=(n0,x2):=⟨_,_,rfl⟩
       obtain⟨f,x3,e3⟩:∃f x3,uplace b row x2=(f,x3):=⟨_,_,rfl⟩
       simp only[e2,e3]at h ⊢
       by_cases c4:x3.e=0/\29<f
       . rw[if_pos c4]at h;rw[if_pos (Cs (by decide))]at h;exact absurd h (Cs (by decide))
       . rw[if_neg c4]at h ⊢
         by_cases c5:x3.e≠0
         . rw[if_pos c5]at h;exact absurd h c5
         . rw[if_neg c5]at h ⊢;have hx3:x3.e=0:=by omega
           simp only at h ⊢
           unfold Z4b at h ⊢;obtain⟨d0,x4,e4⟩:∃d0 x4,uget row (farsL.getD f (0,0)).2 x3=(d0,x4):=⟨_,_,rfl⟩
           simp only[e4]at h ⊢;have hx:=He h
           by_cases c6:x4.e=0/\x4.out.length<(farsL.getD f (0,0)).1+d0
           . rw[if_pos c6]at hx;exact absurd hx (Cs (by decide))
           . rw[if_neg c6]at h hx ⊢;have hx2:x2.e=0:=V0 (by rw[e3];exact hx3);exact .same k n0 f d0 x1 x2 x3 x4 _ e1 hx1 (by omega) (by omega) e2 hx2 e3 hx3 (by omega) e4 hx (by omega) rfl h
theorem Tok1.ahead {row:List Bool}{a b:List Int}{u v:US}{t:Bool}(h:Tok1 row a b u t v):u.p+1<=v.p/\v.p<=row.length/\v.e=0/\v.ks=u.ks/\(u.out.length<=3000->v.out.length<=3000):=by
 cases h with
 |stop _ h1 h2=>
  have:=Bt h1 h2
  exact⟨this.1,this.2.1,h2,this.2.2.2.1,fun h=>by rw[this.2.2.1];exact h⟩
 |byte c x h1 h2 h3 h4=>
  have:=Bt h1 h2
  refine⟨this.1,this.2.1,h2,this.2.2.2.1,fun h=> ?_⟩;rw[this.2.2.1]at h4 ⊢;simp only[VB,VJ,WO];omega
 |same k n0 f d0 x1 x2 x3 x4 _ h1 h2 h3 h4 h5 h6 h7 h8 h9 h10 h11 h12 h13 h14=>
  have p1:=Bt h1 h2;have p2:=Ax h5 h6;have p3:=Bt h7 h8;have p4:=Ax h10 h11;have p5:=J9 (by rw[h13];exact h14:(ucopy ((farsL.getD f (0,0)).1+d0) ((samesL.getD (k-257) (0,0)).1+n0) x4).e=0);rw[h13]at p5;refine⟨by omega,by omega,h14, ?_,fun h=>p5.2.2 ?_⟩
  . rw[p5.2.1,p4.2.2.2.1,p3.2.2.2.1,p2.2.2.2.1,p1.2.2.2.1]
  . rw[p4.2.2.1,p3.2.2.1,p2.2.2.1,p1.2.2.1];exact h
theorem T9 {row:List Bool}{a b:List Int}:∀ {F:Nat} {u:US},(utok row a b F u).e=0->u.e=0
 |0,u,h=>h
 |F+1,u,h=>by
  rw[utok]at h
  by_cases e:u.e=0
  . exact e
  . rw[if_neg e]at h;exact h
theorem Ji {row:List Bool}{a b:List Int}{F:Nat}{u:US}(h:(utok row a b (F+1) u).e=0):∃t x,Tok1 row a b u t x/\utok row a b (F+1) u=if t=true then utok row a b F x else x:=by
 have hu:=T9 h;rw[utok,if_pos hu]at h ⊢;obtain⟨t,x,e⟩:∃t x,Ih row a b u=(t,x):=⟨_,_,rfl⟩
 have hg:=BM (row:=row) (a:=a) (b:=b) (u:=u);rw[e]at h hg ⊢;simp only at h hg ⊢
 refine⟨t,x,hg ?_,rfl⟩
 by_cases ht:t=true
 . rw[if_pos ht]at h;exact T9 h
 . rw[if_neg ht]at h;exact h
inductive Blk1R (row:List Bool)(u:US):Bool->US->Prop
 |stored (l:Nat) (x1 x2:US):uget row 1 u=(l,x1)->uget row 2 x1=(0,x2)->x2.e=0->(ustored row x2).e=0->Blk1R row u (decide (l=1)) (ukept 0 (ustored row x2))
 |coded (l k:Nat) (x1 x2 x3:US) (a b:List Int):uget row 1 u=(l,x1)->uget row 2 x1=(k,x2)->x2.e=0->(k=1\/k=2)->uopen row k x2=((a,b),x3)->x3.e=0->(utok row a b row.length x3).e=0->Blk1R row u (decide (l=1)) (ukept k (utok row a b row.length x3))
theorem K0 {row:List Bool}{u:US}(h:(Dx row u).2.e=0):Blk1R row u (Dx row u).1 (Dx row u).2:=by
 obtain⟨l,x1,e1⟩:∃l x1,uget row 1 u=(l,x1):=⟨_,_,rfl⟩
 obtain⟨k,x2,e2⟩:∃k x2,uget row 2 x1=(k,x2):=⟨_,_,rfl⟩
 unfold Dx at h ⊢;simp only[e1,e2]at h ⊢
 by_cases c1:x2.e≠0
 . rw[if_pos c1]at h;exact absurd h c1
 . rw[if_neg c1]at h ⊢;have hx2:x2.e=0:=by omega
   by_cases c2:k=0
   . subst c2;rw[if_pos rfl]at h ⊢;exact .stored l x1 x2 e1 e2 hx2 h
   . rw[if_neg c2]at h ⊢;obtain⟨a,b,x3,e3⟩:∃a b x3,uopen row k x2=((a,b),x3):=⟨_,_,_,rfl⟩
     rw[e3]at h ⊢;simp only at h ⊢
     by_cases c3:x3.e≠0
     . rw[if_pos c3]at h;exact absurd h c3
     . rw[if_neg c3]at h ⊢;have hx3:x3.e=0:=by omega
       have hk:k=1\/k=2:=by
        by_cases d1:k=1
        . exact .inl d1
        . by_cases d2:k=2
          . exact .inr d2
          . unfold uopen at e3;rw[if_neg d1,if_neg d2]at e3;have:=(XA e3).2
            rw[<-this]at hx3;exact absurd hx3 (Cs (by decide))
       exact .coded l k x1 x2 x3 a b e1 e2 hx2 hk e3 hx3 h
end Go.Proofs.YtleocpdblhbimaaGreatDoor
