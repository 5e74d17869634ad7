import Derived.Test.YtleocpdblhbimaaGreatDoorQ1
import Derived.Lib.ConvBytes
import Derived.Deep.CutBlock
set_option linter.unusedVariables false
set_option linter.unusedSimpArgs false
set_option maxRecDepth 100000
set_option maxHeartbeats 8000000
namespace Go.Proofs.YtleocpdblhbimaaGreatDoor
open Go.Value renaming int->so,slice->va,string->vb,pointer->vc,tuple->vd,bool->ve,agg->vf
open Go.IntKind renaming i64->vh,u8->vi,u32->vj
open Go.Obj renaming cells->vl
open Go.Ending renaming returned->vm
open Option renaming none->vn,some->vp
open Bool renaming false->vq,true->vr
open Go renaming World->wd,Value->vt,Calls->vu,Addr->vw
open Go.RowKit renaming Below->vx,intOf->vy,Hid->vz
open Go.Proofs.Tryz renaming prog->v8
section
variable{row:List Bool}{c d k m n:Nat}{u:US}
theorem Ku(row:List Bool):∀(ks:List Nat) (s:List Int) (u:US),u.e≠0->(usmall row ks s u).2=u
 | [],s,u,h=>rfl
 |k::r,s,u,h=>by rw[usmall,Fw row 3 u h];exact Ku row r _ u h
theorem Xi(x:Int)(u:US)(h:u.e≠0):An x u=u:=by unfold An;rw[A0 h]
theorem QW(row:List Bool)(l:List Int)(k:Nat)(u:US)(h:u.e≠0):(ukind row l k u).2.2=u:=by unfold ukind;split;(. split;exact Xi 8 u h;exact Fw row 2 u h);. split;exact Fw row 3 u h;. split;exact Fw row 7 u h;rfl
theorem N3(tot:Nat)(l:List Int)(r:Int×Nat×US)(h:r.2.2.e≠0):(Wb tot l r).2=r.2.2:=by unfold Wb;simp only;rw[A0 (λc=>h c.1)]
theorem Z3m(row:List Bool)(u u1 u2 u3 E:US)(F G H:Nat)(S:List Int)(g1:uget row 5 u=(F,u1))(g2:uget row 5 u1=(G,u2))(ac:uget row 4 u2=(H,u3))(ae:F+257<=286)(af:G+1<=30)(aa:usmall row (ord19.take (H+4)) (List.replicate 19 0) u3=(S,E))(O:E.e=0)(I:errL S=0):Dm row u=Gy (F+257) (ulens row S (F+257+(G+1)) (F+257+(G+1)) [] E):=by(have Z:Gx row (F+257) (G+1) (H+4) u3=(S,E):=by unfold Gx;rw[A0 om];exact aa);(have U:Sp (S,E)=E:=by unfold Sp;rw[A0 (λc=>c.2 I)]);unfold Dm;simp only[g1,g2,ac];rw[Z];unfold Lk;rw[U,A0 (λc=>c O)]
theorem Pc(row:List Bool)(u u1 u2 u3:US)(E G F:Nat)(g1:uget row 5 u=(E,u1))(g2:uget row 5 u1=(G,u2))(aa:uget row 4 u2=(F,u3))(x:US)(O:x.e≠0)(Z:(usmall row (ord19.take (F+4)) (List.replicate 19 0) (if 286<E+257\/30<G+1 then An 8 u3 else u3)).2=x):(Dm row u).2=x:=by obtain⟨s,I⟩:=exq (Gx row (E+257) (G+1) (F+4) u3);(have H:s.2=x:=by rw[<-I];exact Z);(have U:Sp s=x:=by unfold Sp;rw[A0 (λc=>O (by rw[<-H];exact c.1))];exact H);unfold Dm;simp only[g1,g2,aa];rw[I];unfold Lk;rw[U,A1 O]
theorem Uk(N:Nat)(H:row.length=8*N):∀(F:Nat) (u:US),u.e=0->u.p<=row.length->u.out.length<=3000->row.length+1<=u.p+F->(Bz row F u).e=0->u.p+3<=(Bz row F u).p/\(Bz row F u).p<=row.length/\(Bz row F u).out.length<=3000/\u.ks.length+1<=(Bz row F u).ks.length/\(Bz row F u).ks.length+u.p<=u.ks.length+(Bz row F u).p
 |0,u,he,hp,ho,hF,h=>om
 |F+1,u,he,hp,ho,hF,h=>by rw[Bz]at h ⊢;by_cases c:(Bh row u).1=0/\(Bh row u).2.e=0;rw[A1 c]at h ⊢;obtain⟨a1,a2,G,E⟩:=Ia N H u he hp ho c.2;obtain⟨U,O,I,aa,Z⟩:=Uk N H F _ c.2 G E om h;exact⟨om,O,I,om,om⟩;rw[A0 c]at h ⊢;obtain⟨a1,a2,G,E⟩:=Ia N H u he hp ho h;exact⟨om,G,E,om,om⟩
theorem Ue(row:List Bool)(N:Nat)(G:row.length=8*N)(h:(Du row).e=0):3<=(Du row).p/\(Du row).p<=row.length/\(Du row).out.length<=3000/\1<=(Du row).ks.length/\(Du row).ks.length<=row.length:=by have:=Uk N G (row.length+1) O9 rfl (VF _) (VF _) (by show _<=0+_;omega) h;obtain⟨H,F,E,Z,O⟩:=this;have U:O9.p=0:=rfl;have I:O9.ks.length=0:=rfl;unfold Du;exact⟨om,F,E,om,om⟩
def Vl(u:US):Prop:=∀x∈u.out,x<256
theorem Vl.same{v:US}(h:Vl u)(e:v.out=u.out):Vl v:=λx E=>h x (by rw[<-e];exact E)
theorem Vl.at(h:Vl u)(j:Nat):u.out.getD j 0<256:=by by_cases E:j<u.out.length;rw[List.getD,VP E];exact h _ (WO E);rw[List.getD,VZ om];exact(by decide:(0:Nat)<256)
theorem El(row:List Bool)(n:Nat)(h:Vl u):Vl (uget row n u).2:=h.same (Cs row n u)
theorem Ej(l:List Int)(row:List Bool)(h:Vl u):Vl (uplace l row u).2:=h.same (Gz l row u).1
theorem L8(x:Int)(h:Vl u):Vl (An x u):=h.same (L9 x u).2.1
theorem QQ(F:c<256)(h:Vl u):Vl (Fo c u):=by unfold Fo;split;(. split;exact h;intro x G;rcases WG.1 G with E|E;exact h x E;rw[WR.1 E];exact F);exact h
theorem M1(row:List Bool):∀(k:Nat) (u:US),Vl u->Vl (ustore row k u)
 |0,u,h=>h
 |k+1,u,h=>by unfold ustore;split;exact M1 row k _ (QQ (T4 row 8 u) (El _ _ h));exact h
theorem GP(d:Nat):∀(k:Nat) (u:US),Vl u->Vl (ucopy d k u)
 |0,u,h=>h
 |k+1,u,h=>by unfold ucopy;split;exact GP d k _ (QQ (h.at _) h);exact h
theorem NN(row:List Bool)(h:Vl u):Vl (Cn row u):=by have F:Vl {u with p:=(u.p+7)/8*8}:=h;(have E:Vl (Cr row u).2:=by unfold Cr;dsimp only;split;exact L8 _ (El _ _ (El _ _ F));exact El _ _ (El _ _ F));unfold Cn;dsimp only;split;exact L8 _ E;exact M1 _ _ _ E
theorem Z11(row:List Bool)(l:List Int)(h:Vl u):Vl (Nt row l u).2:=by unfold Nt;split;exact Ej _ _ h;. split;exact Ej _ _ h;exact El _ _ (Ej _ _ h)
theorem Z5s(d k:Nat)(h:Vl u):Vl (Kh d k u):=by unfold Kh;split;exact h;. split;exact h;exact GP _ _ _ h
theorem JE(row:List Bool)(lb:List Int)(k:Nat)(h:Vl u):Vl (Cu row lb k u):=by unfold Cu;split;(. rename_i F;split;exact h;intro x G;rcases WG.1 G with E|E;exact h x E;rw[WR.1 E];exact F);. split;exact h;. split;exact El _ _ h;. split;exact Z11 _ _ (El _ _ h);exact Z5s _ _ (Z11 _ _ (El _ _ h))
theorem E8(row:List Bool)(E lb:List Int):∀(f:Nat) (u:US),Vl u->Vl (Hz row E lb f u)
 |0,u,h=>by unfold Hz;split;exact Ej _ _ h;exact Ej _ _ h
 |f+1,u,h=>by rw[Hy];split;exact Ej _ _ h;. split;exact Ej _ _ h;. split;exact JE _ _ _ (Ej _ _ h);exact E8 row E lb f _ (JE _ _ _ (Ej _ _ h))
theorem F5(k:Nat)(h:Vl u):Vl (Kg k u):=by unfold Kg;split;exact h;exact h
theorem Z5p(k:Nat)(H:u.p<=row.length)(h:Vl u)(E:(Ed row k u).e=0):Vl (Ed row k u):=by unfold Ed at E ⊢;split;exact F5 _ (NN _ h);. rename_i c0;rw[A0 c0]at E;split;exact F5 _ (E8 _ _ _ _ _ h);. rename_i c1;rw[A0 c1]at E;split;(. rename_i c2;rw[A1 c2]at E;split;(. rename_i F;rw[A1 F]at E;exact absurd E F);. rename_i F;have e0:(Dm row u).2.e=0:=om;obtain⟨A,C,v,G⟩:=sT;rw[G]at e0 ⊢;obtain⟨m0,n0,c0,u1,u2,u3,us,S,L,O⟩:=Hs G e0;obtain⟨Z,U,I,aa⟩:=Sj O H;exact F5 _ (E8 _ _ _ _ _ (h.same I)));exact h
theorem Z6(F:u.p<=row.length)(h:Vl u)(E:(Bh row u).2.e=0):Vl (Bh row u).2:=by unfold Bh at E ⊢;split;exact El _ _ h;. rename_i c;rw[A0 c]at E;split;exact El _ _ (El _ _ h);. rename_i c2;rw[A0 c2]at E;exact Z5p _ (He _ _ _ (He _ _ _ F)) (El _ _ (El _ _ h)) E
theorem Yq(N:Nat)(E:row.length=8*N):∀(F:Nat) (u:US),u.e=0->u.p<=row.length->u.out.length<=3000->Vl u->(Bz row F u).e=0->Vl (Bz row F u)
 |0,u,he,hp,ho,h,hz=>h
 |F+1,u,he,hp,ho,h,hz=>by rw[Bz]at hz ⊢;by_cases c:(Bh row u).1=0/\(Bh row u).2.e=0;rw[A1 c]at hz ⊢;obtain⟨a1,a2,H,G⟩:=Ia N E u he hp ho c.2;exact Yq N E F _ c.2 H G (Z6 hp h c.2) hz;rw[A0 c]at hz ⊢;exact Z6 hp h hz
theorem Z3(row:List Bool)(N:Nat)(E:row.length=8*N)(h:(Du row).e=0)(j:Nat):(Du row).out.getD j 0<256:=
 (Yq N E (row.length+1) O9 rfl (VF _) (VF _) (by intro x F;cases F) h).at j
theorem N7:∀ {n:Nat} {u:US},(ucopy d n u).e=0->u.out.length<=3000->u.out.length+n<=3000
 |0,u,h,ho=>om
 |n+1,u,h,ho=>by have E:=So h;rw[ucopy,A1 E]at h;obtain⟨_,G,F⟩:=Xl (So h);rw[F]at h;have ih:=N7 h (by simp only[VB,VG,WE];omega);simp only[VB,VG,WE]at ih;omega
theorem Le(row:List Bool)(a b:List Int):∀(F E:Nat) (u:US),(utok row a b F u).e=0->row.length+1<=u.p+F->row.length+1<=u.p+E->u.p<=row.length->u.out.length<=3000->Hz row a b E u=utok row a b F u
 |0,E,u,h,h1,h2,hp,ho=>om
 |F+1,0,u,h,h1,h2,hp,ho=>om
 |F+1,E+1,u,h,h1,h2,hp,ho=>by
  obtain⟨t,x,H,e⟩:=Xj h;obtain⟨a1,a2,ag,ae,I⟩:=H.ahead;rw[e]at h ⊢;rw[Hy]
  cases H with
  |stop v g1 g2=>simp[g1,g2]
  |byte c x g1 g2 g3 g4=>(have ah:x.out.length<=3000:=by have:=Ct g1 g2;rw[this.2.2.1];exact ho);(have G:Cu row b c x= {x with out:=x.out++ [c]}:=by unfold Cu;rw[A1 g3,A0 om]);rw[g1];simp only;rw[A0 (λh=>h g2),A0 om,G,A0 (λh=>h g2),A1 trivial];rw[A1 rfl]at h;exact Le row a b F E _ h om om a2 (I ho)
  |same k n0 f d0 x1 x2 x3 x4 _ g1 g2 g3 g4 g5 g6 g7 g8 g9 g10 g11 g12 g13 g14=>have p1:=Ct g1 g2;have aa:=Bj g5 g6;have O:=Ct g7 g8;have U:=Bj g10 g11;(have ac:x4.out.length<=3000:=by rw[U.2.2.1,O.2.2.1,aa.2.2.1,p1.2.2.1];exact ho);have af:=N7 (by rw[g13];exact g14:(ucopy ((farsL.getD f (0,0)).1+d0) ((samesL.getD (k-257) (0,0)).1+n0) x4).e=0) ac;(have G:Cu row b k x1=x:=by unfold Cu;rw[A0 om,A0 om,Y9 k g3 g4,g5];simp only;(have Z:Nt row b x2=((farsL.getD f (0,0)).1+d0,x4):=by unfold Nt;rw[g7];simp only;rw[A0 (λh=>h g8),A0 om,Z1 f g9,g10]);rw[A0 (λh=>h g6),Z];simp only;rw[A0 (λh=>h g11)];unfold Kh;rw[A0 om,A0 om,g13]);rw[g1];simp only;rw[A0 (λh=>h g2),A0 om,G,A0 (λh=>h g14),A1 trivial];rw[A1 rfl]at h;exact Le row a b F E _ h om om a2 (I ho)
theorem Zz(row:List Bool)(u:US):(uget row 1 u).1<2:=by have:=T4 row 1 u;simpa using this
theorem Z13{x:US}{t:Bool}(h:Blk1R row u t x)(ar:u.p<=row.length)(U:u.out.length<=3000):∃l,l<2/\t=decide (l=1)/\Bh row u=(l,x):=by
 cases h with
 |stored l x1 x2 h1 h2 h3 E=>obtain⟨aj,G,I,ai,F⟩:=Bj h2 h3;obtain⟨ac,af,H,ae,_⟩:=Bj h1 F;have hl:=Zz row u;rw[h1]at hl;refine⟨l,hl,rfl,?_⟩;unfold Bh;rw[h1];simp only;rw[A0 (λh=>h F),h2];simp only;rw[A0 (λh=>h h3)];unfold Ed Kg;rw[A1 rfl,NO row x2 (by rw[I,H];exact U) E,A1 E]
 |coded l k x1 x2 x3 a b h1 h2 h3 E h5 h6 h7=>obtain⟨aj,G,I,ai,F⟩:=Bj h2 h3;obtain⟨ac,af,H,ae,_⟩:=Bj h1 F;have hl:=Zz row u;rw[h1]at hl;(have O:x2.out.length<=3000:=by rw[I,H];exact U);refine⟨l,hl,rfl,?_⟩;unfold Bh;rw[h1];simp only;rw[A0 (λh=>h F),h2];simp only;rw[A0 (λh=>h h3)];rcases E with E|E;subst E;unfold uopen at h5;rw[A1 rfl]at h5;have ah:=(VM h5).2;have e2:=VM (VM h5).1;subst ah;rw[<-e2.1,<-e2.2]at h7 ⊢;unfold Ed Kg;rw[A0 od,A1 rfl,Le row Pu Lj row.length (row.length+1) x2 h7 om om G O,A1 h7];subst E;unfold uopen at h5;rw[A0 od,A1 rfl]at h5;obtain⟨m0,n0,c0,ap,v2,ak,us,al,av,ag⟩:=Hs h5 h6;obtain⟨au,Z,aa,ao⟩:=Sj ag G;unfold Ed Kg;rw[A0 od,A0 od,A1 rfl,h5];simp only;rw[A0 (λh=>h h6),Le row a b row.length (row.length+1) x3 h7 om om Z (by rw[aa];exact O),A1 h7]
theorem Ys(row:List Bool):∀(F:Nat) (u:US),(Dn row F u).e=0->u.p<=row.length->u.out.length<=3000->Bz row F u=Dn row F u
 |0,u,h,hp,ho=>rfl
 |F+1,u,h,hp,ho=>by obtain⟨t,x,G,e⟩:=A4 h;obtain⟨a1,a2,O,aa,U⟩:=G.ahead;obtain⟨l,hl,H,hi⟩:=Z13 G hp ho;rw[e]at h ⊢;rw[Bz,hi];simp only;by_cases E:l=0;(have I:t=false:=by rw[H,E];rfl);rw[A1 ⟨E,O⟩,A1 I];rw[A1 I]at h;exact Ys row F x h a2 (U ho);(have Z:¬t=false:=by rw[H,show l=1 by omega];decide);rw[A0 (λh=>E h.1),A0 Z]
theorem NH(row:List Bool)(h:(Qr row).e=0):Du row=Qr row:=Ys row _ _ h (VF _) (by simp[O9])
theorem JV:∀ {l:List Fl} {p:Option Fl},K7 p l=0->∀f∈l,Lg f=0
 | [],p,h,f,E=>by cases E
 |g::r,p,h,f,E=>by unfold K7 at h;by_cases e:Lg g=0;(. rw[A0 (by rw[e];decide)]at h;split at h;(. cases h);rcases VV.1 E with rfl|E;exact e;exact JV h f E);rw[A1 e]at h;exact absurd h e
theorem Hf{l:List Fl}(h:errM l=0):l.length<=12/\∀f∈l,Lg f=0:=by unfold errM at h;split at h;(. cases h);exact⟨om,JV h⟩
theorem Oi{f:Fl}(h:Lg f=0):f.name.length<=40/\f.bytes.length<=3000/\0<=f.stamp/\f.stamp<=1000000/\0<=f.node/\f.node<=3:=by unfold Lg at h;split at h;(. rename_i E;exact absurd h E);. rename_i E;(have F:Ln f.name=0:=by by_cases e:Ln f.name=0;exact e;exact absurd e E);split at h;(. cases h);. split at h;(. cases h);have:=(Za0 F).1;omega
structure aR(n:Nat)(x:En):Prop where
 mt:x.meth<65536
 cr:x.crc<4294967296
 pl:x.pk.length<=n
 st:0<=x.f.stamp/\x.f.stamp<4294967296
 nd:0<=x.f.node/\x.f.node<65536
 nm:x.f.name.length<=n/\x.f.name.length<65536
 un:∃ys,unpF x.meth x.pk=vp ys/\x.f.bytes=o8 ys
theorem aR.mono{x:En}(h:aR n x)(E:n<=m):aR m x:=⟨h.mt,h.cr,WJ h.pl E,h.st,h.nd,⟨WJ h.nm.1 E,h.nm.2⟩,h.un⟩
theorem Y3{l:List Nat}(F:l.length=k)(E:∀x∈l,x<256):Ak l<256^k:=by rw[<-F];exact Ip l E
theorem Z68{r q:List Nat}{x:En}(F:∀y∈r,y<256)(h:Vx r=vp (x,q)):aR r.length x:=by
 unfold Vx at h;obtain⟨a1,r1,rfl,l1,h⟩:=Ap h;dsimp only at h;obtain⟨a2,r2,rfl,l2,h⟩:=Ap h;dsimp only at h;obtain⟨av,ag,rfl,a3,h⟩:=Ap h;dsimp only at h;obtain⟨a4,al,rfl,aa,h⟩:=Ap h;dsimp only at h;obtain⟨ax,ay,rfl,aj,h⟩:=Ap h;dsimp only at h;obtain⟨ba,ak,rfl,bf,h⟩:=Ap h;dsimp only at h;obtain⟨ah,ap,rfl,ac,h⟩:=Ap h;dsimp only at h;obtain⟨af,bg,rfl,au,h⟩:=Ap h;dsimp only at h;obtain⟨a7,a8,rfl,a9,h⟩:=Ap h;dsimp only at h;obtain⟨aw,ar,rfl,l10,h⟩:=Ap h;dsimp only at h;obtain⟨a5,az,rfl,H,h⟩:=Ap h;dsimp only at h;obtain⟨bd,bc,rfl,O,h⟩:=Ap h;dsimp only at h;obtain⟨bh,a6,rfl,ai,h⟩:=Ap h;dsimp only at h;obtain⟨U,bb,rfl,ao,h⟩:=Ap h;dsimp only at h
 cases G:unpF (Ak a2) U with
 |none=>rw[G]at h;cases h
 |some b=>rw[G]at h;simp only[VS,YI,ZH]at h;obtain⟨rfl,rfl⟩:=h;have v2:=Y3 l2 (λz E=>F z (by simp[E]));have v4:=Y3 aa (λz E=>F z (by simp[E]));have Z:=Y3 ac (λz E=>F z (by simp[E]));have ae:=Y3 H (λz E=>F z (by simp[E]));have I:=Y3 O (λz E=>F z (by simp[E]));simp only[Nat.reducePow]at v2 v4 Z ae I;refine⟨v2,v4,by simp only[VB];omega,⟨by dsimp only;omega,by dsimp only;omega⟩,⟨by dsimp only;omega,by dsimp only;omega⟩,⟨by dsimp only;rw[Fg];simp only[VB];omega,by dsimp only;rw[Fg];omega⟩,b,G,rfl⟩
theorem Ux:∀ {F:Nat} {r:List Nat} {l:List En},(∀y∈r,y<256)->Cd F r=vp l->l.length*41<=r.length/\∀x∈l,aR r.length x
 |0,r,l,_,h=>by cases h
 |F+1,r,l,hv,h=>by
  unfold Cd at h;obtain⟨m,q,rfl,hl,h⟩:=Ap h;dsimp only at h;split at h
  . cases G:Vx q with
    |none=>rw[G]at h;cases h
    |some p=>rw[G]at h;simp only[VS,XK]at h;obtain⟨l2,O,rfl⟩:=h;have hm:=Uz (x:=p.1) (q:=p.2) G;have H:∀y∈q,y<256:=λy I=>hv y (by simp[I]);have ih:=Ux (hm.2.1 H).2 O;have U:=hm.1;refine⟨by rw[VG,VB];omega,λx E=> ?_⟩;rcases VV.1 E with rfl|E;exact(Z68 H G).mono uW;exact(ih.2 x E).mono uW
  . cases h;exact⟨VF _,λx E=>by cases E⟩
end
section
open Go.RowKit Go.Proofs.Tryz
variable{ag:Array Oper}{gn:Bool}{Q:Exit->Act->World->Prop}{row:List Bool}{bs pk ys:List Nat}{al:List Oper}{au:List Value}{G X aa ac ai cr g i j k m mt n nd o st:Nat}{a ah:Option Addr}{u:US}{E I a3 a4 ay az v:Value}{W w w':World}
theorem FU(G F:vt)(H E:ByteArray)(w:wd)(O:(convert 23 9 G).run v8 w=.ok (vb H) w)(I:(convert 23 9 F).run v8 w=.ok (vb E) w):vu v8 13 #[G,F] w λe w'=>e=vm (ve (H.toList==E.toList))/\w'=w:=by go_enter func13,ntmps13;go_wp2;go_ret;exact⟨rfl,rfl⟩
def Zas(xs:List Nat):ByteArray:=⟨(xs.map UInt8.ofNat).toArray⟩
theorem Sy(xs:List Nat):(Zas xs).toList=xs.map UInt8.ofNat:=by rw[Lib.toList_data];rfl
theorem FJ(a:Option vw)(E F:Nat)(xs:List Nat)(w:wd)(H:xs.length=E)(G:BytesIn w a xs):(convert 23 9 (va a E F)).run v8 w=.ok (vb (Zas xs)) w:=by rcases G with rfl|⟨b,o,rfl,_,G⟩;(. (obtain rfl:E=0:=by simp at H;omega);rw[run_convert_bytes_string w 23 9 5 _ 0 F underlying23 underlying5 underlying9];cases a<;>simp[Conv.bytesToString,loadCells,Zas];all_goals rfl);have h:=run_convert_bytes_arg (P:=v8) w 23 5 underlying23 underlying5 b o E F (xs.map λx:Nat=>(x:Int)) (by simpa using H) (by intro i hi;rw[G i om];have:i<xs.length:=om;simp[List.getD,this]) 9 underlying9;rw[h];simp[strOfNums,Zas,ZM]
theorem TY{xs:List Nat}(G:∀j,xs.getD j 0<256)(H:∀j,ys.getD j 0<256)(h:xs.map UInt8.ofNat=ys.map UInt8.ofNat):xs=ys:=by(have hl:xs.length=ys.length:=by have:=congrArg List.length h;simpa using this);apply XM hl;intro j E F;have e:=congrArg (λl:List UInt8=>l[j]?) h;simp[E,F]at e;have a1:=G j;have a2:=H j;simp[List.getD,E]at a1;simp[List.getD,F]at a2;have e2:=congrArg UInt8.toNat e;simp only[UInt8.toNat_ofNat']at e2;omega
theorem Vt(E H:Option vw)(F O G I:Nat)(xs ys:List Nat)(w:wd)(ae:xs.length=F)(Z:ys.length=G)(af:∀j,xs.getD j 0<256)(aa:∀j,ys.getD j 0<256)(ac:BytesIn w E xs)(U:BytesIn w H ys):vu v8 13 #[va E F O,va H G I] w λe w'=>e=vm (ve (xs==ys))/\w'=w:=by refine(FU _ _ (Zas xs) (Zas ys) w (FJ E F O xs w ae ac) (FJ H G I ys w Z U)).mono ?_;rintro e w' ⟨rfl,rfl⟩;refine⟨Hc ?_,rfl⟩;rw[Sy,Sy,XU,Lq,Lq];exact⟨TY af aa,λh=>by rw[h]⟩
structure EWd(x:En):Prop where
 st:0<=x.f.stamp/\x.f.stamp<4294967296
 nd:0<=x.f.node/\x.f.node<65536
 nm:x.f.name.length<=12000
 bl:x.f.bytes.length<=12000
 pl:x.pk.length<=12000
 cr:x.crc<4294967296
 mt:x.meth<65536
theorem JL:∀(l:List En),(∀x∈l,EWd x)->(Au l).length<=24041*l.length
 | [],_=>by simp[Au]
 |x::r,h=>by have F:=JL r (λy E=>h y (WL _ E));have G:=(h x oS).nm;have H:=(h x oS).pl;rw[Au,VB,Lf,VG];omega
theorem O4:∀(l:List En) (p:Nat),(∀x∈l,EWd x)->(Ao p l).length<=12057*l.length
 | [],p,_=>by simp[Ao]
 |x::r,p,h=>by have F:=O4 r (p+(Vw x).length) (λy E=>h y (WL _ E));have G:=(h x oS).nm;rw[Ao,VB,My,VG];omega
def Ev.rcells(x:Ev):List Value:= [vb (B x.e.f.name),va x.fa x.e.f.bytes.length x.fc,so vh x.e.f.stamp,so vh x.e.f.node,ve x.e.f.gone,so vh (x.e.meth:Int),va x.pa x.e.pk.length x.pc,so vj (x.e.crc:Int)]
variable{es:List Ev}
def Rs(w:wd)(b o:Nat)(xs:List Ev):Prop:=∀j x,xs[j]? =vp x->∀i,i<8->w.cell? ⟨b,o+j*8+i,vn⟩=x.rcells[i]?
structure K8(w:wd)(ad:Option vw)(xs:List Ev):Prop where
 at_:xs= []\/∃b o,ad=vp ⟨b,o,vn⟩/\b<w.heap.size/\Rs w b o xs
 all:∀x∈xs,EvIn w x/\x.e.pk.length<=x.pc
theorem K8.get{xs:List Ev}{x:Ev}(h:K8 w ah xs)(I:vx w.heap.size w w')(F:xs[k]? =vp x):∃b o,ah=vp ⟨b,o,vn⟩/\b<w.heap.size/\w'.cell? ⟨b,o+k*8,vn⟩=vp (vb (B x.e.f.name))/\w'.cell? ⟨b,o+k*8+1,vn⟩=vp (va x.fa x.e.f.bytes.length x.fc)/\w'.cell? ⟨b,o+k*8+2,vn⟩=vp (so vh x.e.f.stamp)/\w'.cell? ⟨b,o+k*8+3,vn⟩=vp (so vh x.e.f.node)/\w'.cell? ⟨b,o+k*8+4,vn⟩=vp (ve x.e.f.gone)/\w'.cell? ⟨b,o+k*8+5,vn⟩=vp (so vh (x.e.meth:Int))/\w'.cell? ⟨b,o+k*8+6,vn⟩=vp (va x.pa x.e.pk.length x.pc)/\w'.cell? ⟨b,o+k*8+7,vn⟩=vp (so vj (x.e.crc:Int)):=by rcases h.at_ with H|⟨b,o,e,hb,G⟩;subst H;simp at F;have E:∀i,i<8->w'.cell? ⟨b,o+k*8+i,vn⟩=x.rcells[i]? :=λi hi=>(FA (w:=w) (a:=⟨b,_,vn⟩) (I.block b hb)).trans (G k x F i hi);exact⟨b,o,e,hb,E 0 od,E 1 od,E 2 od,E 3 od,E 4 od,E 5 od,E 6 od,E 7 od⟩
theorem PIn.sized(h:PIn w v bs):∃a l c,v=va a l c/\bs.length=l:=by obtain⟨a,c,e,_⟩:=h;exact⟨a,_,c,e,rfl⟩
theorem Z2y(w:wd)(e:TypeId)(s:ByteArray):vx w.heap.size w (Lib.bytesWorld w e s):=by refine⟨?_,?_,?_,by rw[Lib.bytesWorld_size];omega,λk E=>Lib.bytesWorld_at_old w e s k E⟩;simp[Lib.bytesWorld,World.freeze];rfl;simp[Lib.bytesWorld,World.freeze];simp[Lib.bytesWorld,World.freeze];rfl
theorem Z2h(w:wd)(l:List UInt8):PIn (Lib.bytesWorld w 5 (B l)) (va (vp ⟨w.heap.size,0,vn⟩) (B l).size (grownCap w (B l).size 0 5)) (n8 l):=by refine⟨vp ⟨w.heap.size,0,vn⟩,_,by rw[Cf,Jp],by rw[Cf];exact WJ (UB (Jp l).symm) (grownCap_ge _ _ _ _),.inr ⟨_,_,rfl,by rw[Lib.bytesWorld_size];omega,λj E=> ?_⟩,λe=>by cases e⟩;rw[Cf]at E;rw[VY,Lib.bytesWorld_cell w _ _ j (by rw[Jp];exact E)];simp[B,n8,List.getD,E]
def SZ(w:wd)(nm:ByteArray):World:=Lib.bytesWorld w 5 nm
def U5(w:wd):Option Addr:=vp ⟨w.heap.size,0,vn⟩
def U3(nm:ByteArray):Nat:=nm.size
def U4(w:wd)(nm:ByteArray):Nat:=grownCap w nm.size 0 5
theorem Z7o(E:ByteArray):∀W:wd,(convert 9 23 (vb E)).run v8 W=.ok (va (U5 W) (U3 E) (U4 W E)) (SZ W E):=λW=>
 Lib.run_convert_string_bytes (P:=v8) W 9 23 5 E underlying9 underlying23 underlying5
theorem Ve(W:wd)(E:ByteArray)(nml:List UInt8)(F:B nml=E):PIn (SZ W E) (va (U5 W) (U3 E) (U4 W E)) (n8 nml)/\vx W.heap.size W (SZ W E):=by subst F;exact⟨Z2h W nml,Z2y W _ _⟩
theorem PIn.slice(h:PIn w v bs):∃a l c,v=va a l c:=by obtain⟨a,c,e,_⟩:=h;exact⟨a,_,c,e⟩
theorem SO{l:List En}{nml bys:List UInt8}(h:l.take (k+1)=l.take k++ [⟨⟨nml,bys,(st:Int),(nd:Int),gn⟩,mt,pk,cr⟩])(H:nml.length=ac)(E:bys.length=G)(I:pk.length=aa)(F:(Au (l.take k)).length=ai):Au (l.take (k+1))=([Au (l.take k),Ah 67324752 4,([Ah 20 2,Ah 0 2,Ah mt 2,Ah 0 4,Ah cr 4,Ah aa 4,Ah G 4,Ah ac 2,Ah 11 2]:List (List Nat)).flatten,n8 nml,([Ah 29297 2,Ah 7 2,Ah st 4,Ah nd 2,Ah (Fy gn) 1]:List (List Nat)).flatten,pk]:List (List Nat)).flatten/\Ao 0 (l.take (k+1))=([Ao 0 (l.take k),Ah 33639248 4,Ah 20 2,([Ah 20 2,Ah 0 2,Ah mt 2,Ah 0 4,Ah cr 4,Ah aa 4,Ah G 4,Ah ac 2,Ah 11 2]:List (List Nat)).flatten,Ah 0 10,Ah ai 4,n8 nml,([Ah 29297 2,Ah 7 2,Ah st 4,Ah nd 2,Ah (Fy gn) 1]:List (List Nat)).flatten]:List (List Nat)).flatten:=by subst H E I F;rw[h,AB,Xv];constructor;simp[Vw,Wt,Kl];simp[Tb,Wt,Kl]
theorem Zeg(E:List Nat)(nml:List UInt8)(mt cr G I F st nd:Nat)(gn:Bool)(H:Nat)(h:E.length<=12057*12)(O:nml.length<=12000):([E,Ah 33639248 4,Ah 20 2,([Ah 20 2,Ah 0 2,Ah mt 2,Ah 0 4,Ah cr 4,Ah G 4,Ah I 4,Ah F 2,Ah 11 2]:List (List Nat)).flatten,Ah 0 10,Ah H 4,n8 nml,([Ah 29297 2,Ah 7 2,Ah st 4,Ah nd 2,Ah (Fy gn) 1]:List (List Nat)).flatten]:List (List Nat)).flatten.length<=281474976710656:=by simp[Ag,Cf];omega
theorem Zef(E pk:List Nat)(nml:List UInt8)(mt cr G H F st nd:Nat)(gn:Bool)(h:E.length<=24041*12)(O:nml.length<=12000)(I:pk.length<=12000):([E,Ah 67324752 4,([Ah 20 2,Ah 0 2,Ah mt 2,Ah 0 4,Ah cr 4,Ah G 4,Ah H 4,Ah F 2,Ah 11 2]:List (List Nat)).flatten,n8 nml,([Ah 29297 2,Ah 7 2,Ah st 4,Ah nd 2,Ah (Fy gn) 1]:List (List Nat)).flatten,pk]:List (List Nat)).flatten.length<=281474976710656:=by simp[Ag,Cf];omega
theorem Zdl(E F:List Nat)(n G H:Nat)(O:E.length<=24041*12)(I:F.length<=12057*12):([E,F,Ah 101010256 4,Ah 0 4,Ah n 2,Ah n 2,Ah G 4,Ah H 4,Ah 0 2]:List (List Nat)).flatten.length<=281474976710656:=by simp[Ag];omega
theorem Z6n{l:List En}(h:l.take n=l)(H:l.length=n)(F:(Au (l.take n)).length=ac)(E:(Ao 0 (l.take n)).length=G):Ba l=([Au (l.take n),Ao 0 (l.take n),Ah 101010256 4,Ah 0 4,Ah n 2,Ah n 2,Ah G 4,Ah ac 4,Ah 0 2]:List (List Nat)).flatten:=by subst F E H;rw[h];simp[Ba,Sa]
theorem JB(n E:Nat){a:wd}{bs:List (List Nat)}(h:vx a.heap.size a w)(F:PIns w au bs)(U:n<=9223372036854775807)(O:E<=100):vu v8 62 #[so vh n,so vh E] w λe w'=>∃x l c,e=vm (va x l c)/\vx a.heap.size a w'/\PIns w' (au++ [va x l c]) (bs++ [Ah n E]):=by
 refine(Fu n E w U O).mono ?_;rintro e w' ⟨x,l,c,rfl,I,G⟩;refine⟨x,l,c,rfl,h.trans (G.mono h.size),?_⟩;have H:=F.keep G;clear F
 induction H with
 |nil=>exact .cons I .nil
 |cons h3 _ ih=>exact .cons h3 ih
theorem CH(n E:Nat){a:wd}(h:vx a.heap.size a w)(I:n<=9223372036854775807)(H:E<=100):vu v8 62 #[so vh n,so vh E] w λe w'=>∃x l c,e=vm (va x l c)/\PIn w' (va x l c) (Ah n E)/\vx w.heap.size w w'/\vx a.heap.size a w':=by refine(Fu n E w I H).mono ?_;rintro e w' ⟨x,l,c,rfl,G,F⟩;exact⟨x,l,c,rfl,G,F,h.trans (F.mono h.size)⟩
def unpD(m:Nat)(pk:List Nat):Option (List Nat):=
 if m=0 then vp pk
 else if m=8 then (if (Qr (rowB pk pk.length)).e=0/\((Qr (rowB pk pk.length)).p+7)/8=pk.length/\pk.length<=6000 then vp (Qr (rowB pk pk.length)).out else vn)
 else vn
def Cz(r:List Nat)(i j:Nat):Nat:=Ak ((r.drop i).take (j-i))
theorem Dl{r:List Nat}(F:∀y∈r,y<256)(G:j-i=k):Cz r i j<256^k:=by unfold Cz;rw[G];have E:=Ip ((r.drop i).take k) (λy H=>F y (WM (VU H)));exact VC E (VN od qAM)
def QD(b:List Nat)(at_:Nat)(r:List Nat):Option (En×List Nat):=
 if r.length<46 then vn
 else if r.length<46+Cz r 28 30+11\/at_<Cz r 42 46+30+Cz r 28 30+11+Cz r 20 24 then vn
 else (unpD (Cz r 10 12) ((b.drop (Cz r 42 46+30+Cz r 28 30+11)).take (Cz r 20 24))).bind λys=>
  vp (⟨⟨o8 ((r.drop 46).take (Cz r 28 30)),o8 ys,(Cz ((r.drop (46+Cz r 28 30)).take 11) 4 8:Nat),(Cz ((r.drop (46+Cz r 28 30)).take 11) 8 10:Nat),decide (((r.drop (46+Cz r 28 30)).take 11).getD 10 0=1)⟩,Cz r 10 12,(b.drop (Cz r 42 46+30+Cz r 28 30+11)).take (Cz r 20 24),Cz r 16 20⟩,r.drop (46+Cz r 28 30+11))
def Px(b:List Nat)(at_:Nat):Nat->List Nat->Option (List En)
 |0,_=>vp []
 |k+1,r=>(QD b at_ r).bind λx=>(Px b at_ k x.2).map (x.1:: ·)
def Xa(b:List Nat):Option (List En):=
 if b.length<22 then vn
 else if 12<Cz (b.drop (b.length-22)) 8 10\/Cz (b.drop (b.length-22)) 16 20+Cz (b.drop (b.length-22)) 12 16+22≠b.length then vn
 else Px b (Cz (b.drop (b.length-22)) 16 20) (Cz (b.drop (b.length-22)) 8 10) ((b.drop (Cz (b.drop (b.length-22)) 16 20)).take (Cz (b.drop (b.length-22)) 12 16))
theorem Zci{p:List Nat}(x q:List Nat)(F:p.length=i)(E:x.length=j-i):Cz (p++(x++q)) i j=Ak x:=by unfold Cz;rw[ZB F,ZA E]
theorem Hp(p q:List Nat)(E:p.length=i)(G:k=j-i)(F:n<256^k):Cz (p++(Ah n k++q)) i j=n:=by rw[Zci _ q E (by rw[Ag];exact G),Ck k n F]
structure UV(x:En):Prop where
 st:0<=x.f.stamp/\x.f.stamp<4294967296
 nd:0<=x.f.node/\x.f.node<65536
 nm:x.f.name.length<65536
 pl:x.pk.length<4294967296
 cr:x.crc<4294967296
 mt:x.meth<65536
 un:unpD x.meth x.pk=vp (n8 x.f.bytes)
theorem Z6a(b:List Nat)(E p:Nat){x:En}(t:List Nat)(h:UV x)(G:p<4294967296)(ah:p+41+x.f.name.length+x.pk.length<=E) (ac:(b.drop (p+30+x.f.name.length+11)).take x.pk.length=x.pk):QD b E (Tb x p++t)=vp (x,t):=by obtain⟨⟨Z,st1⟩,⟨U,ag⟩,nm,pl,cr,mt,un⟩:=h;(have e:Tb x p++t=Ah 33639248 4++(Ah 20 2++(Ah 20 2++(Ah 0 2++(Ah x.meth 2++(Ah 0 4++(Ah x.crc 4++(Ah x.pk.length 4++(Ah x.f.bytes.length 4++(Ah x.f.name.length 2++(Ah 11 2++(Ah 0 10++(Ah p 4++(n8 x.f.name++(Kl x++t)))))))))))))):=by simp only[Tb,Wt,VO]);(have c1:Cz (Tb x p++t) 10 12=x.meth:=by rw[e,show ∀a b c d r:List Nat,a++(b++(c++(d++r)))=(a++(b++(c++d)))++r from λa b c d r=>oS];exact Hp _ _ uH rfl mt);(have c2:Cz (Tb x p++t) 16 20=x.crc:=by rw[e,show ∀a b c d f g r:List Nat,a++(b++(c++(d++(f++(g++r)))))=(a++(b++(c++(d++(f++g)))))++r from λa b c d f g r=>oS];exact Hp _ _ uH rfl cr);(have I:Cz (Tb x p++t) 20 24=x.pk.length:=by rw[e,show ∀a b c d f g h r:List Nat,a++(b++(c++(d++(f++(g++(h++r))))))=(a++(b++(c++(d++(f++(g++h))))))++r from λa b c d f g h r=>oS];exact Hp _ _ uH rfl pl);(have af:Cz (Tb x p++t) 28 30=x.f.name.length:=by rw[e,show ∀a b c d f g h i j r:List Nat,a++(b++(c++(d++(f++(g++(h++(i++(j++r))))))))=(a++(b++(c++(d++(f++(g++(h++(i++j))))))))++r from λa b c d f g h i j r=>oS];exact Hp _ _ uH rfl nm);(have O:Cz (Tb x p++t) 42 46=p:=by rw[e,show ∀a b c d f g h i j k l m r:List Nat,a++(b++(c++(d++(f++(g++(h++(i++(j++(k++(l++(m++r)))))))))))=(a++(b++(c++(d++(f++(g++(h++(i++(j++(k++(l++m)))))))))))++r from λa b c d f g h i j k l m r=>oS];exact Hp _ _ uH rfl G);(have F:(Tb x p++t).drop 46=n8 x.f.name++(Kl x++t):=by rw[e,show ∀a b c d f g h i j k l m n r:List Nat,a++(b++(c++(d++(f++(g++(h++(i++(j++(k++(l++(m++(n++r))))))))))))=(a++(b++(c++(d++(f++(g++(h++(i++(j++(k++(l++(m++n))))))))))))++r from λa b c d f g h i j k l m n r=>oS];exact ZB uH);(have dx:(Tb x p++t).drop (46+x.f.name.length)=Kl x++t:=by rw[<-YF,F,ZB (Cf _)]);(have ae:(Tb x p++t).drop (46+x.f.name.length+11)=t:=by rw[<-YF,dx,ZB (Jb x)]);have aa:(Kl x++t).take 11=Kl x:=ZA (Jb x);(have hl:(Tb x p++t).length=57+x.f.name.length+t.length:=by rw[VB,My]);unfold QD;rw[A0 uL,af,O,I,A0 uL,c1,ac,un,VS,c2,dx,aa,ae,F,ZA (Cf _),MT,MT];(have x1:Cz (Kl x) 4 8=x.f.stamp.toNat:=by(have e2:Kl x=(Ah 29297 2++Ah 7 2)++(Ah x.f.stamp.toNat 4++(Ah x.f.node.toNat 2++Ah (Fy x.f.gone) 1)):=by simp[Kl]);rw[e2];exact kK);(have x2:Cz (Kl x) 8 10=x.f.node.toNat:=by(have e2:Kl x=(Ah 29297 2++(Ah 7 2++Ah x.f.stamp.toNat 4))++(Ah x.f.node.toNat 2++Ah (Fy x.f.gone) 1):=by simp[Kl]);rw[e2];exact yP);(have H:(Kl x).getD 10 0=Fy x.f.gone:=by(have e2:Kl x=(Ah 29297 2++(Ah 7 2++(Ah x.f.stamp.toNat 4++Ah x.f.node.toNat 2)))++Ah (Fy x.f.gone) 1:=by simp[Kl]);rw[e2,XG,VX uH];cases x.f.gone<;>simp[Ah,Fy]);(have x3:decide ((Kl x).getD 10 0=1)=x.f.gone:=by rw[H];cases x.f.gone<;>rfl);have y1:((x.f.stamp.toNat:Nat):Int)=x.f.stamp:=ZD Z;have y2:((x.f.node.toNat:Nat):Int)=x.f.node:=ZD U;rw[x1,x2,x3,y1,y2]
theorem Uy(b:List Nat)(E:Nat):∀(l:List En) (pre:List Nat) (t:List Nat),(∀x∈l,UV x)->b=pre++(Au l++t)->E=pre.length+(Au l).length->E<4294967296->∀s,Px b E l.length (Ao pre.length l++s)=vp l
 | [],pre,t,_,_,_,_,s=>rfl
 |x::l,pre,t,h,hb,ha,hlt,s=>by have I:=h x oS;have O:=Lf x;rw[Au,VB]at ha;(have F:Ao pre.length (x::l)++s=Tb x pre.length++(Ao (pre++Vw x).length l++s):=by rw[Ao,VO,VB]);(have e2:b=(pre++Vw x)++(Au l++t):=by rw[hb,Au];simp);(have e3:(b.drop (pre.length+30+x.f.name.length+11)).take x.pk.length=x.pk:=by(have H:b=(pre++(Ah 67324752 4++Wt x++n8 x.f.name++Kl x))++(x.pk++(Au l++t)):=by rw[e2,Vw];simp);rw[H,ZB (by simp[Ag,Np,Jb,Cf];omega),ZA rfl]);rw[VG,Px,F,Z6a b E pre.length _ I om om e3,VS];dsimp only;rw[Uy b E l (pre++Vw x) t (λy G=>h y (WL _ G)) e2 uW hlt s];rfl
theorem Z1r(l:List En)(h:∀x∈l,UV x)(O:l.length<=12)(I:(Ba l).length<4294967296):Xa (Ba l)=vp l:=by(have H:(Ba l).length=(Au l).length+(Ao 0 l).length+22:=by unfold Ba;rw[VB,VB,G7]);(have E:(Ba l).drop ((Ba l).length-22)=Sa l.length (Ao 0 l).length (Au l).length:=by(have:(Ba l).length-22=(Au l++Ao 0 l).length:=by rw[H,VB];omega);rw[this];unfold Ba;rw[List.drop_left]);(have c1:Cz (Sa l.length (Ao 0 l).length (Au l).length) 8 10=l.length:=by(have e:Sa l.length (Ao 0 l).length (Au l).length=(Ah 101010256 4++Ah 0 4)++(Ah l.length 2++(Ah l.length 2++(Ah (Ao 0 l).length 4++(Ah (Au l).length 4++Ah 0 2)))):=by simp[Sa]);rw[e];exact yP);(have c2:Cz (Sa l.length (Ao 0 l).length (Au l).length) 12 16=(Ao 0 l).length:=by(have e:Sa l.length (Ao 0 l).length (Au l).length=(Ah 101010256 4++(Ah 0 4++(Ah l.length 2++Ah l.length 2)))++(Ah (Ao 0 l).length 4++(Ah (Au l).length 4++Ah 0 2)):=by simp[Sa]);rw[e];exact kK);(have G:Cz (Sa l.length (Ao 0 l).length (Au l).length) 16 20=(Au l).length:=by(have e:Sa l.length (Ao 0 l).length (Au l).length=(Ah 101010256 4++(Ah 0 4++(Ah l.length 2++(Ah l.length 2++Ah (Ao 0 l).length 4))))++(Ah (Au l).length 4++Ah 0 2):=by simp[Sa]);rw[e];exact kK);unfold Xa;rw[A0 om,E,c1,c2,G,A0 om];(have F:((Ba l).drop (Au l).length).take (Ao 0 l).length=Ao 0 l:=by unfold Ba;rw[VO,ZB rfl,ZA rfl]);rw[F];have:=Uy (Ba l) (Au l).length l [] (Ao 0 l++Sa l.length (Ao 0 l).length (Au l).length) h (by unfold Ba;simp) oS om [];rw[XB]at this;exact this
def rcellsL(xs:List Ev):List Value:=xs.flatMap Ev.rcells
theorem DN(xs:List Ev):(rcellsL xs).length=xs.length*8:=by
 induction xs with
 |nil=>rfl
 |cons x r ih=>have:rcellsL (x::r)=x.rcells++rcellsL r:=rfl;rw[this,VB,ih,VG];show 8+_=_;omega
theorem DO(xs ys:List Ev):rcellsL (xs++ys)=rcellsL xs++rcellsL ys:=by simp[rcellsL]
theorem DM(y:Ev):rcellsL [y]=y.rcells:=by simp[rcellsL]
theorem Yg:∀(xs:List Ev) (j:Nat) (x:Ev) (i:Nat),xs[j]? =vp x->i<8->(rcellsL xs)[j*8+i]? =x.rcells[i]?
 | [],j,x,i,h,_=>by simp at h
 |y::r,0,x,i,h,hi=>by have:rcellsL (y::r)=y.rcells++rcellsL r:=rfl;exact qBK
 |y::r,j+1,x,i,h,hi=>by have e:rcellsL (y::r)=y.rcells++rcellsL r:=rfl;have hl:y.rcells.length=8:=rfl;have ih:=Yg r j x i uJ hi;exact jN
theorem DL(y:Ev):∀u∈y.rcells,u.oneCell'=true:=by intro u ey;simp only[Ev.rcells,VV,WS,or_false]at ey;exact yU
def EvR(w:wd)(x:Ev):Prop:=EvIn w x/\x.e.pk.length<=x.pc
theorem EvR.below{x:Ev}(h:EvR w x)(E:vx w.heap.size w w'):EvR w' x:=⟨h.1.below E,h.2⟩
structure HO(w:wd)(B:Nat)(v:vt)(xs:List Ev):Prop where
 own:w.ownsRow B 37 8 v xs.length (rcellsL xs)
 all:∀x∈xs,EvR w x
 apart:∀x∈xs,x.lies (λg=>vp g≠v.ownBlock)
theorem HO.nil(w:wd)(B:Nat):HO w B (va vn 0 0) []:=⟨HM _ _ _ _,(λx E=>absurd E WS),(λx E=>absurd E WS)⟩
theorem HO.below{B:Nat}{xs:List Ev}(h:HO w B v xs)(E:vx w.heap.size w w'):HO w' B v xs:=
 ⟨Bv h.own (λg F=>E.block g (h.own.lt g F).2),λx G=>(h.all x G).below E,h.apart⟩
theorem Z0u:(Tryz.prog.info? 37).map (λi=>(i.zero,i.size,i.bytes))=vp (vp (vf #[vb ⟨#[]⟩,va vn 0 0,so vh 0,so vh 0,ve vq,so vh 0,va vn 0 0,so vj 0]),8,104):=oR
theorem Mm(w:wd){o:Oper}{a:Act}(G:o.guard=vn)(s x:Operand) (ac:o.op=.call {callee:=.builtin .append,args:= #[s,x],argTypes:= #[31,31]}) (base:Nat) (v:vt) (xs:List Ev) (ae:a.eval s=v) (fq:HO w base v xs) (g:Nat) (y:Ev) (ah:a.eval x=va (vp ⟨g,0,vn⟩) 1 1) (hc:∀j u,y.rcells[j]? =vp u->w.cell? ⟨g,j,vn⟩=vp u) (gq:EvR w y) (pv:y.lies (λg=>vp g≠v.ownBlock)) (ai:xs.length+1<=100000) (I:base<=w.heap.size) (h:∀v' w',vz (HO w' base v' (xs++ [y]))->vz (w.grownBy w' v.ownBlock)->wpList v8 ag Q al (a.put o.dst v') w'):wpList v8 ag Q (o::al) a w:=by obtain⟨Z,hi,H,U,aa⟩:=EM Z0u;refine HG w G s x 31 ac base 37 Z _ 8 104 underlying31 hi H U aa rfl od v xs.length (rcellsL xs) ae fq.own ⟨g,0,vn⟩ 1 1 y.rcells ah rfl ?_ (DL y) ou om I ?_;exact qQ;intro v' w' O F _ b0;have bk:∀z∈xs++ [y],z.lies (λg=>vp g≠v.ownBlock):=zH;have E:∀z∈xs++ [y],EvR w z:=zO;refine h v' w' (Ab ⟨?_,λz ak=>⟨(E z ak).1.grown F (bk z ak),(E z ak).2⟩,λz ak=> ?_⟩) (Ab F);rw[DO,DM,VB];exact O;have hl:=(E z ak).1.lt;exact xN
theorem HO.entries{B:Nat}{xs:List Ev}(h:HO w B v xs):∃ad c,v=va ad xs.length c/\K8 w ad xs:=by(rcases h.own.2 with ⟨ai,av⟩|⟨g,cap,cur,ai,av,I,G,H⟩);exact bE;refine⟨vp ⟨g,0,vn⟩,cap,ai,.inr ⟨g,0,rfl,(h.own.lt g qAC).2,λj x F i hi=> ?_⟩,h.all⟩;have E:=h.own;rw[ai]at E;have hl:=DN xs;have O:=(WY.1 F).1;rw[VY,E.cellAt _ om];exact Yg xs j x i F hi
theorem Zb7(g o:Nat)(Z:i<=j)(O:j<=n)(aa:n<=ac)(U:i<ac)(W:wd):(Instr.slice 23 (va (vp ⟨g,o,vn⟩) n ac) (vp (so vh i)) (vp (so vh j)) vn).run v8 W=.ok (va (vp ⟨g,o+i,vn⟩) (j-i) (ac-i)) W:=by have I:=Tryz.sizeOf5;have G:=underlying23;have F:(i:Int)<=j:=om;have E:(j:Int)<=ac:=om;have H:¬ac=i:=om;simp[go_sem,G,I,F,E,H]
theorem Fr(g o n E i j:Nat)(G J:Int)(F:Nat)(H:G=(i:Int))(O:J=(j:Int))(aa:i<=j)(I:j<=n)(ac:n<=E)(U:i<E)(Z:j-i=F)(W:wd):(Instr.slice 23 (va (vp ⟨g,o,vn⟩) n E) (vp (so vh G)) (vp (so vh J)) vn).run v8 W=.ok (va (vp ⟨g,o+i,vn⟩) F (E-i)) W:=by subst H O Z;exact Zb7 g o aa I ac U W
theorem Oj(G:g<w.heap.size)(H:∀j,j<bs.length->w.cell? ⟨g,o+j,vn⟩=vp (so vi (bs.getD j 0:Nat)))(i k:Nat):BytesIn w (vp ⟨g,o+i,vn⟩) ((bs.drop i).take k):=by refine .inr ⟨g,o+i,rfl,G,λj F=> ?_⟩;(have E:j<k/\i+j<bs.length:=by rw[VL,VR]at F;omega);(have e2:((bs.drop i).take k).getD j 0=bs.getD (i+j) 0:=by simp only[List.getD];rw[XR E.1,XL]);rw[e2,WV];exact H (i+j) E.2
theorem SG(g o n E i:Nat)(G:Int)(F:Nat)(H:G=(i:Int))(ae:i<=n)(af:n<=E)(ac:i<E)(aa:n-i=F)(W:wd):(Instr.slice 23 (va (vp ⟨g,o,vn⟩) n E) (vp (so vh G)) vn vn).run v8 W=.ok (va (vp ⟨g,o+i,vn⟩) F (E-i)) W:=by subst H aa;have Z:=Tryz.sizeOf5;have O:=underlying23;have I:(i:Int)<=n:=om;have U:¬E=i:=om;simp[go_sem,O,Z,I,U]
theorem Ch(af:g<w.heap.size)(ac:∀j,j<bs.length->w.cell? ⟨g,o+j,vn⟩=vp (so vi (bs.getD j 0:Nat)))(O:∀x∈bs,x<256)(i j E c:Nat)(ag:j-i=E)(ai:j<=bs.length)(aa:E<=7)(aj:i<=j):∀W:wd,vx w.heap.size w W->vu v8 38 #[va (vp ⟨g,o+i,vn⟩) E c] W λe w'=>e=vm (so vh (Cz bs i j:Nat))/\w'=W:=by intro W F;subst ag;have hb:=Oj af ac i (j-i);(have H:BytesIn W (vp ⟨g,o+i,vn⟩) ((bs.drop i).take (j-i)):=by rcases hb with ae|⟨b,Z,e,G,U⟩;exact .inl ae;exact .inr ⟨b,Z,e,VC G F.size,λk I=>(F.cell (p:=⟨b,_,vn⟩) G).trans (U k I)⟩);exact TZ (j-i) c (by rw[VL,VR];omega) aa H (λx ah=>O x (WM (VU ah)))
theorem Ze3(W:wd)(X:Nat)(T:TypeId)(aa al ak ac aj O U Z I G F E H:vt)(h:W.heap[X]? =vp (vl #[aa,al,ak,ac,aj,O,U,Z] T (0,0))):(W.setCells X 0 [I,G,F,E,H]).heap[X]? =vp (vl #[I,G,F,E,H,O,U,Z] T (0,0))/\W.grownBy (W.setCells X 0 [I,G,F,E,H]) (vp X):=by have ah:=CR W X 0 _ _ I h;have ag:=CR _ X 1 _ _ G ah;have ae:=CR _ X 2 _ _ F ag;have ai:=CR _ X 3 _ _ E ae;have af:=CR _ X 4 _ _ H ai;exact⟨af,Aj (Aj (Aj (Aj (Ad _ _ _ _) (Ad _ _ _ _)) (Ad _ _ _ _)) (Ad _ _ _ _)) (Ad _ _ _ _)⟩
theorem Z2l{T:TypeId}{F G:vt}(h:W.heap[X]? =vp (vl #[E,I,ay,az,a3,a4,F,G] T (0,0))):W.there X 0 5:=by intro j H;refine⟨?_,B1 W X _ _ _ h⟩;rw[VY,Ac h];rcases(by omega:j=0\/j=1\/j=2\/j=3\/j=4)with rfl|rfl|rfl|rfl|rfl<;>rfl
theorem J8{B:Nat}{a:wd}(h:vx B a w)(G:B<=g)(E:Array vt):vx B a (w.setRow g E):=
 ⟨h.os,h.tape,h.output,by simp;exact h.size,λk F=>(TX w g k E om).trans (h.block k F)⟩
theorem Xb(bs:List Nat)(p m k:Nat)(h:k<=m):((bs.drop p).take m).drop k=(bs.drop (p+k)).take (m-k):=by rw[List.drop_take,YF]
theorem Z5j(c:Nat)(h:K8 w ah es)(df:es.length=n)(hx:n<=12)(j1:∀x∈es,EWd x.e):vu v8 40 #[va ah n c] w λe w'=>∃v,e=vm v/\PIn w' v (Ba (es.map Ev.e))/\vx w.heap.size w w':=by
 obtain⟨l,je⟩:=exq (es.map Ev.e);(have ek:l.length=n:=by rw[<-je];simpa using df);have di:∀x∈l,EWd x:=yG;(have en:∀k,(Au (l.take k)).length<=24041*12:=λk=>by have g7:=JL (l.take k) (λx U=>di x (VU U));exact zN);(have eo:∀k,(Ao 0 (l.take k)).length<=12057*12:=λk=>by have g7:=O4 (l.take k) 0 (λx U=>di x (VU U));exact zN);rw[je];have ee:=mW;obtain⟨d9,dc,dj,gy,ed,ay,fu⟩:=T7 h en eo j1 ek df ee;clear h en eo j1 ek df ee di je;go_enter func40,ntmps40;go_wp2;go_loopw [3,4,6,7,8,9,12] (λfh v4 _ _ _ _ i wr=>∃k:Nat,k<=n/\i=so vh k/\vz (PIn wr fh (Au (l.take k))/\PIn wr v4 (Ao 0 (l.take k))/\vx w.heap.size w wr)) (λ_ _ _ _ _ _ i _=>n-(vy i).toNat);exact⟨0,VF _,rfl,PIn.nil _,PIn.nil _,A2 _ _⟩;obtain⟨k,ba,rfl,ak⟩:=hrel;obtain⟨bg,ae,bf,rfl,c7⟩:=ak.1.sized;obtain⟨bi,az,bm,rfl,de⟩:=ak.2.1.sized;have g9:=Aa dc k;have gu:=Aa dj k;rw[c7]at g9;rw[de]at gu;have ej:=Ab c7;have ff:=Ab de;clear c7 de;by_cases aw:k<n
 . obtain⟨x,U,c8⟩:=bU;obtain⟨b,o,rfl,hb,c0,c1,c2,d6,au,bd,bh,a8⟩:=d9.get ak.2.2 U;have dt:=Aa fu k x U;have eg:=Ab (d9.all x c8);have hj:=Aa gy x c8;have e5:=Ab (Ht dt);obtain⟨x,fa,fc,pa,pc⟩:=x;obtain⟨⟨nml,bys,lf,l0,gn⟩,mt,pk,cr⟩:=x;obtain⟨⟨gj,st1⟩,⟨fw,fi⟩,cm,eb,da,hh,gh⟩:=hj;simp only at gj st1 fw fi cm eb da hh gh;obtain⟨st,rfl⟩:=dI;obtain⟨nd,rfl⟩:=dJ;dsimp only at c0 c1 c2 d6 au bd bh a8;obtain⟨nm,e8⟩:=exq (B nml);obtain⟨fx,e4⟩:=exq (nml.length);obtain⟨bl,dn⟩:=exq (bys.length);obtain⟨pl,du⟩:=exq (pk.length);have ht:=dQ;rw[e8]at c0;rw[dn]at c1 eb;rw[du]at bh da;rw[e4]at cm;obtain⟨ru,db,ft,c6⟩:=mU;clear U c8 dt e8 e4 dn du;have g4:=gI;have dv:=Z0b (wr.alloc (vl #[vb nm,va fa bl fc,so vh st,so vh nd,ve gn,so vh mt,va pa pl pc,so vj cr] 37));have cy:=IZ ((wr.alloc (vl #[vb nm,va fa bl fc,so vh st,so vh nd,ve gn,so vh mt,va pa pl pc,so vj cr] 37)).alloc (.map Wu 1)) _ gn (B2 _ _);simp only[CL]at dv cy;(have dw:(if gn then 1 else 0:Int)=((Fy gn:Nat):Int):=by cases gn<;>rfl);rw[dw]at cy;(have hs:Fy gn<=1:=by cases gn<;>decide);clear dw;go_upto_region 6 with fail;have cv:vx wr.heap.size wr ((wr.alloc (vl #[vb nm,va fa bl fc,so vh st,so vh nd,ve gn,so vh mt,va pa pl pc,so vj cr] 37)).alloc (.map Wu 1)):=((A2 _ _).alloc (VA _) _).alloc oS _;have a4:((wr.alloc (vl #[vb nm,va fa bl fc,so vh st,so vh nd,ve gn,so vh mt,va pa pl pc,so vj cr] 37)).alloc (.map Wu 1)).heap[wr.heap.size]? =vp (vl #[vb nm,va fa bl fc,so vh st,so vh nd,ve gn,so vh mt,va pa pl pc,so vj cr] 37 (0,0)):=(heap_alloc_old _ _ oS).trans (B2 wr _);have O:=Ab (show PIn ((wr.alloc (vl #[vb nm,va fa bl fc,so vh st,so vh nd,ve gn,so vh mt,va pa pl pc,so vj cr] 37)).alloc (.map Wu 1)) (va bg ae bf) _/\PIn _ (va bi az bm) _/\vx w.heap.size w _ from ⟨ak.1.below cv,ak.2.1.below cv,ak.2.2.trans (cv.mono ak.2.2.size)⟩);have bk:=Ab (eg.1.below O.2.2);have ct:wr.heap.size<((wr.alloc (vl #[vb nm,va fa bl fc,so vh st,so vh nd,ve gn,so vh mt,va pa pl pc,so vj cr] 37)).alloc (.map Wu 1)).heap.size:=oO;clear dv cy g4 c0 c1 c2 d6 au bd bh a8 cv ak;generalize gi:(wr.alloc (vl #[vb nm,va fa bl fc,so vh st,so vh nd,ve gn,so vh mt,va pa pl pc,so vj cr] 37)).alloc (.map Wu 1)=ce at*;clear gi;have x0:=Ac (i:=0) a4;have x1:=Ac (i:=1) a4;have x2:=Ac (i:=2) a4;have x3:=Ac (i:=3) a4;have x4:=Ac (i:=4) a4;have kk:=Ac (i:=5) a4;have j3:=Ac (i:=6) a4;have kj:=Ac (i:=7) a4;simp only[WF,VW,WI]at x0 x1 x2 x3 x4 kk j3 kj;clear a4;go_cut [8] (λfg ar=>vz (PIn ar fg ([Ah 29297 2,Ah 7 2,Ah st 4,Ah nd 2,Ah (Fy gn) 1]:List (List Nat)).flatten/\vx ce.heap.size ce ar));(. refine wp_region_held_drew (S:=λW=>vx ce.heap.size ce W) oR (Ae (A2 _ _) 1) (λG=> ?_);generalize ce.drew=ag at G ⊢;refine B0 2 G ?_;refine B0 3 G ?_;refine wpAnyH_take (i:=4) (v:=so vh st) rfl oR oR oR (λ_ _ _ h=>h) (Or.inl ⟨by rfl,λW ac=>by have hc:=(ac.cell (p:=⟨wr.heap.size,2,vn⟩) ct).trans x2;go_simp⟩) G ?_;refine B0 6 G ?_;refine B0 7 G ?_;refine wpAnyH_take (i:=8) (v:=so vh nd) rfl oR oR oR (λ_ _ _ h=>h) (Or.inl ⟨by rfl,λW ac=>by have hc:=(ac.cell (p:=⟨wr.heap.size,3,vn⟩) ct).trans x3;go_simp⟩) G ?_;refine B0 10 G ?_;have F:=PIns.nil (w:=ag);refine C1 0 λK hK=> ?_;go_simp;refine(JB 29297 2 G F od od).mono ?_;clear G F;rintro e ag ⟨cd,b0,c0,rfl,G,F⟩;dsimp only;refine hK.out _ _ G (λ_=> ?_);clear hK K;refine C1 1 λK hK=> ?_;go_simp;refine(JB 7 2 G F od od).mono ?_;clear G F;rintro e ag ⟨a1,l1,c1,rfl,G,F⟩;dsimp only;refine hK.out _ _ G (λ_=> ?_);clear hK K;refine C1 5 λK hK=> ?_;go_simp;refine(JB st 4 G F om od).mono ?_;clear G F;rintro e ag ⟨b9,b5,bd,rfl,G,F⟩;dsimp only;refine hK.out _ _ G (λ_=> ?_);clear hK K;refine C1 9 λK hK=> ?_;go_simp;refine(JB nd 2 G F om od).mono ?_;clear G F;rintro e ag ⟨b7,b4,bz,rfl,G,F⟩;dsimp only;refine hK.out _ _ G (λ_=> ?_);clear hK K;refine C1 11 λK hK=> ?_;go_simp;refine(JB (Fy gn) 1 G F om od).mono ?_;clear G F;rintro e ag ⟨a5,a6,a7,rfl,G,F⟩;dsimp only;refine hK.out _ _ G (λ_=> ?_);clear hK K;refine I1 12 (G.alloc G.size (vl #[va cd b0 c0,va a1 l1 c1,va b9 b5 bd,va b7 b4 bz,va a5 a6 a7] 23)) ?_;refine C1 13 λK hK=> ?_;go_simp;refine(Id [va cd b0 c0,va a1 l1 c1,va b9 b5 bd,va b7 b4 bz,va a5 a6 a7] [Ah 29297 2,Ah 7 2,Ah st 4,Ah nd 2,Ah (Fy gn) 1] _ _ 5 5 F rfl rfl od uH).mono ?_;rintro e bw ⟨cg,ci,b8,rfl,ir,I⟩;have e9:=bT;dsimp only;refine hK.out _ _ e9 (λ_=> ?_);clear hK K;refine I1 14 e9 ?_;exact jV);rename wd=>ar;obtain⟨c5,bq⟩:=Aa hcut;replace x0:=gS;replace x1:=gT;replace x2:=gU;replace x3:=gV;replace x4:=gW;replace kk:=gX;replace j3:=gY;replace kj:=gZ;replace ct:=VC ct bq.size;replace O:=Ab (show PIn ar (va bg ae bf) _/\PIn ar (va bi az bm) _/\vx w.heap.size w ar from ⟨O.1.below bq,O.2.1.below bq,O.2.2.trans (bq.mono O.2.2.size)⟩);replace bk:=Ab (bk.below bq);obtain⟨cn,cp,cw,rfl⟩:=c5.slice;have bo:=Ab c5;clear hcut bq c5;have fe:vh.wrap (cr:Int)=cr:=sU;go_upto_region 7 with fail;go_cut [9] (λf7 ap=>vz (PIn ap f7 ([Ah 20 2,Ah 0 2,Ah mt 2,Ah 0 4,Ah cr 4,Ah pl 4,Ah bl 4,Ah fx 2,Ah 11 2]:List (List Nat)).flatten/\vx ar.heap.size ar ap))
   (. refine wp_region_held_drew (S:=λW=>vx ar.heap.size ar W) oR (Ae (A2 _ _) 1) (λG=> ?_);generalize ar.drew=ag at G ⊢;refine B0 2 G ?_;refine wpAnyH_take (i:=3) (v:=so vh mt) rfl oR oR oR (λ_ _ _ h=>h) (Or.inl ⟨by rfl,λW ac=>by have hc:=(ac.cell (p:=⟨wr.heap.size,5,vn⟩) ct).trans kk;go_simp⟩) G ?_;refine B0 6 G ?_;refine wpAnyH_take (i:=7) (v:=so vj cr) rfl oR oR oR (λ_ _ _ h=>h) (Or.inl ⟨by rfl,λW ac=>by have hc:=(ac.cell (p:=⟨wr.heap.size,7,vn⟩) ct).trans kj;go_simp⟩) G ?_;refine B0 8 G ?_;refine B0 10 G ?_;refine wpAnyH_take (i:=11) (v:=va pa pl pc) rfl oR oR oR (λ_ _ _ h=>h) (Or.inl ⟨by rfl,λW ac=>by have hc:=(ac.cell (p:=⟨wr.heap.size,6,vn⟩) ct).trans j3;go_simp⟩) G ?_;refine B0 12 G ?_;refine B0 14 G ?_;refine B0 15 G ?_;refine wpAnyH_take (i:=16) (v:=va fa bl fc) rfl oR oR oR (λ_ _ _ h=>h) (Or.inl ⟨by rfl,λW ac=>by have hc:=(ac.cell (p:=⟨wr.heap.size,1,vn⟩) ct).trans x1;go_simp⟩) G ?_;refine B0 17 G ?_;refine B0 19 G ?_;refine B0 20 G ?_;refine wpAnyH_take (i:=21) (v:=vb nm) rfl oR oR oR (λ_ _ _ h=>h) (Or.inl ⟨by rfl,λW ac=>by have hc:=(ac.cell (p:=⟨wr.heap.size,0,vn⟩) ct).trans x0;go_simp⟩) G ?_;refine B0 22 G ?_;have F:=PIns.nil (w:=ag);refine C1 0 λK hK=> ?_;go_simp;refine(JB 20 2 G F od od).mono ?_;clear G F;rintro e ag ⟨cd,b0,c0,rfl,G,F⟩;dsimp only;refine hK.out _ _ G (λ_=> ?_);clear hK K;refine C1 1 λK hK=> ?_;go_simp;refine(JB 0 2 G F od od).mono ?_;clear G F;rintro e ag ⟨a1,l1,c1,rfl,G,F⟩;dsimp only;refine hK.out _ _ G (λ_=> ?_);clear hK K;refine C1 4 λK hK=> ?_;go_simp;refine(JB mt 2 G F om od).mono ?_;clear G F;rintro e ag ⟨bc,bb,au,rfl,G,F⟩;dsimp only;refine hK.out _ _ G (λ_=> ?_);clear hK K;refine C1 5 λK hK=> ?_;go_simp;refine(JB 0 4 G F od od).mono ?_;clear G F;rintro e ag ⟨b9,b5,bd,rfl,G,F⟩;dsimp only;refine hK.out _ _ G (λ_=> ?_);clear hK K;refine C1 9 λK hK=> ?_;go_simp;refine(JB cr 4 G F om od).mono ?_;clear G F;rintro e ag ⟨b7,b4,bz,rfl,G,F⟩;dsimp only;refine hK.out _ _ G (λ_=> ?_);clear hK K;refine C1 13 λK hK=> ?_;go_simp;refine(JB pl 4 G F om od).mono ?_;clear G F;rintro e ag ⟨ey,dy,et,rfl,G,F⟩;dsimp only;refine hK.out _ _ G (λ_=> ?_);clear hK K;refine C1 18 λK hK=> ?_;go_simp;refine(JB bl 4 G F om od).mono ?_;clear G F;rintro e ag ⟨dm,ei,ds,rfl,G,F⟩;dsimp only;refine hK.out _ _ G (λ_=> ?_);clear hK K;refine C1 23 λK hK=> ?_;go_simp;refine(JB fx 2 G F om od).mono ?_;clear G F;rintro e ag ⟨d5,dr,eu,rfl,G,F⟩;dsimp only;refine hK.out _ _ G (λ_=> ?_);clear hK K;refine C1 24 λK hK=> ?_;go_simp;refine(JB 11 2 G F od od).mono ?_;clear G F;rintro e ag ⟨eh,dq,ew,rfl,G,F⟩;dsimp only;refine hK.out _ _ G (λ_=> ?_);clear hK K;refine I1 25 (G.alloc G.size (vl #[va cd b0 c0,va a1 l1 c1,va bc bb au,va b9 b5 bd,va b7 b4 bz,va ey dy et,va dm ei ds,va d5 dr eu,va eh dq ew] 23)) ?_;refine C1 26 λK hK=> ?_;go_simp;refine(Id [va cd b0 c0,va a1 l1 c1,va bc bb au,va b9 b5 bd,va b7 b4 bz,va ey dy et,va dm ei ds,va d5 dr eu,va eh dq ew] [Ah 20 2,Ah 0 2,Ah mt 2,Ah 0 4,Ah cr 4,Ah pl 4,Ah bl 4,Ah fx 2,Ah 11 2] _ _ 9 9 F rfl rfl od uH).mono ?_;rintro e bw ⟨cg,ci,b8,rfl,ir,I⟩;have e9:=bT;dsimp only;refine hK.out _ _ e9 (λ_=> ?_);clear hK K;refine I1 27 e9 ?_;exact jV);rename wd=>ap;obtain⟨dh,bq⟩:=Aa hcut;replace x0:=gS;replace x1:=gT;replace x2:=gU;replace x3:=gV;replace x4:=gW;replace kk:=gX;replace j3:=gY;replace kj:=gZ;replace ct:=VC ct bq.size;replace O:=Ab (show PIn ap (va bg ae bf) _/\PIn ap (va bi az bm) _/\vx w.heap.size w ap from ⟨O.1.below bq,O.2.1.below bq,O.2.2.trans (bq.mono O.2.2.size)⟩);replace bk:=Ab (bk.below bq);replace bo:=Ab (bo.below bq);obtain⟨ck,co,cu,rfl⟩:=dh.slice;have cj:=Ab dh;clear hcut bq dh fe;have f6:=Ab (Zeg (Ao 0 (l.take k)) nml mt cr pl bl fx st nd gn ae (dj k) (by rw[Aa db];exact cm));go_upto_region 8 with fail;go_cut [4] (λv4 ax=>vz (PIn ax v4 ([Ao 0 (l.take k),Ah 33639248 4,Ah 20 2,([Ah 20 2,Ah 0 2,Ah mt 2,Ah 0 4,Ah cr 4,Ah pl 4,Ah bl 4,Ah fx 2,Ah 11 2]:List (List Nat)).flatten,Ah 0 10,Ah ae 4,n8 nml,([Ah 29297 2,Ah 7 2,Ah st 4,Ah nd 2,Ah (Fy gn) 1]:List (List Nat)).flatten]:List (List Nat)).flatten/\vx ap.heap.size ap ax))
   . have d7:=Z7o nm;refine wp_region_held_drew (S:=λW=>vx ap.heap.size ap W) oR (Ae (A2 _ _) 1) (λG=> ?_);generalize ap.drew=ag at G ⊢;refine B0 0 G ?_;refine B0 3 G ?_;refine B0 5 G ?_;refine B0 6 G ?_;refine B0 8 G ?_;refine B0 9 G ?_;refine wpAnyH_take (i:=10) (v:=vb nm) rfl oR oR oR (λ_ _ _ h=>h) (Or.inl ⟨by rfl,λW ac=>by have hc:=(ac.cell (p:=⟨wr.heap.size,0,vn⟩) ct).trans x0;go_simp⟩) G ?_;refine B0 12 G ?_;refine wpAnyH_ready (rs:= [1,11]) oR oS (AllReadyH.cons rfl (λK hK=> ?_) (AllReadyH.cons rfl (λK hK=> ?_) AllReadyH.nil))
     focus
      go_simp
      refine(CH 33639248 4 G od od).mono ?_
      clear G
      rintro e Z ⟨a1,l1,c1,rfl,p1,I,G⟩
      dsimp only
      refine hK.out _ _ G (λU=> ?_)
      clear U hK K I ag
      rename wd=>ag
      refine wpAnyH_ready (rs:= [2,11]) oR oS (AllReadyH.cons rfl (λK hK=> ?_) (AllReadyH.cons rfl (λK hK=> ?_) AllReadyH.nil))
      focus
       go_simp
       refine(CH 20 2 G od od).mono ?_
       clear G
       rintro e Z ⟨a2,l2,c2,rfl,H,I,G⟩
       dsimp only
       replace p1:=p1.below I
       refine hK.out _ _ G (λU=> ?_)
       clear U hK K I ag
       rename wd=>ag
       refine wpAnyH_ready (rs:= [4,11]) oR oS (AllReadyH.cons rfl (λK hK=> ?_) (AllReadyH.cons rfl (λK hK=> ?_) AllReadyH.nil))
       focus
        go_simp
        refine(CH 0 10 G od od).mono ?_
        clear G
        rintro e Z ⟨bc,bb,au,rfl,aa,I,G⟩
        dsimp only
        replace p1:=p1.below I
        replace H:=H.below I
        refine hK.out _ _ G (λU=> ?_)
        clear U hK K I ag
        rename wd=>ag
        refine wpAnyH_ready (rs:= [7,11]) oR oS (AllReadyH.cons rfl (λK hK=> ?_) (AllReadyH.cons rfl (λK hK=> ?_) AllReadyH.nil))
        focus
         go_simp
         refine(CH ae 4 G om od).mono ?_
         clear G
         rintro e Z ⟨bn,bu,a8,rfl,bj,I,G⟩
         dsimp only
         replace p1:=p1.below I
         replace H:=H.below I
         replace aa:=aa.below I
         refine hK.out _ _ G (λU=> ?_)
         clear U hK K I ag
         rename wd=>ag
         refine C1 11 λK hK=> ?_
         go_simp
         obtain⟨E,I⟩:=fT
         replace G:=bT
         generalize SZ ag nm=Z at E I G ⊢
         generalize U4 ag nm=a7 at E ⊢
         generalize U5 ag=a5 at E ⊢
         generalize U3 nm=a6 at E ⊢
         replace p1:=p1.below I
         replace H:=H.below I
         replace aa:=aa.below I
         replace bj:=bj.below I
         refine hK.out _ _ G (λU=> ?_)
         clear U hK K I ag
         rename wd=>ag
        rotate_left
        focus
         go_simp
         obtain⟨E,I⟩:=fT
         replace G:=bT
         generalize SZ ag nm=Z at E I G ⊢
         generalize U4 ag nm=a7 at E ⊢
         generalize U5 ag=a5 at E ⊢
         generalize U3 nm=a6 at E ⊢
         replace p1:=p1.below I
         replace H:=H.below I
         replace aa:=aa.below I
         refine hK.out _ _ G (λU=> ?_)
         clear U hK K I ag
         rename wd=>ag
         refine C1 7 λK hK=> ?_
         go_simp
         refine(CH ae 4 G om od).mono ?_
         clear G
         rintro e Z ⟨bn,bu,a8,rfl,bj,I,G⟩
         dsimp only
         replace p1:=p1.below I
         replace H:=H.below I
         replace aa:=aa.below I
         replace E:=E.below I
         refine hK.out _ _ G (λU=> ?_)
         clear U hK K I ag
         rename wd=>ag
        rotate_left
       rotate_left 2
       focus
        go_simp
        obtain⟨E,I⟩:=fT
        replace G:=bT
        generalize SZ ag nm=Z at E I G ⊢
        generalize U4 ag nm=a7 at E ⊢
        generalize U5 ag=a5 at E ⊢
        generalize U3 nm=a6 at E ⊢
        replace p1:=p1.below I
        replace H:=H.below I
        refine hK.out _ _ G (λU=> ?_)
        clear U hK K I ag
        rename wd=>ag
        refine C1 4 λK hK=> ?_
        go_simp
        refine(CH 0 10 G od od).mono ?_
        clear G
        rintro e Z ⟨bc,bb,au,rfl,aa,I,G⟩
        dsimp only
        replace p1:=p1.below I
        replace H:=H.below I
        replace E:=E.below I
        refine hK.out _ _ G (λU=> ?_)
        clear U hK K I ag
        rename wd=>ag
        refine C1 7 λK hK=> ?_
        go_simp
        refine(CH ae 4 G om od).mono ?_
        clear G
        rintro e Z ⟨bn,bu,a8,rfl,bj,I,G⟩
        dsimp only
        replace p1:=p1.below I
        replace H:=H.below I
        replace E:=E.below I
        replace aa:=aa.below I
        refine hK.out _ _ G (λU=> ?_)
        clear U hK K I ag
        rename wd=>ag
       rotate_left
      rotate_left 3
      focus
       go_simp
       obtain⟨E,I⟩:=fT
       replace G:=bT
       generalize SZ ag nm=Z at E I G ⊢
       generalize U4 ag nm=a7 at E ⊢
       generalize U5 ag=a5 at E ⊢
       generalize U3 nm=a6 at E ⊢
       replace p1:=p1.below I
       refine hK.out _ _ G (λU=> ?_)
       clear U hK K I ag
       rename wd=>ag
       refine C1 2 λK hK=> ?_
       go_simp
       refine(CH 20 2 G od od).mono ?_
       clear G
       rintro e Z ⟨a2,l2,c2,rfl,H,I,G⟩
       dsimp only
       replace p1:=p1.below I
       replace E:=E.below I
       refine hK.out _ _ G (λU=> ?_)
       clear U hK K I ag
       rename wd=>ag
       refine C1 4 λK hK=> ?_
       go_simp
       refine(CH 0 10 G od od).mono ?_
       clear G
       rintro e Z ⟨bc,bb,au,rfl,aa,I,G⟩
       dsimp only
       replace p1:=p1.below I
       replace E:=E.below I
       replace H:=H.below I
       refine hK.out _ _ G (λU=> ?_)
       clear U hK K I ag
       rename wd=>ag
       refine C1 7 λK hK=> ?_
       go_simp
       refine(CH ae 4 G om od).mono ?_
       clear G
       rintro e Z ⟨bn,bu,a8,rfl,bj,I,G⟩
       dsimp only
       replace p1:=p1.below I
       replace E:=E.below I
       replace H:=H.below I
       replace aa:=aa.below I
       refine hK.out _ _ G (λU=> ?_)
       clear U hK K I ag
       rename wd=>ag
      rotate_left
     rotate_left 4
     focus
      go_simp
      obtain⟨E,I⟩:=fT
      replace G:=bT
      generalize SZ ag nm=Z at E I G ⊢
      generalize U4 ag nm=a7 at E ⊢
      generalize U5 ag=a5 at E ⊢
      generalize U3 nm=a6 at E ⊢
      refine hK.out _ _ G (λU=> ?_)
      clear U hK K I ag
      rename wd=>ag
      refine C1 1 λK hK=> ?_
      go_simp
      refine(CH 33639248 4 G od od).mono ?_
      clear G
      rintro e Z ⟨a1,l1,c1,rfl,p1,I,G⟩
      dsimp only
      replace E:=E.below I
      refine hK.out _ _ G (λU=> ?_)
      clear U hK K I ag
      rename wd=>ag
      refine C1 2 λK hK=> ?_
      go_simp
      refine(CH 20 2 G od od).mono ?_
      clear G
      rintro e Z ⟨a2,l2,c2,rfl,H,I,G⟩
      dsimp only
      replace E:=E.below I
      replace p1:=p1.below I
      refine hK.out _ _ G (λU=> ?_)
      clear U hK K I ag
      rename wd=>ag
      refine C1 4 λK hK=> ?_
      go_simp
      refine(CH 0 10 G od od).mono ?_
      clear G
      rintro e Z ⟨bc,bb,au,rfl,aa,I,G⟩
      dsimp only
      replace E:=E.below I
      replace p1:=p1.below I
      replace H:=H.below I
      refine hK.out _ _ G (λU=> ?_)
      clear U hK K I ag
      rename wd=>ag
      refine C1 7 λK hK=> ?_
      go_simp
      refine(CH ae 4 G om od).mono ?_
      clear G
      rintro e Z ⟨bn,bu,a8,rfl,bj,I,G⟩
      dsimp only
      replace E:=E.below I
      replace p1:=p1.below I
      replace H:=H.below I
      replace aa:=aa.below I
      refine hK.out _ _ G (λU=> ?_)
      clear U hK K I ag
      rename wd=>ag
     rotate_left;all_goals (refine I1 13 (G.alloc G.size (vl #[va bi az bm,va a1 l1 c1,va a2 l2 c2,va ck co cu,va bc bb au,va bn bu a8,va a5 a6 a7,va cn cp cw] 23)) ?_;refine C1 14 λK hK=> ?_;go_simp;refine(Id [va bi az bm,va a1 l1 c1,va a2 l2 c2,va ck co cu,va bc bb au,va bn bu a8,va a5 a6 a7,va cn cp cw] [Ao 0 (l.take k),Ah 33639248 4,Ah 20 2,([Ah 20 2,Ah 0 2,Ah mt 2,Ah 0 4,Ah cr 4,Ah pl 4,Ah bl 4,Ah fx 2,Ah 11 2]:List (List Nat)).flatten,Ah 0 10,Ah ae 4,n8 nml,([Ah 29297 2,Ah 7 2,Ah st 4,Ah nd 2,Ah (Fy gn) 1]:List (List Nat)).flatten] _ _ 8 8 (PIns.cons (O.2.1.below G) (PIns.cons p1 (PIns.cons H (PIns.cons (cj.below G) (PIns.cons aa (PIns.cons bj (PIns.cons E (PIns.cons (bo.below G) .nil)))))))) rfl rfl od (by exact Aa f6)).mono ?_;rintro e bw ⟨cg,ci,b8,rfl,ir,I⟩;have e9:=bT;dsimp only;refine hK.out _ _ e9 (λ_=> ?_);clear hK K;refine I1 15 e9 ?_;refine wpAnyH_done oR ?_ _;go_wp2_with fail;go_meet;exact Ab ⟨ir,e9⟩)
   rename wd=>ax;obtain⟨aa,bq⟩:=Aa hcut;replace x0:=gS;replace x1:=gT;replace x2:=gU;replace x3:=gV;replace x4:=gW;replace kk:=gX;replace j3:=gY;replace kj:=gZ;replace ct:=VC ct bq.size;replace O:=Ab (show PIn ax (va bg ae bf) _/\PIn ax (va bi az bm) _/\vx w.heap.size w ax from ⟨O.1.below bq,O.2.1.below bq,O.2.2.trans (bq.mono O.2.2.size)⟩);replace bk:=Ab (bk.below bq);replace bo:=Ab (bo.below bq);replace cj:=Ab (cj.below bq);have cz:=Ab aa;clear hcut bq aa;have fo:=Ab (Zef (Au (l.take k)) pk nml mt cr pl bl fx st nd gn (dc k) (by rw[Aa db];exact cm) (by rw[Aa c6];exact da));go_upto_region 9 with fail;have fq:vz (PIn ax (va pa pl pc) pk):=Ab ⟨pa,pc,by rw[Aa c6],eg.2,bk.pk⟩;have d7:=Z7o nm;refine wp_region_held_drew (S:=λW=>vx ax.heap.size ax W) oR (Ae (A2 _ _) 1) (λG=> ?_);generalize ax.drew=ag at G ⊢;refine B0 0 G ?_;refine B0 2 G ?_;refine B0 3 G ?_;refine B0 4 G ?_;refine wpAnyH_take (i:=5) (v:=vb nm) rfl oR oR oR (λ_ _ _ h=>h) (Or.inl ⟨by rfl,λW ac=>by have hc:=(ac.cell (p:=⟨wr.heap.size,0,vn⟩) ct).trans x0;go_simp⟩) G ?_;refine B0 7 G ?_;refine B0 8 G ?_;refine wpAnyH_take (i:=9) (v:=va pa pl pc) rfl oR oR oR (λ_ _ _ h=>h) (Or.inl ⟨by rfl,λW ac=>by have hc:=(ac.cell (p:=⟨wr.heap.size,6,vn⟩) ct).trans j3;go_simp⟩) G ?_;simp only[Act.put,VE,VH,VJ];refine wpAnyH_ready (rs:= [1,6]) oR oS (AllReadyH.cons rfl (λK hK=> ?_) (AllReadyH.cons rfl (λK hK=> ?_) AllReadyH.nil))
   focus
    go_simp
    refine(CH 67324752 4 G od od).mono ?_
    clear G
    rintro e Z ⟨a1,l1,c1,rfl,p1,I,G⟩
    dsimp only
    refine hK.out _ _ G (λU=> ?_)
    clear U hK K I ag
    rename wd=>ag
    refine C1 6 λK hK=> ?_
    go_simp
    obtain⟨al,I⟩:=fT
    replace G:=bT
    generalize SZ ag nm=Z at al I G ⊢
    generalize U4 ag nm=bh at al ⊢
    generalize U5 ag=dl at al ⊢
    generalize U3 nm=c9 at al ⊢
    replace p1:=p1.below I
    refine hK.out _ _ G (λU=> ?_)
    clear U hK K I ag
    rename wd=>ag
   rotate_left
   focus
    go_simp
    obtain⟨al,I⟩:=fT
    replace G:=bT
    generalize SZ ag nm=Z at al I G ⊢
    generalize U4 ag nm=bh at al ⊢
    generalize U5 ag=dl at al ⊢
    generalize U3 nm=c9 at al ⊢
    refine hK.out _ _ G (λU=> ?_)
    clear U hK K I ag
    rename wd=>ag
    refine C1 1 λK hK=> ?_
    go_simp
    refine(CH 67324752 4 G od od).mono ?_
    clear G
    rintro e Z ⟨a1,l1,c1,rfl,p1,I,G⟩
    dsimp only
    replace al:=al.below I
    refine hK.out _ _ G (λU=> ?_)
    clear U hK K I ag
    rename wd=>ag
   rotate_left;all_goals (refine I1 10 (G.alloc G.size (vl #[va bg ae bf,va a1 l1 c1,va ck co cu,va dl c9 bh,va cn cp cw,va pa pl pc] 23)) ?_;refine C1 11 λK hK=> ?_;go_simp;refine(Id [va bg ae bf,va a1 l1 c1,va ck co cu,va dl c9 bh,va cn cp cw,va pa pl pc] [Au (l.take k),Ah 67324752 4,([Ah 20 2,Ah 0 2,Ah mt 2,Ah 0 4,Ah cr 4,Ah pl 4,Ah bl 4,Ah fx 2,Ah 11 2]:List (List Nat)).flatten,n8 nml,([Ah 29297 2,Ah 7 2,Ah st 4,Ah nd 2,Ah (Fy gn) 1]:List (List Nat)).flatten,pk] _ _ 6 6 (PIns.cons (O.1.below G) (PIns.cons p1 (PIns.cons (cj.below G) (PIns.cons al (PIns.cons (bo.below G) (PIns.cons (fq.below G) .nil)))))) rfl rfl od (by exact Aa fo)).mono ?_;rintro e bw ⟨cg,ci,b8,rfl,ir,I⟩;have e9:=bT;dsimp only;refine hK.out _ _ e9 (λ_=> ?_);clear hK K;refine I1 12 e9 ?_;refine wpAnyH_done oR ?_ _;have d8:=Ab (SO (k:=k) (l:=l) (nml:=nml) (bys:=bys) (st:=st) (nd:=nd) (gn:=gn) (mt:=mt) (pk:=pk) (cr:=cr) e5 db ft c6 ej);have fk:=Ab ir;replace cz:=Ab (cz.below e9);replace O:=Ab (O.2.2.trans (e9.mono O.2.2.size));clear ir e9 G I x0 x1 x2 x3 x4 kk j3 kj d7;go_wp2;go_roundw;exact⟨k+1,om,by go_num,Ab ⟨by rw[(Aa d8).1];exact Aa fk,by rw[(Aa d8).2];exact Aa cz,O⟩⟩;simp[vy];omega)
 . obtain rfl:n=k:=om;have gx:vz (l.take n=l):=Ab (by rw[VQ qAP]);have af:=ak.1;have ai:=ak.2.1;have h6:=ak.2.2;have g0:=Ab (Zdl (Au (l.take n)) (Ao 0 (l.take n)) n az ae (dc n) (dj n));clear ak;go_wp2_with fail;refine(Fu 101010256 4 _ od od).mono ?_;rintro e hp ⟨e7,f5,fj,rfl,aj,I⟩;replace af:=af.below I;replace ai:=ai.below I;replace h6:=dN;clear I;go_wp2_with fail;refine(Fu 0 4 _ od od).mono ?_;rintro e hv ⟨hg,gw,f4,rfl,ao,I⟩;replace af:=af.below I;replace ai:=ai.below I;replace aj:=aj.below I;replace h6:=dN;clear I;go_wp2_with fail;refine(Fu n 2 _ om od).mono ?_;rintro e ho ⟨fp,fy,gv,rfl,a3,I⟩;replace af:=af.below I;replace ai:=ai.below I;replace aj:=aj.below I;replace ao:=ao.below I;replace h6:=dN;clear I;go_wp2_with fail;refine(Fu n 2 _ om od).mono ?_;rintro e hq ⟨e1,gg,f9,rfl,a9,I⟩;replace af:=af.below I;replace ai:=ai.below I;replace aj:=aj.below I;replace ao:=ao.below I;replace a3:=a3.below I;replace h6:=dN;clear I;go_wp2_with fail;refine(Fu az 4 _ om od).mono ?_;rintro e hu ⟨gz,ha,hf,rfl,bv,I⟩;replace af:=af.below I;replace ai:=ai.below I;replace aj:=aj.below I;replace ao:=ao.below I;replace a3:=a3.below I;replace a9:=a9.below I;replace h6:=dN;clear I;go_wp2_with fail;refine(Fu ae 4 _ om od).mono ?_;rintro e hw ⟨g5,hk,e6,rfl,cq,I⟩;replace af:=af.below I;replace ai:=ai.below I;replace aj:=aj.below I;replace ao:=ao.below I;replace a3:=a3.below I;replace a9:=a9.below I;replace bv:=bv.below I;replace h6:=dN;clear I;go_wp2_with fail;refine(Fu 0 2 _ od od).mono ?_;rintro e gd ⟨g8,f3,e0,rfl,em,I⟩;replace af:=af.below I;replace ai:=ai.below I;replace aj:=aj.below I;replace ao:=ao.below I;replace a3:=a3.below I;replace a9:=a9.below I;replace bv:=bv.below I;replace cq:=cq.below I;replace h6:=dN;clear I;have f8:=Ab (show PIns gd [va bg ae bf,va bi az bm,va e7 f5 fj,va hg gw f4,va fp fy gv,va e1 gg f9,va gz ha hf,va g5 hk e6,va g8 f3 e0] [Au (l.take n),Ao 0 (l.take n),Ah 101010256 4,Ah 0 4,Ah n 2,Ah n 2,Ah az 4,Ah ae 4,Ah 0 2] from (PIns.cons af (PIns.cons ai (PIns.cons aj (PIns.cons ao (PIns.cons a3 (PIns.cons a9 (PIns.cons bv (PIns.cons cq (PIns.cons em .nil))))))))));have ep:=Ab h6;clear h6 af ai aj ao a3 a9 bv cq em;go_wp2_with fail;refine(Id _ _ _ _ 9 9 f8 rfl rfl od g0).mono ?_;rintro e bw ⟨cg,ci,b8,rfl,ir,I⟩;have dz:vz (PIn bw (va cg ci b8) (Ba l)/\vx w.heap.size w bw):=Ab ⟨by rw[Z6n (Aa gx) (Aa ed) (Aa ej) (Aa ff)];exact ir,ep.trans (I.mono ep.size)⟩;clear I ir;go_wp2;go_ret;exact⟨_,rfl,dz.1,dz.2⟩
theorem LD(row:List Bool)(u:US)(h:(Cn row u).e=0):ustored row u=Cn row u:=by unfold Cn at h ⊢;dsimp only at h ⊢;by_cases c:(Cr row u).2.e=0/\3000<(Cr row u).2.out.length+(Cr row u).1;rw[A1 c]at h;exact jJ;rw[A0 c];rfl
theorem Z9s{lb:List Int}(h:(Nt row lb u).2.e=0):∃f v d x,uplace lb row u=(f,v)/\v.e=0/\f<=29/\uget row (farsL.getD f (0,0)).2 v=(d,x)/\x.e=0/\Nt row lb u=((farsL.getD f (0,0)).1+d,x):=by unfold Nt at h ⊢;obtain⟨f,v,e⟩:∃f v,uplace lb row u=(f,v):=⟨_,_,rfl⟩;rw[e]at h ⊢;dsimp only at h ⊢;by_cases c:v.e≠0;exact bH;rw[A0 c]at h ⊢;by_cases c2:29<f;rw[A1 c2]at h;exact vL;rw[A0 c2]at h ⊢;rw[Z1 f om]at h ⊢;exact⟨f,v,_,_,rfl,om,om,rfl,h,rfl⟩
theorem Z3o(row:List Bool)(a b:List Int)(u x:US)(O:uplace a row u=(k,x))(I:x.e=0)(Z:k≠256)(af:x.out.length<=3000)(h:(Cu row b k x).e=0):Mp row a b u=(vr,Cu row b k x):=by unfold Mp;rw[O];dsimp only;rw[A0 (by rintro (E|E);exact E I;exact Z E)];unfold Cu at h ⊢;by_cases c1:k<256;rw[A1 c1]at h ⊢;rw[A1 c1];by_cases c2:3000<x.out.length+1;rw[A1 c2]at h;exact zC;rw[A0 c2];unfold Fo;rw[A1 I,A0 om];rw[A0 c1]at h ⊢;rw[A0 c1];by_cases c2:285<k;rw[A1 c2]at h;exact vL;rw[A0 c2]at h ⊢;rw[A0 c2];rw[Y9 k om om]at h ⊢;unfold LH;obtain⟨g,y,ae⟩:∃g y,uget row (samesL.getD (k-257) (0,0)).2 x=(g,y):=⟨_,_,rfl⟩;rw[ae]at h ⊢;dsimp only at h ⊢;by_cases dt:y.e≠0;exact zQ;rw[A0 dt]at h ⊢;by_cases F:(Nt row b y).2.e≠0;rw[A1 F]at h;exact absurd h F;rw[A0 F]at h ⊢;obtain⟨f,v,d,z,E,aa,ah,ac,ag,U⟩:=Z9s (row:=row) (lb:=b) (u:=y) om;rw[U]at h ⊢;rw[E];dsimp only at h ⊢;rw[A0 (show ¬(v.e=0/\29<f) by omega),A0 (λe=>e aa)];unfold Kh at h ⊢;by_cases G:z.out.length<(farsL.getD f (0,0)).1+d;rw[A1 G]at h;exact absurd (show (9:Int)=0 from h) od;rw[A0 G]at h ⊢;by_cases H:3000<z.out.length+((samesL.getD (k-257) (0,0)).1+g);rw[A1 H]at h;exact zC;rw[A0 H];unfold U7;rw[ac];dsimp only;rw[A0 (show ¬(z.e=0/\z.out.length<(farsL.getD f (0,0)).1+d) by omega)]
theorem Pd(row:List Bool)(a b:List Int):∀(F E:Nat) (u:US),(Hz row a b E u).e=0->row.length+1<=u.p+F->row.length+1<=u.p+E->u.p<=row.length->u.out.length<=3000->utok row a b F u=Hz row a b E u
 |0,E,u,h,h1,h2,hp,ho=>om
 |F+1,0,u,h,h1,h2,hp,ho=>om
 |F+1,E+1,u,h,h1,h2,hp,ho=>by rw[Hy]at h ⊢;obtain⟨k,x,G⟩:∃k x,uplace a row u=(k,x):=⟨_,_,rfl⟩;rw[G]at h ⊢;dsimp only at h ⊢;by_cases c1:x.e≠0;exact bA;have U:x.e=0:=om;obtain⟨ag,aa,Z,af,ac,ae⟩:=Ct G U;rw[A0 c1]at h ⊢;rw[utok,A1 ac];by_cases c2:k=256;(have H:Mp row a b u=(vq,x):=by unfold Mp;rw[G];dsimp only;rw[A1 (Or.inr c2)]);rw[A1 c2,H];simp;rw[A0 c2]at h ⊢;by_cases dt:(Cu row b k x).e≠0;exact zQ;rw[A0 dt]at h ⊢;have H:(Cu row b k x).e=0:=om;(have O:x.out.length<=3000:=by rw[Z];exact ho);have I:=Z5 b k x aa O H;have ah:=I.ge;rw[Z3o row a b u x G U c2 O H,A1 rfl];dsimp only;exact Pd row a b F E _ h om om I.le I.out
theorem N8(q:Nat)(ai:row.length=8*q)(u:US)(ak:u.p<=row.length)(af:u.out.length<=3000)(h:(Bh row u).2.e=0):Em row u=(decide ((Bh row u).1=1),(Bh row u).2):=by have key:∀(j:Nat) (x:US),(Kg j x).e=0->x.e=0/\Kg j x=ukept j x:=λj x U=>vK;unfold Bh at h ⊢;unfold Em;obtain⟨l,x1,aa⟩:∃l x1,uget row 1 u=(l,x1):=⟨_,_,rfl⟩;obtain⟨k,x2,O⟩:∃k x2,uget row 2 x1=(k,x2):=⟨_,_,rfl⟩;rw[aa]at h ⊢;dsimp only at h ⊢;rw[O]at h ⊢;dsimp only at h ⊢;by_cases c1:x1.e≠0;exact bA;rw[A0 c1]at h ⊢;by_cases c2:x2.e≠0;rw[A1 c2]at h;exact absurd h c2;have e2:x2.e=0:=om;obtain⟨aj,ar,ae,al,_⟩:=Bj aa om;obtain⟨ao,Z,ag,ah,_⟩:=Bj O e2;(have ac:x2.out.length<=3000:=by rw[ag,ae];exact af);rw[A0 c2]at h ⊢;rw[A0 c2];unfold Ed at h ⊢;by_cases G:k=0;rw[A1 G]at h ⊢;rw[A1 G];obtain⟨E,F⟩:=key _ _ h;rw[F,LD row x2 E];rw[A0 G]at h ⊢;rw[A0 G];by_cases k1:k=1;rw[A1 k1]at h ⊢;obtain⟨E,F⟩:=key _ _ h;subst k1;(have H:uopen row 1 x2=((Pu,Lj),x2):=by unfold uopen;rw[A1 rfl]);rw[H];dsimp only;rw[A0 c2,F,Pd row Pu Lj row.length (row.length+1) x2 E om om Z ac];rw[A0 k1]at h ⊢;by_cases k2:k=2;rw[A1 k2]at h ⊢;subst k2;(have H:uopen row 2 x2=Dm row x2:=by unfold uopen;rw[A0 od,A1 rfl]);rw[H];by_cases dt:(Dm row x2).2.e≠0;exact zQ;rw[A0 dt]at h ⊢;rw[A0 dt];obtain⟨E,F⟩:=key _ _ h;have I:=Sk row x2 Z ac om;have ap:=I.ge;rw[F,Pd row _ _ row.length (row.length+1) _ E om om I.le I.out];rw[A0 k2]at h;exact jU
theorem Xp(q:Nat)(E:row.length=8*q):∀(F:Nat) (u:US),u.e=0->(Bz row F u).e=0->u.p<=row.length->u.out.length<=3000->Dn row F u=Bz row F u
 |0,u,he,h,hp,ho=>rfl
 |F+1,u,he,h,hp,ho=>by rw[Bz]at h ⊢;rw[Dn];(have hl:(Bh row u).1<2:=by unfold Bh;split;show 1<2;decide;. split;show 1<2;decide;exact Zz row u);by_cases c:(Bh row u).1=0/\(Bh row u).2.e=0;rw[A1 c]at h ⊢;obtain⟨a1,a2,H,G⟩:=Ia q E u he hp ho c.2;rw[N8 q E u hp ho c.2,A1 ⟨by rw[c.1];rfl,c.2⟩];exact Xp q E F _ c.2 h H G;rw[A0 c]at h ⊢;(have I:(Bh row u).1=1:=by have:¬(Bh row u).1=0:=λe=>c ⟨e,h⟩;omega);rw[N8 q E u hp ho h,A0 (by rw[I];simp)]
theorem LI(q:Nat)(E:row.length=8*q)(h:(Du row).e=0):Qr row=Du row:=Xp q E _ _ rfl h (VF _) oS
theorem Ms(m:Nat)(pk:List Nat):unpD m pk=unpF m pk:=by unfold unpD unpF;by_cases m0:m=0;rw[A1 m0,A1 m0];rw[A0 m0,A0 m0];by_cases E:m=8;rw[A1 E,A1 E];by_cases h:(Qr (rowB pk pk.length)).e=0;rw[NH _ h];by_cases c:((Qr (rowB pk pk.length)).p+7)/8=pk.length/\pk.length<=6000;rw[A1 ⟨h,c⟩,A1 ⟨c.2,h,c.1⟩];rw[A0 (λk=>c k.2),A0 (λk=>c ⟨k.2.2,k.1⟩)];have hi:¬(Du (rowB pk pk.length)).e=0:=λe=>h (by rw[LI pk.length (Af _ _) e];exact e);rw[A0 (λk=>h k.1),A0 (λk=>hi k.2.1)];rw[A0 E,A0 E]
theorem Zy(E:∀y∈pk,y<256)(h:unpF m pk=vp ys):∀y∈ys,y<256:=by unfold unpF at h;split at h;(. cases h;exact E);. split at h;(. split at h;(. rename_i c;cases h;exact F9 (Z3 _ pk.length (Af _ _) c.2.1));. cases h);. cases h
structure EDn(n:Nat)(x:En):Prop where
 ok:EOk x
 val:∀y∈x.pk,y<256
 pl:x.pk.length<=n
 nm:x.f.name.length<=n
theorem Z6b{b r q:List Nat}{x:En}(ae:∀y∈b,y<256)(E:∀y∈r,y<256)(af:r.length<=b.length)(h:QD b ac r=vp (x,q)):EDn b.length x/\(∀y∈q,y<256)/\q.length<=b.length:=by
 unfold QD at h;split at h;. cases h
 . split at h;. cases h
   . rename_i c1 c2
     cases G:unpD (Cz r 10 12) ((b.drop (Cz r 42 46+30+Cz r 28 30+11)).take (Cz r 20 24))with
     |none=>rw[G]at h;cases h
     |some ys=>rw[G]at h;simp only[VS,YI,ZH]at h;obtain⟨rfl,rfl⟩:=h;have aa:∀y∈(r.drop (46+Cz r 28 30)).take 11,y<256:=λy F=>E y (WM (VU F));have H:=Dl E (i:=10) (j:=12) rfl;have v2:=Dl E (i:=16) (j:=20) rfl;have O:=Dl E (i:=28) (j:=30) rfl;have v4:=Dl E (i:=20) (j:=24) rfl;have Z:=Dl aa (i:=4) (j:=8) rfl;have U:=Dl aa (i:=8) (j:=10) rfl;replace H:Cz r 10 12<65536:=H;replace v2:Cz r 16 20<4294967296:=v2;replace O:Cz r 28 30<65536:=O;replace v4:Cz r 20 24<4294967296:=v4;replace Z:Cz ((r.drop (46+Cz r 28 30)).take 11) 4 8<4294967296:=Z;replace U:Cz ((r.drop (46+Cz r 28 30)).take 11) 8 10<65536:=U;have I:∀y∈(b.drop (Cz r 42 46+30+Cz r 28 30+11)).take (Cz r 20 24),y<256:=λy F=>ae y (WM (VU F));rw[Ms]at G;refine⟨⟨⟨⟨by dsimp only;omega,by dsimp only;omega⟩,⟨by dsimp only;omega,by dsimp only;omega⟩,?_,?_,v2,H,?_⟩,I,?_,?_⟩,λy F=>E y (WM F),by rw[VR];omega⟩;dsimp only;rw[Fg,VL];omega;dsimp only;rw[VL];omega;dsimp only;rw[G,Z58 (Zy I G)];dsimp only;rw[VL,VR];omega;dsimp only;rw[Fg,VL,VR];omega
theorem BD{b:List Nat}(G:∀y∈b,y<256):∀(k:Nat) (r:List Nat) (l:List En),(∀y∈r,y<256)->r.length<=b.length->Px b ac k r=vp l->l.length=k/\∀x∈l,EDn b.length x
 |0,r,l,_,_,h=>by cases h;exact⟨rfl,λx E=>by cases E⟩
 |k+1,r,l,hr,hl,h=>by
  unfold Px at h
  cases F:QD b ac r with
  |none=>rw[F]at h;cases h
  |some p=>rw[F]at h;simp only[VS,XK]at h;obtain⟨l2,H,rfl⟩:=h;obtain⟨n1,n2,I⟩:=Z6b (x:=p.1) (q:=p.2) G hr hl F;obtain⟨m1,m2⟩:=BD G k p.2 l2 n2 I H;refine⟨by rw[VG,m1],λx E=> ?_⟩;rcases VV.1 E with rfl|E;exact n1;exact m2 x E
theorem JZ{b:List Nat}{l:List En}(E:∀y∈b,y<256)(h:Xa b=vp l):l.length<=12/\∀x∈l,EDn b.length x:=by unfold Xa at h;split at h;(. cases h);. split at h;(. cases h);. rename_i c1 c2;obtain⟨H,F⟩:=BD E _ _ l (λy G=>E y (WM (VU G))) (by rw[VL,VR];omega) h;exact⟨om,F⟩
theorem EOk.doc{x:En}(h:EOk x):UV x:=⟨h.st,h.nd,h.nm,h.pl,h.cr,h.mt,by rw[Ms];exact h.un⟩
theorem aR.ok{x:En}(h:aR n x)(H:n<=12000)(F:∀y∈x.pk,y<256):EOk x:=by obtain⟨ys,E,G⟩:=h.un;have:=h.pl;exact⟨h.st,h.nd,h.nm.2,om,h.cr,h.mt,by rw[G,Z58 (Zy F E)];exact E⟩
def Ll(b:List Nat):Nat:=
 match Xa b with
  |none=>7
  |some l=>if errM (l.map En.f)≠0\/Ba l≠b then 7 else if sumsF l=vq then 10 else 0
def Yf(b:List Nat):List Fl:=if Ll b≠0 then []else ((Xa b).getD []).map En.f
theorem Z4j{b:List Nat}(ac:b.length<=12000)(H:∀y∈b,y<256):Ll b=readE b/\Yf b=readL b:=by
 (have key:∀l,Cd (b.length+1) b=vp l->Xa b=vp l->Ll b=readE b/\Yf b=readL b:=by intro l F E;(have e:Ll b=readE b:=by unfold Ll readE;rw[A0 om,F,E]);exact⟨e,by unfold Yf readL;rw[e,F,E]⟩);(have Z:Ll b=7->readE b=7->Ll b=readE b/\Yf b=readL b:=by intro F E;refine⟨F.trans E.symm,?_⟩;unfold Yf readL;rw[F,E];rfl);by_cases A:∃l,Cd (b.length+1) b=vp l/\Ba l=b/\errM (l.map En.f)=0;. obtain⟨l,F,E,U⟩:=A;have O:=(Ux H F).2;have aa:=Uw F H;refine key l F ?_;have:=Z1r l (λx G=>((O x G).ok ac (aa x G)).doc) (by have:=(Hf U).1;simpa using this) (by rw[E];omega);rwa [E]at this
 . by_cases D:∃l,Xa b=vp l/\Ba l=b/\errM (l.map En.f)=0;obtain⟨l,F,E,U⟩:=D;have O:=(JZ H F).2;have:=BC l (λx G=>(O x G).ok) [] (KO l);rw[XB,E]at this;exact absurd ⟨l,this,E,U⟩ A
   . refine Z ?_ ?_
     . unfold Ll
       cases I:Xa b with
       |none=>rfl
       |some l=>dsimp only;rw[A1];by_cases c:errM (l.map En.f)=0;exact .inr (λe=>D ⟨l,I,e,c⟩);exact .inl c
     . unfold readE;rw[A0 om]
       cases I:Cd (b.length+1) b with
       |none=>rfl
       |some l=>dsimp only;rw[A1];by_cases c:errM (l.map En.f)=0;exact .inr (λe=>A ⟨l,I,e,c⟩);exact .inl c
def UnA(w:wd)(pk:List Nat)(n:Nat)(e:Ending)(w':wd):Prop:=vx w.heap.size w w'/\
 (((Qr (rowB pk n)).e=0/\∃ov oc kv,e=vm (vd #[va ov (Qr (rowB pk n)).out.length oc,so vh ((((Qr (rowB pk n)).p+7)/8:Nat):Int),kv,so vh 0])/\PIn w' (va ov (Qr (rowB pk n)).out.length oc) (Qr (rowB pk n)).out/\∀g o,ov=vp ⟨g,o,vn⟩->w.heap.size<=g)\/
  ((Qr (rowB pk n)).e≠0/\e=vm (vd #[va vn 0 0,so vh 0,va vn 0 0,so vh (Qr (rowB pk n)).e])))
def aO(Gd:Prop):Prop:=∀(W:wd) (a:Option vw) (n c:Nat) (pk:List Nat),pk.length=n->n<=12000->BytesIn W a pk->(∀x∈pk,x<256)->(Gd\/ (Qr (rowB pk n)).e=0)->
 vu v8 39 #[va a n c] W λe w'=>UnA W pk n e w'
def EnD(w:wd)(bs:List Nat)(e:Ending)(w':wd):Prop:=vx w.heap.size w w'/\
 ((Xa bs=vn/\e=vm (vd #[va vn 0 0,ve vq]))\/
  ∃es ad c,Xa bs=vp (es.map Ev.e)/\e=vm (vd #[va ad es.length c,ve (Ba (es.map Ev.e)==bs)])/\K8 w' ad es)
theorem K8.below{xs:List Ev}(h:K8 w ah xs)(I:vx w.heap.size w w'):K8 w' ah xs:=by refine⟨?_,λx E=>⟨(h.all x E).1.below I,(h.all x E).2⟩⟩;exact xY
theorem GN(E:pk.length<=12000)(h:unpD m pk=vp ys):ys.length<=12000:=by rw[Ms]at h;unfold unpF at h;split at h;(. cases h;exact E);. split at h;(. split at h;(. rename_i c;cases h;have:=(Ue (rowB pk pk.length) pk.length (Af _ _) c.2.1).2.2.1;omega);. cases h);. cases h
theorem FE(n:Nat)(dt:bs.length=n)(ml:n<=12000)(eg:n<=ac)(d8:PkIn w a ac bs)(c5:∀x∈bs,x<256)(fe:Prop)(e9:fe\/Xa bs≠vn)(d5:aO fe):vu v8 10 #[va a n ac] w λe w'=>EnD w bs e w':=by
 have ao:vz (Xa bs=vn->∀W,vx w.heap.size w W->EnD w bs (vm (vd #[va vn 0 0,ve vq])) W):=Ab (λh W F=>⟨F,.inl ⟨h,rfl⟩⟩);by_cases ly:n<22;(. have U:=Ab (ao (by unfold Xa;rw[A1 om]) w (A2 _ _));have ko:(n:Int)<22:=om;clear d8 c5 dt d5 e9 ao;go_enter func10,ntmps10;go_wp2;go_ret2;exact U);have ko:¬(n:Int)<22:=om;obtain⟨g,o,rfl,az,ek⟩:=Cb d8.1 om;obtain⟨q,jj⟩:=exq (n-22);have ii:=SG g o n ac q ((n:Int)-22) 22 om om eg om om;have ix:vh.wrap ((n:Int)-22)=(n:Int)-22:=sU;(have c8:∀j,j<(bs.drop q).length->w.cell? ⟨g,o+q+j,vn⟩=vp (so vi ((bs.drop q).getD j 0:Nat)):=by intro j aw;rw[VR]at aw;have e:=pJ;rw[e,WV];exact ek (q+j) om);have bn:∀x∈bs.drop q,x<256:=λx O=>c5 x (WM O);have jg:(bs.drop q).length=22:=tP;have j1:=Fr g (o+q) 22 (ac-q) 8 10 8 10 2 rfl rfl om om om om rfl;have kk:=Fr g (o+q) 22 (ac-q) 12 16 12 16 4 rfl rfl om om om om rfl;have j7:=Fr g (o+q) 22 (ac-q) 16 20 16 20 4 rfl rfl om om om om rfl;obtain⟨bg,bk,bi⟩:=Bq (Ch az c8 bn 8 10 2 (ac-q-8) rfl om om om) (Ch az c8 bn 12 16 4 (ac-q-12) rfl om om om) (Ch az c8 bn 16 20 4 (ac-q-16) rfl om om om);obtain⟨N,dw⟩:=exq (Cz (bs.drop q) 8 10);obtain⟨al,dq⟩:=exq (Cz (bs.drop q) 12 16);obtain⟨H,di⟩:=exq (Cz (bs.drop q) 16 20);(have lw:N<65536:=by rw[<-dw];exact Dl bn rfl);(have mh:al<4294967296:=by rw[<-dq];exact Dl bn rfl);(have lu:H<4294967296:=by rw[<-di];exact Dl bn rfl);rw[dw]at bg;rw[dq]at bk;rw[di]at bi;have de:vz (Xa bs=if 12<N\/H+al+22≠n then vn else Px bs H N ((bs.drop H).take al)):=Ab (by unfold Xa;rw[A0 om,dt,jj,dw,dq,di]);obtain⟨bc,ba,ay,a8,a4⟩:=HF ek c5 dt d5 e9;clear d8 c5 dt d5 e9 c8 bn jg dw dq di ek;go_enter func10,ntmps10;go_upto_region 4 with fail;refine wp_region_held_drew (S:=λW=>vx w.heap.size w W) oR (Ae (A2 _ _) 1) (λG=> ?_);refine B0 0 G ?_;refine B0 1 G ?_;refine B0 3 G ?_;refine B0 4 G ?_;refine B0 6 G ?_;refine B0 7 G ?_;refine C1 2 λK hK=> ?_;go_simp;refine(bg _ G).mono ?_;rintro e w' ⟨rfl,rfl⟩;dsimp only;refine hK.out _ _ G (λ_=> ?_);clear hK K;refine C1 5 λK hK=> ?_;go_simp;refine(bk _ G).mono ?_;rintro e w' ⟨rfl,rfl⟩;dsimp only;refine hK.out _ _ G (λ_=> ?_);clear hK K;refine C1 8 λK hK=> ?_;go_simp;refine(bi _ G).mono ?_;rintro e w' ⟨rfl,rfl⟩;dsimp only;refine hK.out _ _ G (λ_=> ?_);clear hK K;refine I1 9 G ?_;refine I1 10 G ?_;refine I1 11 G ?_;refine wpAnyH_done oR ?_ _;clear ii ix j1 kk j7 bg bk bi G;have dm:vx w.heap.size w w.drew:=Ae (A2 _ _) 1;by_cases ff:12<N\/H+al+22≠n;(. have U:=Ab (ao (by rw[Aa de,A1 ff]) w.drew dm);clear ao de bc ba ay a8 a4 dm;by_cases mc:12<N;(. have hv:(12:Int)<N:=om;go_wp2;go_ret2;exact U);. have hv:¬(12:Int)<N:=om;have js:((H:Int)+al+22 !=(n:Int))=true:=tN;go_wp2;go_ret2;exact U);have hv:¬(12:Int)<N:=om;have kj:H+al+22=n:=om;(have js:((H:Int)+al+22 !=(n:Int))=false:=by simp only[kbq];omega);have bv:vz (Xa bs=Px bs H N ((bs.drop H).take al)):=Ab (by rw[Aa de,A0 ff]);have l7:=Fr g o n ac H (H+al) (H:Int) ((H:Int)+al) al rfl om om om eg om om;have je:=Ab dm;clear ff de dm;go_wp2;go_loopw [8,9,10,11,12,13,14,15,16,17,18,19,55] (λkc ja _ _ _ _ _ _ _ _ _ _ eu wr=>∃(k p m:Nat) (es:List Ev),k<=N/\eu=so vh k/\kc=va (vp ⟨g,o+p,vn⟩) m (ac-p)/\vz (p+m+22=n)/\vz (es.length=k)/\vz (HO wr w.heap.size ja es)/\vz (vx w.heap.size w wr)/\vz (Xa bs=(Px bs H (N-k) ((bs.drop p).take m)).map (es.map Ev.e++ ·))/\vz (∀x∈es,EWd x.e/\∀y∈x.e.pk,y<256)) (λ_ _ _ _ _ _ _ _ _ _ _ _ eu _=>N-(vy eu).toNat);exact⟨0,H,al,[],VF _,rfl,rfl,kj,rfl,Ab (HO.nil _ _),je,Ab (by rw[Aa bv];simp),Ab (λx O=>by cases O)⟩;obtain⟨k,p,m,es,l4,rfl,rfl,jr,ci,a9,aa,ce,F⟩:=hrel;by_cases l0:k<N
 . have mi:=Aa jr;obtain⟨r,hr⟩:=exq ((bs.drop p).take m);obtain⟨j,aw⟩:∃j,N-k=j+1:=⟨N-k-1,om⟩;have a7:vz (Xa bs=((QD bs H r).bind λx=>(Px bs H j x.2).map (x.1:: ·)).map (es.map Ev.e++ ·)):=Ab (by rw[Aa ce,aw,hr,Px]);(have h3:r.length=m:=by rw[<-hr,VL,VR,Aa ay];omega);have aj:vz (QD bs H r=vn->∀W,vx w.heap.size w W->EnD w bs (vm (vd #[va vn 0 0,ve vq])) W):=Ab (λh W F=>Aa ao (by rw[Aa a7,h];rfl) W F);have ar:g<wr.heap.size:=VC az aa.size;(have b7:∀i,i<r.length->wr.cell? ⟨g,o+p+i,vn⟩=vp (so vi (r.getD i 0:Nat)):=by intro i hi;(have e2:r.getD i 0=bs.getD (p+i) 0:=by rw[<-hr];simp only[List.getD];rw[XR om,XL]);rw[e2,(Aa aa).cell (p:=⟨g,_,vn⟩) az,WV];exact bc (p+i) uF);have a5:∀x∈r,x<256:=λx O=>Aa ba x (by rw[<-hr]at O;exact WM (VU O));by_cases lg:m<46;(. have U:=Ab (aj (by unfold QD;rw[A1 om]) wr aa);have iz:(m:Int)<46:=om;clear ao aj a7 ce a9 F bc ba ay a8 a4 b7 a5 hr aa;go_wp2;go_ret2;exact U);have iz:¬(m:Int)<46:=om;have jv:=Fr g (o+p) m (ac-p) 28 30 28 30 2 rfl rfl om om om om rfl;have kq:=Fr g (o+p) m (ac-p) 20 24 20 24 4 rfl rfl om om om om rfl;have d6:=Fr g (o+p) m (ac-p) 42 46 42 46 4 rfl rfl om om om om rfl;obtain⟨bg,bk,bi⟩:=Bq (Ch ar b7 a5 28 30 2 (ac-p-28) rfl om om om) (Ch ar b7 a5 20 24 4 (ac-p-20) rfl om om om) (Ch ar b7 a5 42 46 4 (ac-p-42) rfl om om om);obtain⟨E,cv⟩:=exq (Cz r 28 30);obtain⟨bd,c7⟩:=exq (Cz r 20 24);obtain⟨ax,ct⟩:=exq (Cz r 42 46);(have lh:E<65536:=by rw[<-cv];exact Dl a5 rfl);(have mj:bd<4294967296:=by rw[<-c7];exact Dl a5 rfl);(have l6:ax<4294967296:=by rw[<-ct];exact Dl a5 rfl);rw[cv]at bg;rw[c7]at bk;rw[ct]at bi;obtain⟨bz,bj,dv,dr,c9,g5,ka,kz⟩:=T6 b7 a5 cv c7 ct hr h3 aw;clear b7 a5 cv c7 ct hr h3 aw ce;go_upto_region 13 with fail;refine wp_region_held_drew (S:=λW=>vx wr.heap.size wr W) oR (Ae (A2 _ _) 1) (λG=> ?_);refine B0 0 G ?_;refine B0 1 G ?_;refine B0 3 G ?_;refine B0 4 G ?_;refine B0 6 G ?_;refine B0 7 G ?_;refine C1 2 λK hK=> ?_;go_simp;refine(bg _ G).mono ?_;rintro e w' ⟨rfl,rfl⟩;dsimp only;refine hK.out _ _ G (λ_=> ?_);clear hK K;refine C1 5 λK hK=> ?_;go_simp;refine(bk _ G).mono ?_;rintro e w' ⟨rfl,rfl⟩;dsimp only;refine hK.out _ _ G (λ_=> ?_);clear hK K;refine C1 8 λK hK=> ?_;go_simp;refine(bi _ G).mono ?_;rintro e w' ⟨rfl,rfl⟩;dsimp only;refine hK.out _ _ G (λ_=> ?_);clear hK K;refine I1 9 G ?_;refine I1 10 G ?_;refine I1 11 G ?_;refine wpAnyH_done oR ?_ _;clear jv kq d6 bg bk bi G;have ck:vx wr.heap.size wr wr.drew:=Ae (A2 _ _) 1;by_cases ia:m<46+E+11\/H<ax+30+E+11+bd;(. have U:=Ab (aj (by unfold QD;rw[A0 qAE,Aa dv,Aa dr,Aa c9,Aa ka,A1 ia]) wr.drew (aa.trans (ck.mono aa.size)));clear ao aj a7 a9 F bc ba ay a8 a4 bz bj g5 dv dr c9 aa ck;by_cases mm:m<46+E+11;(. have hj:(m:Int)<46+(E:Int)+11:=om;go_wp2;go_ret2;exact U);. have hj:¬(m:Int)<46+(E:Int)+11:=om;have kt:(H:Int)<ax+30+(E:Int)+11+(bd:Int):=om;go_wp2;go_ret2;exact U);have hj:¬(m:Int)<46+(E:Int)+11:=om;have kt:¬(H:Int)<ax+30+(E:Int)+11+(bd:Int):=om;obtain⟨M,df⟩:=exq (Cz r 10 12);obtain⟨c6,dj⟩:=exq (Cz r 16 20);have h8:=Aa ka;(have i1:M<65536:=by rw[<-df];exact Dl bj rfl);(have h2:c6<4294967296:=by rw[<-dj];exact Dl bj rfl);have cu:=Ab (Ch ar bz bj 10 12 2 (ac-p-10) rfl om om om);have ku:=Ab (Ch ar bz bj 16 20 4 (ac-p-16) rfl om om om);rw[df]at cu;rw[dj]at ku;have jb:vj.wrap (c6:Int)=c6:=Bf h2;have il:=Fr g (o+p) m (ac-p) (46+E) (46+E+11) (46+(E:Int)) (46+(E:Int)+11) 11 om om om om om om om;have kx:=Fr g (o+p) m (ac-p) 10 12 10 12 2 rfl rfl om om om om rfl;have k3:=Fr g (o+p) m (ac-p) 16 20 16 20 4 rfl rfl om om om om rfl;have fk:=Ab df;have ig:=Ab dj;clear df dj;obtain⟨ky,ft⟩:=exq (wr.drew);rw[ft]at ck ⊢;clear ft;have i4:=Ab ck;clear ck;go_upto_region 17 with fail;go_cut [14] (λey cg=>∃X,ey=vc (vp ⟨X,0,vn⟩)/\vz (cg.heap[X]? =vp (vl #[vb ⟨#[]⟩,va vn 0 0,so vh 0,so vh 0,ve vq,so vh M,va vn 0 0,so vj c6] 37 (0,0))/\wr.heap.size<=X/\vx wr.heap.size wr cg));(. refine wp_region_held_drew (S:=λW=>vx wr.heap.size wr W) oR (Ae i4 1) (λG=> ?_);generalize ky.drew=gh at G ⊢;refine B0 0 G ?_;refine B0 1 G ?_;refine B0 3 G ?_;refine B0 4 G ?_;refine wpAnyH_ready (rs:= [2,8]) oR oS (AllReadyH.cons rfl (λK hK=> ?_) (AllReadyH.cons rfl (λK hK=> ?_) AllReadyH.nil));(. go_simp;refine(cu _ G).mono ?_;rintro e h7 ⟨rfl,ic⟩;obtain rfl:gh=h7:=ic.symm;dsimp only;refine hK.out _ _ G (λ_=> ?_);clear hK K;refine wpAnyH_ready (rs:= [5,8]) oR oS (AllReadyH.cons rfl (λK hK=> ?_) (AllReadyH.cons rfl (λK hK=> ?_) AllReadyH.nil));(. go_simp;refine(ku _ G).mono ?_;rintro e h7 ⟨rfl,ic⟩;obtain rfl:gh=h7:=ic.symm;dsimp only;refine hK.out _ _ G (λ_=> ?_);clear hK K;refine B0 6 G ?_;refine B0 7 G ?_;refine C1 8 λK hK=> ?_;go_simp;have bb:=cI;have ai:=bQ;have km:=G.size;generalize gh.alloc (vl #[vb ⟨#[]⟩,va vn 0 0,so vh 0,so vh 0,ve vq,so vh 0,va vn 0 0,so vj 0] 37)=w3 at bb ai ⊢;generalize gh.heap.size=X at bb km ⊢;refine hK.out _ _ ai (λ_=> ?_);clear hK K G;have G:=ai;clear ai;exact qE);. go_simp;have bb:=cI;have ai:=bQ;have km:=G.size;generalize gh.alloc (vl #[vb ⟨#[]⟩,va vn 0 0,so vh 0,so vh 0,ve vq,so vh 0,va vn 0 0,so vj 0] 37)=w3 at bb ai ⊢;generalize gh.heap.size=X at bb km ⊢;refine hK.out _ _ ai (λ_=> ?_);clear hK K G;have G:=ai;clear ai;exact xR);. go_simp;have bb:=cI;have ai:=bQ;have km:=G.size;generalize gh.alloc (vl #[vb ⟨#[]⟩,va vn 0 0,so vh 0,so vh 0,ve vq,so vh 0,va vn 0 0,so vj 0] 37)=w3 at bb ai ⊢;generalize gh.heap.size=X at bb km ⊢;refine hK.out _ _ ai (λ_=> ?_);clear hK K G;have G:=ai;clear ai;refine C1 2 λK hK=> ?_;go_simp;refine(cu _ G).mono ?_;rintro e h7 ⟨rfl,ic⟩;obtain rfl:w3=h7:=ic.symm;dsimp only;refine hK.out _ _ G (λ_=> ?_);clear hK K;exact xR);rename wd=>cg;obtain⟨X,rfl,bb⟩:=hcut;obtain⟨fi,lq,f8⟩:=Aa bb
   obtain⟨nml,b8⟩:=exq ((r.drop 46).take E);obtain⟨nm,dz⟩:=exq (B (o8 nml));obtain⟨xs,b4⟩:=exq ((r.drop (46+E)).take 11);(have ip:xs.length=11:=by rw[<-b4,VL,VR];omega);(have e4:nml.length=E:=by rw[<-b8,VL,VR];omega);have cj:∀x∈xs,x<256:=λx O=>Aa bj x (by rw[<-b4]at O;exact WM (VU O));(have da:∀i,i<xs.length->wr.cell? ⟨g,o+p+(46+E)+i,vn⟩=vp (so vi (xs.getD i 0:Nat)):=by intro i hi;(have e2:xs.getD i 0=r.getD (46+E+i) 0:=by rw[<-b4];simp only[List.getD];rw[XR om,XL]);rw[e2,WV];exact bz (46+E+i) (by rw[h8];omega));have gw:vz (∀W,vx wr.heap.size wr W->(convert 23 9 (va (vp ⟨g,o+p+46,vn⟩) E (ac-p-46))).run v8 W=.ok (vb nm) W):=Ab (λW F=>by (have bf:BytesIn wr (vp ⟨g,o+p+46,vn⟩) nml:=by rw[<-b8];exact Oj ar bz 46 E);have ds:=FJ (vp ⟨g,o+p+46,vn⟩) E (ac-p-46) nml W e4 (bf.below F (VA _));rw[ds,<-dz];rfl);obtain⟨bm,cy⟩:=exq (xs.getD 10 0);have gd:vz (∀W,vx wr.heap.size wr W->W.cell? ⟨g,o+p+(46+E)+10,vn⟩=vp (so vi bm)):=Ab (λW F=>by rw[F.cell (p:=⟨g,_,vn⟩) ar,<-cy];exact da 10 om);have fg:=Ab (Ch ar da cj 4 8 4 (ac-p-(46+E)-4) rfl om om om);have ej:=Ab (Ch ar da cj 8 10 2 (ac-p-(46+E)-8) rfl om om om);obtain⟨ag,cn⟩:=exq (Cz xs 4 8);obtain⟨af,cd⟩:=exq (Cz xs 8 10);(have lj:ag<4294967296:=by rw[<-cn];exact Dl cj rfl);(have k9:af<65536:=by rw[<-cd];exact Dl cj rfl);rw[cn]at fg;rw[cd]at ej;obtain⟨gn,et⟩:=exq (((bm:Int)==1));have iy:=Fr g (o+p) m (ac-p) 46 (46+E) 46 (46+(E:Int)) E rfl om om om om om om;have i0:=Fr g (o+p+(46+E)) 11 (ac-p-(46+E)) 4 8 4 8 4 rfl rfl om om om om rfl;have j5:=Fr g (o+p+(46+E)) 11 (ac-p-(46+E)) 8 10 8 10 2 rfl rfl om om om om rfl;obtain⟨I,b9⟩:=exq ((bs.drop (ax+30+E+11)).take bd);have ie:=Ab (show nml.length=E/\B (o8 nml)=nm/\(r.drop 46).take E=nml/\Cz xs 4 8=ag/\Cz xs 8 10=af/\((bm:Int)==1)=gn/\xs.getD 10 0=bm/\(r.drop (46+E)).take 11=xs from ⟨e4,dz,b8,cn,cd,et,cy,b4⟩);have ki:vh.wrap (46+(E:Int))=46+(E:Int):=sU
   have ap:vz (QD bs H r=(unpD M I).bind λys=>vp (⟨⟨o8 nml,o8 ys,((ag:Nat):Int),((af:Nat):Int),gn⟩,M,I,c6⟩,r.drop (46+E+11))):=Ab (by
    unfold QD
    rw[A0 om,Aa dv,Aa dr,Aa c9,A0 (by rw[h8];exact ia),Aa fk,b9,Aa ig,b4,cn,cd,b8,cy]
    have e:decide (bm=1)=gn:=by
     rw[<-et]
     by_cases bf:bm=1
     . rw[bf];rfl
     . rw[H2 bf];symm;rw[HH];omega
    rw[e])
   (have hu:I.length=bd:=by rw[<-b9,VL,VR,Aa ay];omega);have dh:vz (∀x∈I,x<256):=Ab (λx O=>Aa ba x (by rw[<-b9]at O;exact WM (VU O)));have co:vz (∀W,vx wr.heap.size wr W->BytesIn W (vp ⟨g,o+(ax+30+E+11),vn⟩) I):=Ab (λW F=>by rw[<-b9];exact Oj (VC ar F.size) (λi hi=>(F.cell (p:=⟨g,_,vn⟩) ar).trans ((aa.cell (p:=⟨g,_,vn⟩) az).trans (bc i hi))) _ _);have a6:=Ab hu;clear b8 b4 ip e4 cj da cy cn cd bb dz b9 hu;go_upto_region 18 with fail;go_cut [14] (λey bh=>ey=vc (vp ⟨X,0,vn⟩)/\vz (bh.heap[X]? =vp (vl #[vb nm,va vn 0 0,so vh ag,so vh af,ve gn,so vh M,va vn 0 0,so vj c6] 37 (0,0))/\vx wr.heap.size wr bh));(. refine wp_region_held_drew (S:=λW=>vx wr.heap.size wr W) oR (Ae f8 1) (λG=> ?_);have ei:cg.drew.heap[X]? =vp (vl #[vb ⟨#[]⟩,va vn 0 0,so vh 0,so vh 0,ve vq,so vh M,va vn 0 0,so vj c6] 37 (0,0)):=fi;generalize cg.drew=gh at G ei ⊢;refine B0 0 G ?_;refine B0 1 G ?_;refine B0 2 G ?_;refine B0 3 G ?_;refine wpAnyH_take (i:=4) (v:=vb nm) rfl oR oR oR (λ_ _ _ h=>h) (Or.inl ⟨by rfl,λW eb=>by have lv:=Aa gw W eb;go_simp⟩) G ?_;refine B0 5 G ?_;refine B0 6 G ?_;refine B0 8 G ?_;refine B0 9 G ?_;refine B0 11 G ?_;refine B0 12 G ?_;refine wpAnyH_take (i:=13) (v:=so vi bm) rfl oR oR oR (λ_ _ _ h=>h) (Or.inl ⟨by rfl,λW eb=>by have lr:=Aa gd W eb;go_simp⟩) G ?_;refine B0 14 G ?_;refine C1 7 λK hK=> ?_;go_simp;refine(fg _ G).mono ?_;rintro e h7 ⟨rfl,ic⟩;obtain rfl:gh=h7:=ic.symm;dsimp only;refine hK.out _ _ G (λ_=> ?_);clear hK K;refine C1 10 λK hK=> ?_;go_simp;refine(ej _ G).mono ?_;rintro e h7 ⟨rfl,ic⟩;obtain rfl:gh=h7:=ic.symm;dsimp only;refine hK.out _ _ G (λ_=> ?_);clear hK K;refine B0 15 G ?_;refine I1 16 G ?_;refine C1 17 λK hK=> ?_;rw[A1 (by rfl)];refine wp_store_mid 30 (.tmp 117) (.tmp 116) rfl X 0 #[vb nm,va vn 0 0,so vh ag,so vh af,ve gn] rfl rfl (Z2l ei) oR oR ?_;obtain⟨ir,k5⟩:=Ze3 gh X 37 _ _ _ _ _ _ _ _ (vb nm) (va vn 0 0) (so vh ag) (so vh af) (ve gn) ei;have lw:=G.grown k5 G.size (λg e=>by cases e;exact lq);refine hK.out _ _ lw (λ_=> ?_);clear hK K;refine wpAnyH_done oR ?_ _;go_wp2_with fail;go_meet;exact⟨rfl,Ab ⟨ir,lw⟩⟩);rename wd=>bh;obtain⟨rfl,hw⟩:=hcut;obtain⟨db,ep⟩:=Aa hw;obtain⟨ah,jm⟩:=exq (ax+30+E+11);have hz:=Fr g o n ac ah (ah+bd) ((ax:Int)+30+(E:Int)+11) ((ax:Int)+30+(E:Int)+11+(bd:Int)) bd om om om om eg om om;obtain⟨CF,ha⟩:=exq (ac-ah);have gy:bd<=CF:=om;rw[ha]at hz;clear ha;have hp:=Ac (i:=6) db;simp only[WF,VW,WI]at hp;have iw:=B1 bh X 6 _ _ db;obtain⟨w6,cp⟩:=exq (bh.setCell ⟨X,6,vn⟩ (va (vp ⟨g,o+ah,vn⟩) bd CF));(have bq:w6.heap[X]? =vp (vl (#[vb nm,va vn 0 0,so vh ag,so vh af,ve gn,so vh M,va (vp ⟨g,o+ah,vn⟩) bd CF,so vj c6]) 37 (0,0)):=by rw[<-cp,CR bh X 6 _ _ _ db];rfl);(have f4:vx wr.heap.size wr w6:=by rw[<-cp];exact ep.grown (Ad bh X 6 _) ep.size (λg e=>by cases e;exact lq));have h4:=Ab cp;clear cp;clear fi f8 hw cu ku fg ej gw gd iy i0 j5 kx k3 il ki jb ep et;rw[jm]at co;have du:=Ab bq;have av:=Ab f4;have b0:=Ac (i:=5) bq;have g8:=Ac (i:=6) bq;have k1:=Ac (i:=1) bq;simp only[WF,VW,WI]at b0 g8 k1;have h0:=λj=>B1 w6 X j _ _ bq;have f1:=h0 1;clear bq f4 h0;go_upto_region 21 with fail;rw[Aa h4];clear hp iw hz db h4;go_upto_block 2 with fail;go_cut [16,17,18,19] (λ_ _ _ _ Z=>∃ys fa fc,vz (unpD M I=vp ys/\Z.heap[X]? =vp (vl (#[vb nm,va fa ys.length fc,so vh ag,so vh af,ve gn,so vh M,va (vp ⟨g,o+ah,vn⟩) bd CF,so vj c6]) 37 (0,0))/\vx wr.heap.size wr Z/\PkIn Z fa fc ys/\ys.length<=fc/\∀ae ak,fa=vp ⟨ae,ak,vn⟩->ae<w.heap.size\/wr.heap.size<=ae))
   . by_cases m0:M=0;(. subst m0;have e5:vz (∀W,w6.setCell ⟨X,1,vn⟩ (va (vp ⟨g,o+ah,vn⟩) bd CF)=W->∃ys fa fc,vz (unpD 0 I=vp ys/\W.heap[X]? =vp (vl (#[vb nm,va fa ys.length fc,so vh ag,so vh af,ve gn,so vh (0:Nat),va (vp ⟨g,o+ah,vn⟩) bd CF,so vj c6]) 37 (0,0))/\vx wr.heap.size wr W/\PkIn W fa fc ys/\ys.length<=fc/\∀ae ak,fa=vp ⟨ae,ak,vn⟩->ae<w.heap.size\/wr.heap.size<=ae)):=Ab (by intro W F;(have cq:vx wr.heap.size wr W:=by rw[<-F];exact av.grown (Ad w6 X 1 _) av.size (λg e=>by cases e;exact lq));refine⟨I,vp ⟨g,o+ah,vn⟩,CF,Ab ⟨by unfold unpD;rw[A1 rfl],?_,cq,⟨Aa co W cq,λe=>by cases e⟩,by rw[Aa a6];exact gy,λae ak e=>.inl (by cases e;exact az)⟩⟩;rw[<-F,CR w6 X 1 _ _ _ (Aa du),Aa a6];rfl);replace b0:w6.cell? ⟨X,5,vn⟩=vp (so vh 0):=b0;clear ap ao aj a7 bv a8 a4;go_wp2;go_meet;exact e5 _ rfl);have kh:((M:Int)==0)=false:=sV;by_cases f9:M=8
     . subst f9;clear kh;replace b0:w6.cell? ⟨X,5,vn⟩=vp (so vh 8):=b0;have i9:bd<=12000:=om
       have g9:vz (fe\/ (Qr (rowB I bd)).e=0):=Ab (by
        rcases Aa a4 with bf|bf
        . exact .inl bf
        . refine .inr ?_
          by_cases ds:(Qr (rowB I bd)).e=0
          . exact ds
          . exfalso
            apply bf
            rw[Aa a7,Aa ap]
            have:unpD 8 I=none:=by
             unfold unpD
             rw[A0 od,A1 rfl,Aa a6,A0 (λe8=>ds e8.1)]
            rw[this]
            rfl)
       have bu:vz (unpD 8 I=if (Qr (rowB I bd)).e=0/\((Qr (rowB I bd)).p+7)/8=bd/\bd<=6000 then vp (Qr (rowB I bd)).out else vn):=Ab (by unfold unpD;rw[A0 od,A1 rfl,Aa a6]);have e7:=Ab (a8 w6 (vp ⟨g,o+ah,vn⟩) bd CF I a6 i9 (co w6 av) dh g9);have f3:vz (∀W,vx w6.heap.size w6 W->vx w.heap.size w W):=Ab (λW F=>aa.trans ((av.trans (F.mono av.size)).mono aa.size));have hh:vz (X<w6.heap.size):=Ab (VD.1 du).1;clear a8 a4 g9 a7 bv ao;go_wp2_with fail;refine e7.mono ?_;rintro e au ⟨cm,k7⟩;have b5:=(cm.block X hh).trans (Aa du);have i6:=Ac (i:=6) b5;have k6:=Ac (i:=1) b5;simp only[WF,VW,WI]at i6 k6;have l3:=B1 au X 1 _ _ b5;rcases k7 with ⟨cz,ov,hf,kv,rfl,em,g4⟩|⟨cz,rfl⟩
       . generalize Qr (rowB I bd)=en at*;obtain⟨oi,e1⟩:=exq ((en.p+7)/8);obtain⟨jt,dl⟩:=exq (en.out.length);rw[dl]at em;rw[e1,dl];obtain⟨e0,cw,gq,d7,eh,ew⟩:=WW em g4 e1 dl b5 cm;clear em g4 e1 dl b5 cm e7;by_cases lk:oi≠bd\/6000<bd;. have U:=Ab (aj (by rw[Aa ap,Aa bu,A0 (by rw[Aa gq];omega)];rfl) au (f3 au ew));clear aj ap bu e0 cw eh;by_cases l8:oi≠bd;(. have gv:((oi:Int)!=bd)=true:=tN;go_wp2;go_ret2;exact U);. have gv:=sD;have j9:(6000:Int)<bd:=om;go_wp2;go_ret2;exact U
         . have gv:=sD;have j9:¬(6000:Int)<bd:=om
           have e5:vz (∀W,au.setCell ⟨X,1,vn⟩ (va ov jt hf)=W->∃ys fa fc,vz (unpD 8 I=vp ys/\W.heap[X]? =vp (vl (#[vb nm,va fa ys.length fc,so vh ag,so vh af,ve gn,so vh (8:Nat),va (vp ⟨g,o+ah,vn⟩) bd CF,so vj c6]) 37 (0,0))/\vx wr.heap.size wr W/\PkIn W fa fc ys/\ys.length<=fc/\∀ae ak,fa=vp ⟨ae,ak,vn⟩->ae<w.heap.size\/wr.heap.size<=ae)):=Ab (by
            intro W F
            have f5:vx wr.heap.size wr au:=av.trans (ew.mono av.size)
            have cq:vx wr.heap.size wr W:=by rw[<-F];exact f5.grown (Ad au X 1 _) f5.size (λg e=>by cases e;exact lq)
            obtain⟨lm,li,bo,gx,j4⟩:=Aa e0
            rw[Aa d7]at bo gx
            cases bo
            have l9:=av.size
            refine⟨en.out,ov,hf,Ab ⟨by rw[Aa bu,A1 ⟨cz,by rw[Aa gq];omega,om⟩],?_,cq,?_,by rw[Aa d7];exact gx,λae ak e=>.inr (oI (Aa cw ae ak e))⟩⟩
            . rw[<-F,CR au X 1 _ _ _ (Aa eh),Aa d7]
              rfl
            . rw[<-F]
              refine j4.grown (Ad au X 1 _) (λae ak e jo e2=> ?_)
              have ho:=Aa cw ae ak e
              have k8:=Aa hh
              cases e2
              omega)
           clear aj ap bu e0 cw eh ew;go_wp2;go_meet;exact e5 _ rfl
       . have U:=Ab (aj (by rw[Aa ap,Aa bu,A0 (λe8=>cz e8.1)];rfl) au (f3 au cm));(have jo:((Qr (rowB I bd)).e !=0)=true:=by simp only[HV,ne_eq];exact cz);clear aj ap bu e7 cm b5;generalize (Qr (rowB I bd)).e=lz at*;go_wp2;go_ret2;exact U
     . have l5:((M:Int)==8)=false:=sV;have U:=Ab (aj (by rw[Aa ap,show unpD M I=vn by unfold unpD;rw[A0 m0,A0 f9]];rfl) w6 (aa.trans (av.mono aa.size)));clear ao aj a7 bv a8 a4 ap;go_wp2;go_ret2;exact U
   rename wd=>Z;obtain⟨ys,fa,fc,h1⟩:=hcut;obtain⟨dn,a3,dc,hg,fp,fq⟩:=Aa h1;obtain⟨jc,gi,ij,im,jf,k0,ji,i3⟩:=Aa ie;have fy:∀x∈ys,x<256:=Zy dh (by rw[<-Ms];exact dn);have jh:ys.length<=12000:=GN (by rw[Aa a6];omega) dn;obtain⟨y,bw⟩:∃y:Ev,y=⟨⟨⟨o8 nml,o8 ys,((ag:Nat):Int),((af:Nat):Int),gn⟩,M,I,c6⟩,fa,fc,vp ⟨g,o+ah,vn⟩,CF⟩:=⟨_,rfl⟩;obtain⟨hq,ed⟩:=exq (ys.length);(have hs:y.rcells= [vb nm,va fa hq fc,so vh ag,so vh af,ve gn,so vh M,va (vp ⟨g,o+ah,vn⟩) bd CF,so vj c6]:=by rw[bw];simp only[Ev.rcells,Fg,ed,Aa a6,gi]);(have gg:EvR Z y:=by rw[bw];refine⟨⟨?_,by simp only[Fg];exact fp,by simp only[Fg];omega,by simp only[Fg];omega,Aa co Z dc,λe=>by cases e⟩,by simp only[];rw[Aa a6];exact gy⟩;simp only[];rw[Z58 fy];exact hg);(have fw:y.lies (λb=>vp b≠u9.ownBlock):=by rw[bw];constructor;intro b ak bo e2 e3;have ho:=a9.own.lt b e3.symm;have k8:=fq b ak bo;omega;. intro b ak bo e2 e3;have ho:=a9.own.lt b e3.symm;cases bo;omega);(have gj:EWd y.e/\∀z∈y.e.pk,z<256:=by rw[bw];exact⟨⟨⟨by simp only[];omega,by simp only[];omega⟩,⟨by simp only[];omega,by simp only[];omega⟩,by simp only[Fg];omega,by simp only[Fg];omega,by simp only[];rw[Aa a6];omega,h2,i1⟩,dh⟩);(have fu:y.e=⟨⟨o8 nml,o8 ys,((ag:Nat):Int),((af:Nat):Int),gn⟩,M,I,c6⟩:=by rw[bw]);have jz:vz (Xa bs=(Px bs H (N-(k+1)) ((bs.drop (p+(46+E+11))).take (m-(46+E+11)))).map ((es++ [y]).map Ev.e++ ·)):=Ab (by rw[Aa a7,Aa ap,dn,VS,VS,<-Aa g5,Xb bs p m _ om,show N-(k+1)=j by have:=Aa kz;omega,Option.map_map,fu.symm];congr 1;funext l;simp);have ju:=Ac (i:=0) a3;have h6:=Ac (i:=1) a3;have k4:=Ac (i:=2) a3;have i7:=Ac (i:=3) a3;have j6:=Ac (i:=4) a3;have iq:=Ac (i:=5) a3;have jl:=Ac (i:=6) a3;have kg:=Ac (i:=7) a3;simp only[WF,VW,WI]at ju h6 k4 i7 j6 iq jl kg;rw[ed]at h6;have d9:vx w.heap.size w Z:=aa.trans (dc.mono aa.size);have gz:HO Z w.heap.size u9 es:=a9.below dc;obtain⟨fx,h5,ib⟩:=Bq (λo1:Obj=>gz.below ((A2 Z.heap.size Z).alloc (VA _) o1)) (λo1:Obj=>gg.below ((A2 Z.heap.size Z).alloc (VA _) o1)) fw;have gu:vz (∀o1,o1=vl #[vb nm,va fa hq fc,so vh ag,so vh af,ve gn,so vh M,va (vp ⟨g,o+ah,vn⟩) bd CF,so vj c6] 37->∀j u,y.rcells[j]? =vp u->(Z.alloc o1).cell? ⟨Z.heap.size,j,vn⟩=vp u):=Ab (λo1 e j u aw=>by subst e;rw[Ac (B2 Z _)];rw[hs]at aw;simpa using aw);have jw:vz (es.length+1<=100000):=Ab (oh ci);have fj:=Ab d9;have ma:w.heap.size<=Z.heap.size:=d9.size;have ik:=Ab gj;have mg:=SG g (o+p) m (ac-p) (46+E+11) (46+(E:Int)+11) (m-(46+E+11)) om om om om rfl;clear h1 dn a3 dc hg fp fq gg fw gj gz d9 hs fy jh fu jc gi ij im jf k0 ji i3 ie ap ao aj a7 a8 a4 dh co du av bz bj ig fk dv dr c9 bc ba bv k1 b0 g8 f1 ed bw;go_wp2_with (at_builtin;refine Mm _ rfl _ _ rfl w.heap.size _ es rfl (fx _) Z.heap.size y rfl (gu _ rfl) (h5 _) ib jw oO ?_);intro v' j3 i5 hk;have j0:vz (vx w.heap.size w j3):=Ab ((fj.alloc fj.size _).grown (Aa hk) oO (λb e=>(a9.own.lt b e).1));clear fx h5 gu ib hk;go_wp2;go_roundw;refine⟨k+1,p+(46+E+11),m-(46+E+11),es++ [y],om,by go_num,by rw[WV,Nat.sub_sub],Ab om,Ab (by rw[VB,Aa ci];rfl),i5,j0,jz,Ab (λx O=> ?_)⟩;rcases WG.1 O with O|O;exact F x O;rw[WR.1 O];exact Aa ik;simp[vy];omega
 . obtain rfl:N=k:=om;obtain⟨ad,eo,f7,fh⟩:=a9.entries;rw[Aa ci]at f7;subst f7;have fo:vz (Xa bs=vp (es.map Ev.e)):=Ab (by rw[Aa ce,XT,Px];simp);have ht:=Ab (Z5j eo fh ci om (λx O=>(F x O).1));have hx:=Ab fh;have f6:vz (∀j,(Ba (es.map Ev.e)).getD j 0<256):=Ab (Cq (Se _ (λx O=>by obtain⟨z,j8,rfl⟩:=WU.1 O;exact(F z j8).2)));have g7:vz (∀j,bs.getD j 0<256):=Ab (Cq ba);have g0:vz (∀W,vx w.heap.size w W->BytesIn W (vp ⟨g,o,vn⟩) bs):=Ab (λW F=>.inr ⟨g,o,rfl,VC az F.size,λj aw=>(F.cell (p:=⟨g,_,vn⟩) az).trans (bc j aw)⟩);clear fh ao a8 a4 bv ce ba bc;go_wp2_with fail;refine ht.mono ?_;rintro e w3 ⟨lf,rfl,jq,ee⟩;obtain⟨jk,iu,rfl,d6,h9⟩:=jq;obtain⟨jp,dy⟩:=exq ((Ba (es.map Ev.e)).length);rw[dy];have e6:vx w.heap.size w w3:=aa.trans (ee.mono aa.size);have jy:=Ab (Vt jk (vp ⟨g,o,vn⟩) jp iu n ac (Ba (es.map Ev.e)) bs w3 dy ay f6 g7 h9.1 (g0 w3 e6));have U:vz (EnD w bs (vm (vd #[va ad N eo,ve (Ba (es.map Ev.e)==bs)])) w3):=Ab ⟨e6,.inr ⟨es,ad,eo,fo,by rw[Aa ci],hx.below ee⟩⟩;generalize (Ba (es.map Ev.e)==bs)=eqB at*;clear ee e6 d6 h9 dy ht f6 g7 g0 hx fo a9 F aa;go_wp2_with fail;refine jy.mono ?_;rintro e md ⟨rfl,rfl⟩;go_wp2;go_ret2;exact U
end
end Go.Proofs.YtleocpdblhbimaaGreatDoor
