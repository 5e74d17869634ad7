import Derived.Test.YtleocpdblhbimaaGreatDoorQ6
set_option linter.unusedSimpArgs false
set_option linter.unusedVariables false
set_option maxRecDepth 100000
namespace Go.Proofs.YtleocpdblhbimaaGreatDoor
theorem DG:∀ {l:List Fl} {p:Option Fl},DH p l=0->∀f∈l,Mq f=0
 | [],p,h,f,E=>by cases E
 |g::r,p,h,f,E=>by unfold DH at h;by_cases e:Mq g=0;(. rw[if_neg (by rw[e];decide)]at h;split at h;(. cases h);rcases WH.1 E with rfl|E;exact e;exact DG h f E);rw[if_pos e]at h;exact absurd h e
theorem Mr {l:List Fl}(E:errM l=0):l.length<=12/\∀f∈l,Mq f=0:=by unfold errM at E;split at E;(. cases E);exact⟨om,DG E⟩
theorem Yi {f:Fl}(E:Mq f=0):f.name.length<=40/\f.bytes.length<=3000/\0<=f.stamp/\f.stamp<=1000000/\0<=f.node/\f.node<=3:=by unfold Mq at E;split at E;(. rename_i F;exact absurd E F);. rename_i F;(have G:Kg f.name=0:=by by_cases e:Kg f.name=0;exact e;exact absurd e F);split at E;(. cases E);. split at E;(. cases E);have:=(Z57 G).1;omega
structure ENd (n:Nat)(x:En):Prop where
 mt:x.meth<65536
 cr:x.crc<4294967296
 pl:x.pk.length<=n
 st:0<=x.f.stamp/\x.f.stamp<4294967296
 nd:0<=x.f.node/\x.f.node<65536
 nm:x.f.name.length<=n/\x.f.name.length<65536
 un:∃ys,unpF x.meth x.pk=some ys/\x.f.bytes=o8 ys
theorem ENd.mono {n m:Nat}{x:En}(E:ENd n x)(F:n<=m):ENd m x:=⟨E.mt,E.cr,VU E.pl F,E.st,E.nd,⟨VU E.nm.1 F,E.nm.2⟩,E.un⟩
theorem E9 {l:List Nat}{k:Nat}(F:l.length=k)(E:∀x∈l,x<256):Ak l<256^k:=by rw[<-F];exact Jx l E
theorem Z1r {r q:List Nat}{x:En}(G:∀y∈r,y<256)(E:Fe r=some (x,q)):ENd r.length x:=by
 unfold Fe at E;obtain⟨a7,r1,rfl,l1,E⟩:=Ap E;dsimp only at E;obtain⟨Y,r2,rfl,l2,E⟩:=Ap E;dsimp only at E;obtain⟨az,a6,rfl,a4,E⟩:=Ap E;dsimp only at E;obtain⟨ai,ba,rfl,U,E⟩:=Ap E;dsimp only at E;obtain⟨aw,au,rfl,av,E⟩:=Ap E;dsimp only at E;obtain⟨bb,al,rfl,bh,E⟩:=Ap E;dsimp only at E;obtain⟨ah,bf,rfl,aa,E⟩:=Ap E;dsimp only at E;obtain⟨a8,aj,rfl,bd,E⟩:=Ap E;dsimp only at E;obtain⟨a9,ag,rfl,a5,E⟩:=Ap E;dsimp only at E;obtain⟨ay,ao,rfl,l10,E⟩:=Ap E;dsimp only at E;obtain⟨ak,a2,rfl,ac,E⟩:=Ap E;dsimp only at E;obtain⟨bc,ap,rfl,Z,E⟩:=Ap E;dsimp only at E;obtain⟨bg,a3,rfl,a1,E⟩:=Ap E;dsimp only at E;obtain⟨O,ar,rfl,ax,E⟩:=Ap E;dsimp only at E
 cases H:unpF (Ak Y) O with
 |none=>rw[H]at E;cases E
 |some b=>rw[H]at E;simp only[VF,YB,YD]at E;obtain⟨rfl,rfl⟩:=E;have M:=E9 l2 (fun z F=>G z (by simp[F]));have I:=E9 U (fun z F=>G z (by simp[F]));have af:=E9 aa (fun z F=>G z (by simp[F]));have ae:=E9 ac (fun z F=>G z (by simp[F]));have T:=E9 Z (fun z F=>G z (by simp[F]));simp only[Nat.reducePow]at M I af ae T;refine⟨M,I,by simp only[VE];omega,⟨by dsimp only;omega,by dsimp only;omega⟩,⟨by dsimp only;omega,by dsimp only;omega⟩,⟨by dsimp only;rw[Ey];simp only[VE];omega,by dsimp only;rw[Ey];omega⟩,b,H,rfl⟩
theorem Sg:∀ {F:Nat} {r:List Nat} {l:List En},(∀y∈r,y<256)->Cd F r=some l->l.length*41<=r.length/\∀x∈l,ENd r.length x
 |0,r,l,_,h=>by cases h
 |F+1,r,l,hv,h=>by
  unfold Cd at h;obtain⟨m,q,rfl,hl,h⟩:=Ap h;dsimp only at h;split at h
  . cases G:Fe q with
    |none=>rw[G]at h;cases h
    |some p=>rw[G]at h;simp only[VF,XF]at h;obtain⟨l2,I,rfl⟩:=h;have hm:=Si (x:=p.1) (q:=p.2) G;have H:∀y∈q,y<256:=fun y M=>hv y (by simp[M]);have ih:=Sg (hm.2.1 H).2 I;have O:=hm.1;refine⟨by rw[VJ,VE];omega,fun x E=> ?_⟩;rcases WH.1 E with rfl|E;exact(Z1r H G).mono (by rw[VE];omega);exact(ih.2 x E).mono (by rw[VE];omega)
  . cases h;exact⟨VH _,fun x E=>by cases E⟩
def Vl (u:US):Prop:=∀x∈u.out,x<256
theorem Vl.same {u v:US}(F:Vl u)(e:v.out=u.out):Vl v:=fun x E=>F x (by rw[<-e];exact E)
theorem Vl.at {u:US}(F:Vl u)(j:Nat):u.out.getD j 0<256:=by by_cases E:j<u.out.length;rw[List.getD,VP E];exact F _ (WK E);rw[List.getD,WJ om];exact(by decide:(0:Nat)<256)
theorem Eg (row:List Bool)(n:Nat)(u:US)(E:Vl u):Vl (uget row n u).2:=E.same (Cm row n u)
theorem Ee (l:List Int)(row:List Bool)(u:US)(E:Vl u):Vl (uplace l row u).2:=E.same (Gm l row u).1
theorem Zd (x:Int)(u:US)(E:Vl u):Vl (Am x u):=E.same (Ze x u).2.1
theorem KC (c:Nat)(u:US)(H:c<256)(F:Vl u):Vl (Fd c u):=by unfold Fd;split;(. split;exact F;intro x G;rcases WP.1 G with E|E;exact F x E;rw[WO.1 E];exact H);exact F
theorem Zg (row:List Bool):∀(k:Nat) (u:US),Vl u->Vl (ustore row k u)
 |0,u,h=>h
 |k+1,u,h=>by unfold ustore;split;exact Zg row k _ (KC _ _ (SD row 8 u) (Eg _ _ _ h));exact h
theorem BE (d:Nat):∀(k:Nat) (u:US),Vl u->Vl (ucopy d k u)
 |0,u,h=>h
 |k+1,u,h=>by unfold ucopy;split;exact BE d k _ (KC _ _ (h.at _) h);exact h
theorem GG (row:List Bool)(u:US)(G:Vl u):Vl (Cj row u):=by have F:Vl {u with p:=(u.p+7)/8*8}:=G;(have E:Vl (Cl row u).2:=by unfold Cl;dsimp only;split;exact Zd _ _ (Eg _ _ _ (Eg _ _ _ F));exact Eg _ _ _ (Eg _ _ _ F));unfold Cj;dsimp only;split;exact Zd _ _ E;exact Zg _ _ _ E
theorem OP (row:List Bool)(l:List Int)(u:US)(E:Vl u):Vl (Me row l u).2:=by unfold Me;split;exact Ee _ _ _ E;. split;exact Ee _ _ _ E;exact Eg _ _ _ (Ee _ _ _ E)
theorem Z1f (d k:Nat)(u:US)(E:Vl u):Vl (Jh d k u):=by unfold Jh;split;exact E;. split;exact E;exact BE _ _ _ E
theorem CJ (row:List Bool)(lb:List Int)(k:Nat)(u:US)(E:Vl u):Vl (Co row lb k u):=by unfold Co;split;(. rename_i H;split;exact E;intro x G;rcases WP.1 G with F|F;exact E x F;rw[WO.1 F];exact H);. split;exact E;. split;exact Eg _ _ _ E;. split;exact OP _ _ _ (Eg _ _ _ E);exact Z1f _ _ _ (OP _ _ _ (Eg _ _ _ E))
theorem Xx (row:List Bool)(E lb:List Int):∀(f:Nat) (u:US),Vl u->Vl (Hk row E lb f u)
 |0,u,h=>by unfold Hk;split;exact Ee _ _ _ h;exact Ee _ _ _ h
 |f+1,u,h=>by rw[Hj];split;exact Ee _ _ _ h;. split;exact Ee _ _ _ h;. split;exact CJ _ _ _ _ (Ee _ _ _ h);exact Xx row E lb f _ (CJ _ _ _ _ (Ee _ _ _ h))
theorem Yb (k:Nat)(u:US)(E:Vl u):Vl (Jg k u):=by unfold Jg;split;exact E;exact E
theorem Z1c (row:List Bool)(k:Nat)(u:US)(M:u.p<=row.length)(F:Vl u)(E:(Ds row k u).e=0):Vl (Ds row k u):=by unfold Ds at E ⊢;split;exact Yb _ _ (GG _ _ F);. rename_i c0;rw[if_neg c0]at E;split;exact Yb _ _ (Xx _ _ _ _ _ F);. rename_i c1;rw[if_neg c1]at E;split;(. rename_i c2;rw[if_pos c2]at E;split;(. rename_i G;rw[if_pos G]at E;exact absurd E G);. rename_i G;have e0:(Db row u).2.e=0:=om;obtain⟨A,C,v,H⟩:∃A C v,Db row u=((A,C),v):=⟨_,_,_,rfl⟩;rw[H]at e0 ⊢;obtain⟨m0,n0,c0,u1,u2,u3,us,S,L,O⟩:=Hd H e0;obtain⟨T,Y,I,U⟩:=Pu O M;exact Yb _ _ (Xx _ _ _ _ _ (F.same I)));exact F
theorem I8 (row:List Bool)(u:US)(G:u.p<=row.length)(F:Vl u)(E:(Bj row u).2.e=0):Vl (Bj row u).2:=by unfold Bj at E ⊢;split;exact Eg _ _ _ F;. rename_i c;rw[if_neg c]at E;split;exact Eg _ _ _ (Eg _ _ _ F);. rename_i c2;rw[if_neg c2]at E;exact Z1c _ _ _ (Gr _ _ _ (Gr _ _ _ G)) (Eg _ _ _ (Eg _ _ _ F)) E
theorem Vn (row:List Bool)(N:Nat)(E:row.length=8*N):∀(F:Nat) (u:US),u.e=0->u.p<=row.length->u.out.length<=3000->Vl u->(Bw row F u).e=0->Vl (Bw row F u)
 |0,u,he,hp,ho,h,hz=>h
 |F+1,u,he,hp,ho,h,hz=>by rw[Bw]at hz ⊢;by_cases c:(Bj row u).1=0/\(Bj row u).2.e=0;rw[if_pos c]at hz ⊢;obtain⟨I,M,H,G⟩:=Hl row N E u he hp ho c.2;exact Vn row N E F _ c.2 H G (I8 row u hp h c.2) hz;rw[if_neg c]at hz ⊢;exact I8 row u hp h hz
theorem H9 (row:List Bool)(N:Nat)(G:row.length=8*N)(F:(Dk row).e=0)(j:Nat):(Dk row).out.getD j 0<256:=
 (Vn row N G (row.length+1) US0 rfl (VH _) (VH _) (by intro x E;cases E) F).at j
theorem Zp {d:Nat}:∀ {n:Nat} {u:US},(ucopy d n u).e=0->u.out.length<=3000->u.out.length+n<=3000
 |0,u,h,ho=>om
 |n+1,u,h,ho=>by have F:=Pz h;rw[ucopy,if_pos F]at h;obtain⟨_,G,E⟩:=Ud (Pz h);rw[E]at h;have ih:=Zp h (by simp only[VE,VJ,WE];omega);simp only[VE,VJ,WE]at ih;omega
theorem Kb (row:List Bool)(a b:List Int):∀(F E:Nat) (u:US),(utok row a b F u).e=0->row.length+1<=u.p+F->row.length+1<=u.p+E->u.p<=row.length->u.out.length<=3000->Hk row a b E u=utok row a b F u
 |0,E,u,h,h1,h2,hp,ho=>om
 |F+1,0,u,h,h1,h2,hp,ho=>om
 |F+1,E+1,u,h,h1,h2,hp,ho=>by
  obtain⟨t,x,I,e⟩:=Ub h;obtain⟨ac,H,ah,ae,M⟩:=I.ahead;rw[e]at h ⊢;rw[Hj]
  cases I with
  |stop v g1 g2=>simp[g1,g2]
  |byte c x g1 g2 g3 g4=>(have af:x.out.length<=3000:=by have:=Cn g1 g2;rw[this.2.2.1];exact ho);(have G:Co row b c x= {x with out:=x.out++ [c]}:=by unfold Co;rw[if_pos g3,if_neg om]);rw[g1];simp only;rw[if_neg (fun h=>h g2),if_neg om,G,if_neg (fun h=>h g2),if_pos trivial];rw[if_pos rfl]at h;exact Kb row a b F E _ h om om H (M ho)
  |same k n0 f d0 x1 x2 x3 x4 _ g1 g2 g3 g4 g5 g6 g7 g8 g9 g10 g11 g12 g13 g14=>have Z:=Cn g1 g2;have O:=Bn g5 g6;have U:=Cn g7 g8;have Y:=Bn g10 g11;(have aa:x4.out.length<=3000:=by rw[Y.2.2.1,U.2.2.1,O.2.2.1,Z.2.2.1];exact ho);have ag:=Zp (by rw[g13];exact g14:(ucopy ((farsL.getD f (0,0)).1+d0) ((samesL.getD (k-257) (0,0)).1+n0) x4).e=0) aa;(have G:Co row b k x1=x:=by unfold Co;rw[if_neg om,if_neg om,F7 k g3 g4,g5];simp only;(have T:Me row b x2=((farsL.getD f (0,0)).1+d0,x4):=by unfold Me;rw[g7];simp only;rw[if_neg (fun h=>h g8),if_neg om,F9 f g9,g10]);rw[if_neg (fun h=>h g6),T];simp only;rw[if_neg (fun h=>h g11)];unfold Jh;rw[if_neg om,if_neg om,g13]);rw[g1];simp only;rw[if_neg (fun h=>h g2),if_neg om,G,if_neg (fun h=>h g14),if_pos trivial];rw[if_pos rfl]at h;exact Kb row a b F E _ h om om H (M ho)
theorem Wu (row:List Bool)(u:US):(uget row 1 u).1<2:=by have:=SD row 1 u;simpa using this
theorem OR {row:List Bool}{u x:US}{t:Bool}(E:Blk1R row u t x)(aj:u.p<=row.length)(O:u.out.length<=3000):∃l,l<2/\t=decide (l=1)/\Bj row u=(l,x):=by
 cases E with
 |stored l x1 x2 h1 h2 h3 F=>obtain⟨Y,H,I,Z,G⟩:=Bn h2 h3;obtain⟨aa,ac,M,ae,_⟩:=Bn h1 G;have hl:=Wu row u;rw[h1]at hl;refine⟨l,hl,rfl, ?_⟩;unfold Bj;rw[h1];simp only;rw[if_neg (fun E=>E G),h2];simp only;rw[if_neg (fun E=>E h3)];unfold Ds Jg;rw[if_pos rfl,GH row x2 (by rw[I,M];exact O) F,if_pos F]
 |coded l k x1 x2 x3 a b h1 h2 h3 F h5 h6 h7=>obtain⟨Y,H,I,Z,G⟩:=Bn h2 h3;obtain⟨aa,ac,M,ae,_⟩:=Bn h1 G;have hl:=Wu row u;rw[h1]at hl;(have T:x2.out.length<=3000:=by rw[I,M];exact O);refine⟨l,hl,rfl, ?_⟩;unfold Bj;rw[h1];simp only;rw[if_neg (fun E=>E G),h2];simp only;rw[if_neg (fun E=>E h3)];rcases F with F|F;subst F;unfold uopen at h5;rw[if_pos rfl]at h5;have ag:=(VN h5).2;have e2:=VN (VN h5).1;subst ag;rw[<-e2.1,<-e2.2]at h7 ⊢;unfold Ds Jg;rw[if_neg od,if_pos rfl,Kb row Ky Ir row.length (row.length+1) x2 h7 om om H T,if_pos h7];subst F;unfold uopen at h5;rw[if_neg od,if_pos rfl]at h5;obtain⟨m0,n0,c0,ap,au,ai,us,ar,ak,af⟩:=Hd h5 h6;obtain⟨ao,ah,U,al⟩:=Pu af H;unfold Ds Jg;rw[if_neg od,if_neg od,if_pos rfl,h5];simp only;rw[if_neg (fun E=>E h6),Kb row a b row.length (row.length+1) x3 h7 om om ah (by rw[U];exact T),if_pos h7]
theorem Vp (row:List Bool):∀(F:Nat) (u:US),(Dc row F u).e=0->u.p<=row.length->u.out.length<=3000->Bw row F u=Dc row F u
 |0,u,h,hp,ho=>rfl
 |F+1,u,h,hp,ho=>by obtain⟨t,x,I,e⟩:=Ww h;obtain⟨Y,M,U,Z,O⟩:=I.ahead;obtain⟨l,hl,H,hi⟩:=OR I hp ho;rw[e]at h ⊢;rw[Bw,hi];simp only;by_cases E:l=0;(have G:t=false:=by rw[H,E];rfl);rw[if_pos ⟨E,U⟩,if_pos G];rw[if_pos G]at h;exact Vp row F x h M (O ho);(have T:¬t=false:=by rw[H,show l=1 by omega];decide);rw[if_neg (fun h=>E h.1),if_neg T]
theorem GD (row:List Bool)(E:(Oh row).e=0):Dk row=Oh row:=Vp row _ _ E (VH _) (by simp[US0])
theorem EH (row:List Bool)(u:US)(E:(Cj row u).e=0):ustored row u=Cj row u:=by unfold Cj at E ⊢;dsimp only at E ⊢;by_cases c:(Cl row u).2.e=0/\3000<(Cl row u).2.out.length+(Cl row u).1;rw[if_pos c]at E;exact absurd E (Bm od);rw[if_neg c];rfl
theorem Z50 {row:List Bool}{lb:List Int}{u:US}(E:(Me row lb u).2.e=0):∃f v d x,uplace lb row u=(f,v)/\v.e=0/\f<=29/\uget row (farsL.getD f (0,0)).2 v=(d,x)/\x.e=0/\Me row lb u=((farsL.getD f (0,0)).1+d,x):=by unfold Me at E ⊢;obtain⟨f,v,e⟩:∃f v,uplace lb row u=(f,v):=⟨_,_,rfl⟩;rw[e]at E ⊢;dsimp only at E ⊢;by_cases c:v.e≠0;rw[if_pos c]at E;exact absurd E c;rw[if_neg c]at E ⊢;by_cases c2:29<f;rw[if_pos c2]at E;exact absurd (show (8:Int)=0 from E) od;rw[if_neg c2]at E ⊢;rw[F9 f om]at E ⊢;exact⟨f,v,_,_,rfl,om,om,rfl,E,rfl⟩
theorem SU (row:List Bool)(a b:List Int)(u x:US)(k:Nat)(Z:uplace a row u=(k,x))(O:x.e=0)(ac:k≠256)(af:x.out.length<=3000)(E:(Co row b k x).e=0):Lb row a b u=(true,Co row b k x):=by unfold Lb;rw[Z];dsimp only;rw[if_neg (by rintro (F|F);exact F O;exact ac F)];unfold Co at E ⊢;by_cases c1:k<256;rw[if_pos c1]at E ⊢;rw[if_pos c1];by_cases c2:3000<x.out.length+1;rw[if_pos c2]at E;exact absurd (show (2:Int)=0 from E) od;rw[if_neg c2];unfold Fd;rw[if_pos O,if_neg om];rw[if_neg c1]at E ⊢;rw[if_neg c1];by_cases c2:285<k;rw[if_pos c2]at E;exact absurd (show (8:Int)=0 from E) od;rw[if_neg c2]at E ⊢;rw[if_neg c2];rw[F7 k om om]at E ⊢;unfold EJ;obtain⟨g,y,aa⟩:∃g y,uget row (samesL.getD (k-257) (0,0)).2 x=(g,y):=⟨_,_,rfl⟩;rw[aa]at E ⊢;dsimp only at E ⊢;by_cases H:y.e≠0;rw[if_pos H]at E;exact absurd E H;rw[if_neg H]at E ⊢;by_cases G:(Me row b y).2.e≠0;rw[if_pos G]at E;exact absurd E G;rw[if_neg G]at E ⊢;obtain⟨f,v,d,z,F,T,ae,U,ag,Y⟩:=Z50 (row:=row) (lb:=b) (u:=y) om;rw[Y]at E ⊢;rw[F];dsimp only at E ⊢;rw[if_neg (show ¬(v.e=0/\29<f) by omega),if_neg (fun e=>e T)];unfold Jh at E ⊢;by_cases M:z.out.length<(farsL.getD f (0,0)).1+d;rw[if_pos M]at E;exact absurd (show (9:Int)=0 from E) od;rw[if_neg M]at E ⊢;by_cases I:3000<z.out.length+((samesL.getD (k-257) (0,0)).1+g);rw[if_pos I]at E;exact absurd (show (2:Int)=0 from E) od;rw[if_neg I];unfold Z28;rw[U];dsimp only;rw[if_neg (show ¬(z.e=0/\z.out.length<(farsL.getD f (0,0)).1+d) by omega)]
theorem Na (row:List Bool)(a b:List Int):∀(F E:Nat) (u:US),(Hk row a b E u).e=0->row.length+1<=u.p+F->row.length+1<=u.p+E->u.p<=row.length->u.out.length<=3000->utok row a b F u=Hk row a b E u
 |0,E,u,h,h1,h2,hp,ho=>om
 |F+1,0,u,h,h1,h2,hp,ho=>om
 |F+1,E+1,u,h,h1,h2,hp,ho=>by rw[Hj]at h ⊢;obtain⟨k,x,G⟩:∃k x,uplace a row u=(k,x):=⟨_,_,rfl⟩;rw[G]at h ⊢;dsimp only at h ⊢;by_cases c1:x.e≠0;rw[if_pos c1]at h;exact absurd h c1;have T:x.e=0:=om;obtain⟨ae,U,Z,ac,Y,aa⟩:=Cn G T;rw[if_neg c1]at h ⊢;rw[utok,if_pos Y];by_cases c2:k=256;(have H:Lb row a b u=(false,x):=by unfold Lb;rw[G];dsimp only;rw[if_pos (Or.inr c2)]);rw[if_pos c2,H];simp;rw[if_neg c2]at h ⊢;by_cases I:(Co row b k x).e≠0;rw[if_pos I]at h;exact absurd h I;rw[if_neg I]at h ⊢;have H:(Co row b k x).e=0:=om;(have O:x.out.length<=3000:=by rw[Z];exact ho);have M:=I3 row b k x U O H;have af:=M.ge;rw[SU row a b u x k G T c2 O H,if_pos rfl];dsimp only;exact Na row a b F E _ h om om M.le M.out
theorem Zq (row:List Bool)(q:Nat)(ao:row.length=8*q)(u:US)(ah:u.p<=row.length)(ae:u.out.length<=3000)(E:(Bj row u).2.e=0):Eh row u=(decide ((Bj row u).1=1),(Bj row u).2):=by(have key:∀(j:Nat) (x:US),(Jg j x).e=0->x.e=0/\Jg j x=ukept j x:=fun j x M=>by unfold Jg at M ⊢;by_cases c:x.e=0;exact⟨c,by rw[if_pos c]⟩;rw[if_neg c]at M;exact absurd M c);unfold Bj at E ⊢;unfold Eh;obtain⟨l,x1,Z⟩:∃l x1,uget row 1 u=(l,x1):=⟨_,_,rfl⟩;obtain⟨k,x2,U⟩:∃k x2,uget row 2 x1=(k,x2):=⟨_,_,rfl⟩;rw[Z]at E ⊢;dsimp only at E ⊢;rw[U]at E ⊢;dsimp only at E ⊢;by_cases c1:x1.e≠0;rw[if_pos c1]at E;exact absurd E c1;rw[if_neg c1]at E ⊢;by_cases c2:x2.e≠0;rw[if_pos c2]at E;exact absurd E c2;have e2:x2.e=0:=om;obtain⟨ak,ag,af,ap,_⟩:=Bn Z om;obtain⟨al,Y,ac,aj,_⟩:=Bn U e2;(have aa:x2.out.length<=3000:=by rw[ac,af];exact ae);rw[if_neg c2]at E ⊢;rw[if_neg c2];unfold Ds at E ⊢;by_cases H:k=0;rw[if_pos H]at E ⊢;rw[if_pos H];obtain⟨F,G⟩:=key _ _ E;rw[G,EH row x2 F];rw[if_neg H]at E ⊢;rw[if_neg H];by_cases k1:k=1;rw[if_pos k1]at E ⊢;obtain⟨F,G⟩:=key _ _ E;subst k1;(have T:uopen row 1 x2=((Ky,Ir),x2):=by unfold uopen;rw[if_pos rfl]);rw[T];dsimp only;rw[if_neg c2,G,Na row Ky Ir row.length (row.length+1) x2 F om om Y aa];rw[if_neg k1]at E ⊢;by_cases k2:k=2;rw[if_pos k2]at E ⊢;subst k2;(have T:uopen row 2 x2=Db row x2:=by unfold uopen;rw[if_neg od,if_pos rfl]);rw[T];by_cases I:(Db row x2).2.e≠0;rw[if_pos I]at E;exact absurd E I;rw[if_neg I]at E ⊢;rw[if_neg I];obtain⟨F,G⟩:=key _ _ E;have O:=Pv row x2 Y aa om;have ai:=O.ge;rw[G,Na row _ _ row.length (row.length+1) _ F om om O.le O.out];rw[if_neg k2]at E;exact absurd (show (4:Int)=0 from E) od
theorem Uh (row:List Bool)(q:Nat)(E:row.length=8*q):∀(F:Nat) (u:US),u.e=0->(Bw row F u).e=0->u.p<=row.length->u.out.length<=3000->Dc row F u=Bw row F u
 |0,u,he,h,hp,ho=>rfl
 |F+1,u,he,h,hp,ho=>by rw[Bw]at h ⊢;rw[Dc];(have hl:(Bj row u).1<2:=by unfold Bj;split;show 1<2;decide;. split;show 1<2;decide;exact Wu row u);by_cases c:(Bj row u).1=0/\(Bj row u).2.e=0;rw[if_pos c]at h ⊢;obtain⟨M,O,I,H⟩:=Hl row q E u he hp ho c.2;rw[Zq row q E u hp ho c.2,if_pos ⟨by rw[c.1];rfl,c.2⟩];exact Uh row q E F _ c.2 h I H;rw[if_neg c]at h ⊢;(have G:(Bj row u).1=1:=by have:¬(Bj row u).1=0:=fun e=>c ⟨e,h⟩;omega);rw[Zq row q E u hp ho h,if_neg (by rw[G];simp)]
theorem EK (row:List Bool)(q:Nat)(E:row.length=8*q)(F:(Dk row).e=0):Oh row=Dk row:=Uh row q E _ _ rfl F (VH _) oS
theorem Le (m:Nat)(pk:List Nat):unpD m pk=unpF m pk:=by unfold unpD unpF;by_cases m0:m=0;rw[if_pos m0,if_pos m0];rw[if_neg m0,if_neg m0];by_cases E:m=8;rw[if_pos E,if_pos E];by_cases h:(Oh (rowB pk pk.length)).e=0;rw[GD _ h];by_cases c:((Oh (rowB pk pk.length)).p+7)/8=pk.length/\pk.length<=6000;rw[if_pos ⟨h,c⟩,if_pos ⟨c.2,h,c.1⟩];rw[if_neg (fun k=>c k.2),if_neg (fun k=>c ⟨k.2.2,k.1⟩)];have hi:¬(Dk (rowB pk pk.length)).e=0:=fun e=>h (by rw[EK _ pk.length (Af _ _) e];exact e);rw[if_neg (fun k=>h k.1),if_neg (fun k=>hi k.2.1)];rw[if_neg E,if_neg E]
theorem Wt {m:Nat}{pk ys:List Nat}(F:∀y∈pk,y<256)(E:unpF m pk=some ys):∀y∈ys,y<256:=by unfold unpF at E;split at E;(. cases E;exact F);. split at E;(. split at E;(. rename_i c;cases E;exact Yf (H9 _ pk.length (Af _ _) c.2.1));. cases E);. cases E
structure EDn (n:Nat)(x:En):Prop where
 ok:EOk x
 val:∀y∈x.pk,y<256
 pl:x.pk.length<=n
 nm:x.f.name.length<=n
theorem Z1u {b r q:List Nat}{ac:Nat}{x:En}(ae:∀y∈b,y<256)(F:∀y∈r,y<256)(af:r.length<=b.length)(E:JR b ac r=some (x,q)):EDn b.length x/\(∀y∈q,y<256)/\q.length<=b.length:=by
 unfold JR at E;split at E;. cases E
 . split at E;. cases E
   . rename_i c1 c2
     cases G:unpD (Dh r 10 12) ((b.drop (Dh r 42 46+30+Dh r 28 30+11)).take (Dh r 20 24))with
     |none=>rw[G]at E;cases E
     |some ys=>rw[G]at E;simp only[VF,YB,YD]at E;obtain⟨rfl,rfl⟩:=E;have Y:∀y∈(r.drop (46+Dh r 28 30)).take 11,y<256:=fun y H=>F y (VW (VR H));have M:=Dm F (i:=10) (j:=12) rfl;have I:=Dm F (i:=16) (j:=20) rfl;have T:=Dm F (i:=28) (j:=30) rfl;have O:=Dm F (i:=20) (j:=24) rfl;have aa:=Dm Y (i:=4) (j:=8) rfl;have Z:=Dm Y (i:=8) (j:=10) rfl;replace M:Dh r 10 12<65536:=M;replace I:Dh r 16 20<4294967296:=I;replace T:Dh r 28 30<65536:=T;replace O:Dh r 20 24<4294967296:=O;replace aa:Dh ((r.drop (46+Dh r 28 30)).take 11) 4 8<4294967296:=aa;replace Z:Dh ((r.drop (46+Dh r 28 30)).take 11) 8 10<65536:=Z;have U:∀y∈(b.drop (Dh r 42 46+30+Dh r 28 30+11)).take (Dh r 20 24),y<256:=fun y H=>ae y (VW (VR H));rw[Le]at G;refine⟨⟨⟨⟨by dsimp only;omega,by dsimp only;omega⟩,⟨by dsimp only;omega,by dsimp only;omega⟩, ?_, ?_,I,M, ?_⟩,U, ?_, ?_⟩,fun y H=>F y (VW H),by rw[VQ];omega⟩;dsimp only;rw[Ey,VL];omega;dsimp only;rw[VL];omega;dsimp only;rw[G,Z0w (Wt U G)];dsimp only;rw[VL,VQ];omega;dsimp only;rw[Ey,VL,VQ];omega
theorem N4 {b:List Nat}{G:Nat}(H:∀y∈b,y<256):∀(k:Nat) (r:List Nat) (l:List En),(∀y∈r,y<256)->r.length<=b.length->Np b G k r=some l->l.length=k/\∀x∈l,EDn b.length x
 |0,r,l,_,_,h=>by cases h;exact⟨rfl,fun x E=>by cases E⟩
 |k+1,r,l,hr,hl,h=>by
  unfold Np at h
  cases F:JR b G r with
  |none=>rw[F]at h;cases h
  |some p=>rw[F]at h;simp only[VF,XF]at h;obtain⟨l2,I,rfl⟩:=h;obtain⟨n1,n2,M⟩:=Z1u (x:=p.1) (q:=p.2) H hr hl F;obtain⟨m1,m2⟩:=N4 H k p.2 l2 n2 M I;refine⟨by rw[VJ,m1],fun x E=> ?_⟩;rcases WH.1 E with rfl|E;exact n1;exact m2 x E
theorem DJ {b:List Nat}{l:List En}(F:∀y∈b,y<256)(E:Tt b=some l):l.length<=12/\∀x∈l,EDn b.length x:=by unfold Tt at E;split at E;(. cases E);. split at E;(. cases E);. rename_i c1 c2;obtain⟨I,G⟩:=N4 F _ _ l (fun y H=>F y (VW (VR H))) (by rw[VL,VQ];omega) E;exact⟨om,G⟩
theorem EOk.doc {x:En}(E:EOk x):EOkD x:=⟨E.st,E.nd,E.nm,E.pl,E.cr,E.mt,by rw[Le];exact E.un⟩
theorem ENd.ok {n:Nat}{x:En}(E:ENd n x)(I:n<=12000)(H:∀y∈x.pk,y<256):EOk x:=by obtain⟨ys,F,G⟩:=E.un;have:=E.pl;exact⟨E.st,E.nd,E.nm.2,om,E.cr,E.mt,by rw[G,Z0w (Wt H F)];exact F⟩
def Kf (b:List Nat):Nat:=
 match Tt b with
  |none=>7
  |some l=>if errM (l.map En.f)≠0\/Be l≠b then 7 else if sumsF l=false then 10 else 0
def Vb (b:List Nat):List Fl:=if Kf b≠0 then []else ((Tt b).getD []).map En.f
theorem Z07 (b:List Nat)(U:b.length<=12000)(M:∀y∈b,y<256):Kf b=readE b/\Vb b=readL b:=by
 (have key:∀l,Cd (b.length+1) b=some l->Tt b=some l->Kf b=readE b/\Vb b=readL b:=by intro l F E;(have e:Kf b=readE b:=by unfold Kf readE;rw[if_neg om,F,E]);exact⟨e,by unfold Vb readL;rw[e,F,E]⟩);(have Y:Kf b=7->readE b=7->Kf b=readE b/\Vb b=readL b:=by intro F E;refine⟨F.trans E.symm, ?_⟩;unfold Vb readL;rw[F,E];rfl);by_cases A:∃l,Cd (b.length+1) b=some l/\Be l=b/\errM (l.map En.f)=0;. obtain⟨l,F,E,H⟩:=A;have O:=(Sg M F).2;have T:=Sf F M;refine key l F ?_;have:=PY l (fun x G=>((O x G).ok U (T x G)).doc) (by have:=(Mr H).1;simpa using this) (by rw[E];omega);rwa [E]at this
 . by_cases D:∃l,Tt b=some l/\Be l=b/\errM (l.map En.f)=0;obtain⟨l,F,E,H⟩:=D;have O:=(DJ M F).2;have:=Se l (fun x G=>(O x G).ok) [] (Yy l);rw[XA,E]at this;exact absurd ⟨l,this,E,H⟩ A
   . refine Y ?_ ?_
     . unfold Kf
       cases I:Tt b with
       |none=>rfl
       |some l=>dsimp only;rw[if_pos];by_cases c:errM (l.map En.f)=0;exact .inr (fun e=>D ⟨l,I,e,c⟩);exact .inl c
     . unfold readE;rw[if_neg om]
       cases I:Cd (b.length+1) b with
       |none=>rfl
       |some l=>dsimp only;rw[if_pos];by_cases c:errM (l.map En.f)=0;exact .inr (fun e=>A ⟨l,I,e,c⟩);exact .inl c
end Go.Proofs.YtleocpdblhbimaaGreatDoor
