import Derived.Test.YtleocpdblhbimaaGreatDoorQ6
import Derived.Deep.OwnRows
set_option linter.unusedVariables false
set_option linter.unusedSimpArgs false
set_option maxHeartbeats 8000000
namespace Go.Proofs.YtleocpdblhbimaaGreatDoor
open Go.RowKit Go.Proofs.Tryz
open Go.Value renaming int->so,slice->va,pointer->vc,tuple->vd,bool->ve,agg->vf
open Go.IntKind renaming i64->vh
open Go.Obj renaming cells->vl
open Go.Ending renaming returned->vm
open Option renaming none->vn,some->vp
open Bool renaming false->vq,true->vr
open Go renaming World->wd,Value->vt,Calls->vu,Addr->vw
open Go.RowKit renaming Below->vx,intOf->vy,Hid->vz
open Go.Proofs.Tryz renaming prog->v8
variable{Z l xs:List Int}{P:List Nat}{G H N aa ac ae ai ak ar b bl cj co cu g g1 g2 i j k m n o p q st t:Nat}{a ah:Option Addr}{r:Option Nat}{W W' w w':World}
def PC(N bp:Nat)(l:List Int)(d:Nat->Int×Int)(W:wd):Prop:=
 ∀k,k<N->(W.cell? ⟨bp,k,vn⟩=vp (so vh (d k).2)/\W.frozen? ⟨bp,k,vn⟩=vq)/\∃p:Nat,(d k).2=p/\p<l.length/\(d k).1=l.getD p 0
structure Cx(bp bx bl ol ln lc:Nat)(l:List Int)(W:wd):Prop where
 box:W.cell? ⟨bx,0,vn⟩=vp (va (vp ⟨bl,ol,vn⟩) ln lc)
 row:Row vh W bl ol l
 len:l.length=ln
 sm:ln<=288
 xlt:bx<W.heap.size
 llt:bl<W.heap.size
 plt:bp<W.heap.size
 xne:bx≠bp
 lne:bl≠bp
theorem Cx.grown(h:Cx ac G aa ai ak ar l W)(g:W.grownBy W' (vp ac)):Cx ac G aa ai ak ar l W':=
 ⟨g.cell h.box (by simpa using h.xne),λj E=>g.cell (h.row j E) (by simpa using h.lne),h.len,h.sm,VC h.xlt g.size,VC h.llt g.size,VC h.plt g.size,h.xne,h.lne⟩
theorem Cx.drewN(h:Cx ac G aa ai ak ar l W)(n:Nat):Cx ac G aa ai ak ar l (W.drewN n):=⟨h.box,h.row,h.len,h.sm,h.xlt,h.llt,h.plt,h.xne,h.lne⟩
def Zav(x y:Int):Int:=if x<y then-1 else if y<x then 1 else 0
theorem I9(x y:Int):decide (Zav x y<0)=decide (x<y):=by unfold Zav;by_cases h:x<y;rw[A1 h];simp[h];rw[A0 h];by_cases E:y<x;rw[A1 E];simp[h];rw[A0 E];simp[h]
theorem FK(x y:Int)(w:wd):vu v8 130 #[so vh x,so vh y] w λe w'=>e=vm (so vh (Zav x y))/\∃q,w'=w.drewN q:=by(have hn:∀(x:Int) w,vu v8 168 #[so vh x] w λe w'=>e=vm (ve vq)/\w'=w:=by intro x w;have H:(x !=x)=false:=oS;exact yK);unfold Zav;go_enter func130,ntmps130;go_wp2_with fail;refine(hn x w).mono ?_;rintro e E ⟨rfl,rfl⟩;go_wp2_with fail;refine(hn y E).mono ?_;rintro e G ⟨rfl,rfl⟩;by_cases h:x<y;(. go_wp2;go_ret;exact⟨rfl,0,rfl⟩);. by_cases F:y<x;(. go_wp2;go_ret;exact⟨rfl,0,rfl⟩);. go_wp2;go_ret;exact⟨rfl,0,rfl⟩
abbrev CF(bx:Nat):Value:=.func (.func 276) #[] #[vc (vp ⟨bx,0,vn⟩)]
theorem FN(W:wd)(F:p<l.length)(H:q<l.length)(E:Cx aa G ai ak ac ar l W):vu v8 276 #[so vh p,so vh q,vc (vp ⟨G,0,vn⟩)] W λe w'=>e=vm (so vh (Zav (l.getD p 0) (l.getD q 0)))/\∃q,w'=W.drewN q:=by have hb:=E.box;have c1:=E.row p F;have c2:=E.row q H;have hl:=E.len;have U:=E.sm;generalize l.getD p 0=x at*;generalize l.getD q 0=y at*;have I:(p:Int)<ac:=om;have O:(q:Int)<ac:=om;clear E;go_enter func276,ntmps276;go_wp2;go_quiet ((go_at_call 130;refine kbz (FK _ _ _)));go_wp2;go_ret;exact⟨rfl,_,rfl⟩
theorem KC{d:Nat->Int×Int}(E:PC N ac l d W)(ae:Cx ac G aa ai ak ar l W)(i j:Nat)(af:i<N)(I:j<N)(n:Nat):vu v8 276 #[so vh (d i).2,so vh (d j).2,vc (vp ⟨G,0,vn⟩)] (W.drewN n) λe w'=>e=vm (so vh (Zav (d i).1 (d j).1))/\∃q,w'=(W.drewN n).drewN q:=by obtain⟨_,p,H,O,Z⟩:=E i af;obtain⟨_,q,F,ag,U⟩:=E j I;rw[H,F,Z,U];exact FN (W.drewN n) O ag (ae.drewN n)
def UZ(W:wd)(bp:Nat)(x y:Int)(i j:Nat):World:=(W.setCell ⟨bp,i,vn⟩ (so vh y)).setCell ⟨bp,j,vn⟩ (so vh x)
theorem Nu(W:wd)(E:Nat)(x y:Int)(i j:Nat):W.grownBy (UZ W E x y i j) (vp E):=Aj (Ad W E i _) (Ad _ E j _)
theorem PC.sw{d:Nat->Int×Int}(F:PC N ac l d W)(i j:Nat)(ae:i<N)(I:j<N):PC N ac l (Aq.swp d i j) (UZ W ac (d i).2 (d j).2 i j):=by intro k H;obtain⟨⟨c0,f0⟩,aa⟩:=F k H;obtain⟨⟨G,_⟩,U⟩:=F i ae;obtain⟨⟨Z,_⟩,O⟩:=F j I;unfold UZ;(have e2:(W.setCell ⟨ac,i,vn⟩ (so vh (d j).2)).cell? ⟨ac,j,vn⟩≠none:=by by_cases e:i=j;subst e;rw[World.cell?_setCell_same' _ _ _ (by rw[G];rfl)];simp;rw[K4 _ _ _ _ uC,Z];simp);refine⟨⟨?_,by simp[f0]⟩,?_⟩;unfold Aq.swp;by_cases e:k=j;subst e;rw[World.cell?_setCell_same' _ _ _ (by rw[Option.isSome_iff_ne_none];exact e2)];by_cases E:k=i;subst E;rw[A1 rfl];rw[A0 E,A1 rfl];rw[K4 _ _ _ _ uC];by_cases E:k=i;subst E;rw[A1 rfl,World.cell?_setCell_same' _ _ _ (by rw[G];rfl)];rw[A0 E,A0 e,K4 _ _ _ _ uC];exact c0;unfold Aq.swp;by_cases E:k=i;rw[A1 E];exact O;rw[A0 E];by_cases e:k=j;rw[A1 e];exact U;rw[A0 e];exact aa
theorem PC.c2{d:Nat->Int×Int}(E:PC N ac l d W)(i j:Nat)(G:i<N)(F:j<N)(v:vt):∃u,(W.setCell ⟨ac,i,vn⟩ v).cell? ⟨ac,j,vn⟩=vp u:=by by_cases e:i=j;subst e;exact⟨v,P1 _ _ _ (E i G).1.1⟩;exact⟨_,(K4 _ _ _ _ uC).trans (E j F).1.1⟩
theorem PC.drewN{d:Nat->Int×Int}(E:PC N ac l d W)(n:Nat):PC N ac l d (W.drewN n):=E
theorem Gr{a b:wd}(h:a.grownBy b r)(n:Nat):a.grownBy (b.drewN n) r:=⟨h.os,h.tape,h.output,h.size,h.block⟩
set_option maxRecDepth 100000 in
theorem Ph(ak:vt)(ah:Nat)(d:Nat->Int×Int)(a b n:Nat)(ax:N<=288)(av:a+n<=N)(ap:b+n<=N)(ag:PC N ac l d w):vu v8 287 #[va (vp ⟨ac,0,vn⟩) N ah,so vh a,so vh b,so vh n,ak] w λe w'=>e=vm (vd #[])/\PC N ac l (Aq.X1 d a b n) w'/\w.grownBy w' (vp ac):=by have al:=Ab ag;clear ag;go_enter func287,ntmps287;go_wp2;go_loopw [10] (λI wr=>∃i:Nat,i<=n/\I=so vh i/\PC N ac l (Aq.X1 d a b i) wr/\w.grownBy wr (vp ac)) (λI _=>n-(vy I).toNat);exact⟨0,VF _,rfl,al,Av _ _⟩;obtain⟨i,hi,rfl,U,Z⟩:=hrel;have ij:=Ab U;have g5:=Ab Z;have ae:=pE;clear U Z;by_cases ao:i<n;(. generalize Aq.X1 d a b i=E at*;obtain⟨s,af⟩:∃s,s=a+i:=⟨_,rfl⟩;obtain⟨t,O⟩:∃t,t=b+i:=⟨_,rfl⟩;have F:s<N:=om;have G:t<N:=om;have c1:=((Aa ij) s F).1.1;have f1:=((Aa ij) s F).1.2;have c2:=((Aa ij) t G).1.1;have f2:=((Aa ij) t G).1.2;have aa:=Ab (ij.sw s t F G);have H:=Ab (Aj g5 (Nu wr ac (E s).2 (E t).2 s t));obtain⟨u,ai⟩:=PC.c2 ij s t F G (so vh (E t).2);generalize (E s).2=x at*;generalize (E t).2=y at*;have ea:((a:Int)+i).toNat=s:=om;have pa:(0:Int)<=a+(i:Int):=om;have ar:(a:Int)+i<(N:Int):=om;have ra:vh.wrap ((a:Int)+i)=(a:Int)+i:=sZ;have ec:((b:Int)+i).toNat=t:=om;have pc:(0:Int)<=b+(i:Int):=om;have au:(b:Int)+i<(N:Int):=om;have aw:vh.wrap ((b:Int)+i)=(b:Int)+i:=sZ;rw[<-af,<-O]at ae;clear af O F G ij;go_wp2_with fail;go_big_region;clear c1 c2 ai f1 f2;unfold UZ at aa H;have aj:=Ab (Cw H);clear H;go_wp2;go_roundw;exact⟨i+1,om,by go_num,by rw[Aa ae];exact Aa aa,aj⟩;simp[vy];omega);exact wO
theorem C5(Z:vt)(U:Nat)(d:Nat->Int×Int)(a m b:Nat)(aj:N<=288)(a7:a<m)(a6:m<b)(a5:b<=N)(ar:PC N ac l d w):vu v8 286 #[va (vp ⟨ac,0,vn⟩) N U,so vh a,so vh m,so vh b,Z] w λe w'=>e=vm (vd #[])/\PC N ac l (Aq.E0 d a m b) w'/\w.grownBy w' (vp ac):=by have a4:=Ab ar;have aw:=fL;clear ar;go_enter func286,ntmps286;go_wp2;go_loopw [10,11] (λai aa wr=>∃(i j:Nat) (dk:Nat->Int×Int),0<i/\0<j/\i<=m-a/\j<=b-m/\ai=so vh i/\aa=so vh j/\Aq.E0 dk (m-i) m (m+j)=Aq.E0 d a m b/\PC N ac l dk wr/\w.grownBy wr (vp ac)) (λai aa _=>(vy ai).toNat+(vy aa).toNat);exact⟨m-a,b-m,d,om,om,VA _,VA _,by go_num,by go_num,aw,a4,Av _ _⟩;obtain⟨i,j,dk,a3,ax,hi,ay,rfl,rfl,ak,ao,ap⟩:=hrel;obtain⟨ae,af,ah⟩:=Bq ao ap ak;clear ao ap ak;rcases UD i j with G|G|G;(. have al:=dZ;have az:¬(j:Int)<i:=om;have O:=bW;have av:vz ((m:Int)+j-(i:Int)=((m+j-i:Nat):Int)):=tI;go_wp2_with fail;rw[Aa O,Aa av];refine(Ph Z U dk _ _ _ aj om om ae).mono ?_;rintro e au ⟨rfl,E,F⟩;obtain⟨I,H,ag⟩:=Bq E (Aj af F) ((Aq.rot_lt dk m i j G om).trans (Aa ah));clear E F;go_wp2;go_roundw;exact⟨i,j-i,_,a3,om,hi,om,rfl,by go_num,ag,I,H⟩;simp[vy];omega);(. subst G;have al:((i:Int)!=i)=false:=oS;have O:=bW;go_wp2_with fail;rw[Aa O];refine(Ph Z U dk _ _ _ aj om om ae).mono ?_;rintro e au ⟨rfl,E,F⟩;rw[Aq.rot_eq dk m i om,Aa ah]at E;have I:=Ab E;have H:=Ab (Aj af F);clear E F;go_wp2;go_end0;exact⟨rfl,I,H⟩);. have al:=dZ;have az:(j:Int)<i:=om;have O:=bW;go_wp2_with fail;rw[Aa O];refine(Ph Z U dk _ _ _ aj om om ae).mono ?_;rintro e au ⟨rfl,E,F⟩;obtain⟨I,H,ag⟩:=Bq E (Aj af F) ((Aq.rot_gt dk m i j G om).trans (Aa ah));clear E F;go_wp2;go_roundw;exact⟨i-j,j,_,om,ax,om,ay,by go_num,rfl,ag,I,H⟩;simp[vy];omega
set_option maxRecDepth 100000 in
theorem MY(a7:Nat)(d:Nat->Int×Int){a:Nat}(hm:vz (m=a+1))(cd:N<=288)(bj:m<b)(bk:b<=N)(ai:Cx H ae bl cu co cj l w) (aw:PC N H l d w) (al:Aq.Srt Aq.lx d m b) (ay:Aq.K3 d a m b):vu v8 285 #[va (vp ⟨H,0,vn⟩) N a7,so vh a,so vh m,so vh b,CF ae] w λe w'=>e=vm (vd #[])/\∃d',PC N H l d' w'/\Aq.EA a b d d'/\Aq.Srt Aq.lx d' a b/\w.grownBy w' (vp H):=by
 obtain⟨f5,a9,ba,dl⟩:=Do aw al ay ai;have b4:=pM;(have a4:a<m:=by have:=Aa hm;omega);clear aw al ay ai;go_enter func285,ntmps285;go_wp2;go_loopw [10,11,12] (λac aa b8 wr=>∃i j q:Nat,m<=i/\i<=j/\j<=b/\ac=so vh i/\aa=so vh j/\(m<i->Aq.lx (d (i-1)) (d a))/\(j<b->Aq.lx (d a) (d j))/\wr=w.drewN q) (λac aa _ _=>(vy aa).toNat-(vy ac).toNat);exact jX;obtain⟨i,j,q,hi,bm,hj,rfl,rfl,av,ao,ap⟩:=hrel;obtain⟨em,fp,gx⟩:=Bq ap av ao;clear av ao ap;by_cases bh:i<j
 . obtain⟨c,a5⟩:=mP;have bu:i<=c:=om;have b0:c<j:=om;have E:=dF;have U:=Ab (Aq.aH (ba a c (VA _) a4 om om));have G:=mF;have ax:=fY;have au:=λn=>KC G ax c a om om n;have cc:=(G c om).1.1;have ca:=(G a om).1.1;generalize (d c).2=y at*;generalize (d a).2=z at*;have bd:=Ab au;clear a5 G ax au;have bv:(c:Int)<N:=om;have bn:(a:Int)<N:=om;go_wp2_with fail;rw[Aa E];go_wp2_with fail;go_quiet ((go_at_call 276;refine kbz (bd _)));rw[I9]
   cases F:decide ((d c).1<(d a).1)with
   |true=>have ml:=Ab (U.1 F);clear U F;go_wp2;go_roundw;exact vT;simp[vy];omega
   |false=>have ml:=Ab (U.2 F);clear U F;go_wp2;go_roundw;exact jH;simp[vy];omega
 . obtain rfl:i=j:=om;have bg:=nL;have a8:=rR;have a6:=sM;have az:=nT;go_wp2;go_loopw [13] (λvk ak=>∃k:Nat,a<=k/\k<i/\vk=so vh k/\PC N H l (Aq.E0 d a (a+1) (k+1)) ak/\w.grownBy ak (vp H)) (λvk _=>i-(vy vk).toNat);exact⟨a,VA _,om,rfl,by rw[Aa a8];exact Aa a6,az⟩;obtain⟨k,a3,bi,rfl,ah,aj⟩:=hrel;have bw:=Ab ah;have g5:=Ab aj;clear ah aj;by_cases b7:k<i-1;(. have bz:(k:Int)<i-1:=om;have bc:=Ab (Aq.rot_up d a k a3);generalize Aq.E0 d a (a+1) (k+1)=dk at*;obtain⟨t,ag⟩:∃t,t=k+1:=⟨_,rfl⟩;have I:k<N:=om;have Z:t<N:=om;have c1:=((Aa bw) k I).1.1;have f1:=((Aa bw) k I).1.2;have c2:=((Aa bw) t Z).1.1;have f2:=((Aa bw) t Z).1.2;have ar:=Ab (bw.sw k t I Z);have af:=pP;obtain⟨u,bb⟩:=PC.c2 bw k t I Z (so vh (dk t).2);generalize (dk k).2=x at*;generalize (dk t).2=y at*;have bo:=nW;have ec:((k:Int)+1).toNat=t:=om;have pc:(0:Int)<=k+1:=om;have bq:(k:Int)+1<(N:Int):=om;have b9:vh.wrap ((k:Int)+1)=(k:Int)+1:=sZ;have bf:=Ab ag;clear ag bw;go_wp2_with fail;go_big_region;clear c1 c2 bb f1 f2;unfold UZ at ar af;go_wp2;go_roundw;exact⟨k+1,om,om,by go_num,by rw[<-Aa bc,<-Aa bf];exact Aa ar,af⟩;simp[vy];omega);obtain rfl:k=i-1:=om;have b5:¬((i-1:Nat):Int)<(i:Int)-1:=om;have nq:i-1+1=i:=om;(have O:vz (PC N H l (Aq.E0 d a (a+1) i) wr):=by rw[nq]at bw;exact bw);exact xG
set_option maxRecDepth 100000 in
theorem EC(a4:Nat)(d:Nat->Int×Int){a:Nat}(bu:vz (b=m+1))(b8:N<=288)(bi:a+1<m)(a7:m<b)(bh:b<=N)(ah:Cx H ae bl cu co cj l w) (av:PC N H l d w) (ak:Aq.Srt Aq.lx d a m) (ax:Aq.K3 d a m b):vu v8 285 #[va (vp ⟨H,0,vn⟩) N a4,so vh a,so vh m,so vh b,CF ae] w λe w'=>e=vm (vd #[])/\∃d',PC N H l d' w'/\Aq.EA a b d d'/\Aq.Srt Aq.lx d' a b/\w.grownBy w' (vp H):=by
 obtain⟨f5,a9,a6,dl⟩:=Do av ak ax ah;have bk:=dS;have b0:=pK;clear av ak ax ah;go_enter func285,ntmps285;go_wp2;go_loopw [14,15,16] (λaa Z b5 wr=>∃i j q:Nat,a<=i/\i<=j/\j<=m/\aa=so vh i/\Z=so vh j/\(a<i->Aq.lx (d (i-1)) (d m))/\(j<m->Aq.lx (d m) (d j))/\wr=w.drewN q) (λaa Z _ _=>(vy Z).toNat-(vy aa).toNat);exact jW;obtain⟨i,j,q,hi,bj,hj,rfl,rfl,au,al,ao⟩:=hrel;obtain⟨em,fp,gx⟩:=Bq ao au al;clear au al ao;by_cases bf:i<j
 . obtain⟨c,az⟩:=mP;have bq:i<=c:=om;have bz:c<j:=om;have E:=dF;have O:=Ab (Aq.aH (a6 c m om om (VA _) a7));have G:=mF;have aw:=fY;have ar:=λn=>KC G aw m c om om n;have cc:=(G c om).1.1;have ca:=(G m om).1.1;generalize (d c).2=y at*;generalize (d m).2=z at*;have bb:=Ab ar;clear az G aw ar;have bv:(c:Int)<N:=om;have bm:(m:Int)<N:=om;go_wp2_with fail;rw[Aa E];go_wp2_with fail;go_quiet ((go_at_call 276;refine kbz (bb _)));rw[I9]
   cases F:decide ((d m).1<(d c).1)with
   |true=>have ml:=Ab (O.1 F);clear O F;go_wp2;go_roundw;exact jH;simp[vy];omega
   |false=>have ml:=Ab (O.2 F);clear O F;go_wp2;go_roundw;exact vT;simp[vy];omega
 . obtain rfl:i=j:=om;have bd:=nL;have a5:=sJ;have a3:=sM;have ay:=nT;go_wp2;go_loopw [17] (λvk aj=>∃k:Nat,i<=k/\k<=m/\vk=so vh k/\PC N H l (Aq.E0 d k m (m+1)) aj/\w.grownBy aj (vp H)) (λvk _=>(vy vk).toNat);exact⟨m,hj,VA _,rfl,by rw[Aa a5];exact Aa a3,ay⟩;obtain⟨k,bg,dv,rfl,ag,ai⟩:=hrel;have bw:=Ab ag;have g5:=Ab ai;clear ag ai;by_cases b4:i<k;(. have ba:=Ab (Aq.rot_down d k m om dv);generalize Aq.E0 d k m (m+1)=dk at*;obtain⟨t,af⟩:∃t,t=k-1:=⟨_,rfl⟩;have I:k<N:=om;have U:t<N:=om;have c1:=((Aa bw) k I).1.1;have f1:=((Aa bw) k I).1.2;have c2:=((Aa bw) t U).1.1;have f2:=((Aa bw) t U).1.2;have ap:=Ab (bw.sw k t I U);have ac:=pP;obtain⟨u,a8⟩:=PC.c2 bw k t I U (so vh (dk t).2);generalize (dk k).2=x at*;generalize (dk t).2=y at*;have bn:=nW;have ec:((k:Int)-1).toNat=t:=om;have pc:(0:Int)<=k-1:=om;have bo:(k:Int)-1<(N:Int):=om;have b7:vh.wrap ((k:Int)-1)=(k:Int)-1:=sZ;have bc:=Ab af;clear af bw;go_wp2_with fail;go_big_region;clear c1 c2 a8 f1 f2;unfold UZ at ap ac;go_wp2;go_roundw;exact⟨k-1,om,om,by go_num,by rw[<-Aa ba,<-Aa bc];exact Aa ap,ac⟩;simp[vy];omega);exact qU
def Z7r(N bp cap bx bl ol ln lc:Nat)(l:List Int)(L:Nat):Prop:=∀(d:Nat->Int×Int) (a m b:Nat) (w:wd),b-a<=L->a<m->m<b->b<=N->Cx bp bx bl ol ln lc l w->
 PC N bp l d w->Aq.Srt Aq.lx d a m->Aq.Srt Aq.lx d m b->Aq.K3 d a m b->
 vu v8 285 #[va (vp ⟨bp,0,vn⟩) N cap,so vh a,so vh m,so vh b,CF bx] w λe w'=>e=vm (vd #[])/\∃d',PC N bp l d' w'/\Aq.EA a b d d'/\Aq.Srt Aq.lx d' a b/\w.grownBy w' (vp bp)
structure M9(N bp bx bl ol ln lc:Nat)(l:List Int)(w W:wd)(D:Nat->Int×Int):Prop where
 ps:PC N bp l D W
 grown:w.grownBy W (vp bp)
 cx:Cx bp bx bl ol ln lc l W
theorem M9.next{F E:Nat->Int×Int}(s:M9 N ac G aa ai ak ar l w W F)(p:PC N ac l E W')(g:W.grownBy W' (vp ac)):M9 N ac G aa ai ak ar l w W' E:=
 ⟨p,Aj s.grown g,s.cx.grown g⟩
theorem Ir{E F:Nat->Int×Int}{a:Nat}(I:(Aq.Srt Aq.lx E a st/\Aq.Srt Aq.lx E st ac/\Aq.K3 E a st ac)/\(Aq.Srt Aq.lx E ac G/\Aq.Srt Aq.lx E G b/\Aq.K3 E ac G b))(H:Aq.EA a ac E F)(U:ac<=G):
 Aq.Srt Aq.lx F ac G/\Aq.Srt Aq.lx F G b/\Aq.K3 F ac G b:=
 ⟨I.2.1.congr (λk O _=>H.out k om),I.2.2.1.congr (λk O _=>H.out k om),I.2.2.2.congr (λk O _=>H.out k om)⟩
set_option maxRecDepth 100000 in
theorem Tz(U:Nat)(a3:Nat)(jq:vz (Z7r N H U ae bl cu co cj l a3))(d:Nat->Int×Int){a:Nat}(ao gy hi:Nat)(ah:N<=288)(cg:b-a<=a3+1)(b4:a+1<m)(ct:m+1<b)(bq:b<=N) (p7:vz (ao=(a+b)/2)) (j8:vz ((ao<m/\gy+b=ao+m/\hi=ao)\/ (m<=ao/\gy=a/\hi=m))) (au:Cx H ae bl cu co cj l w) (a8:PC N H l d w) (a9:Aq.Srt Aq.lx d a m) (ba:Aq.Srt Aq.lx d m b) (aw:Aq.K3 d a m b):vu v8 285 #[va (vp ⟨H,0,vn⟩) N U,so vh a,so vh m,so vh b,CF ae] w λe w'=>e=vm (vd #[])/\∃d',PC N H l d' w'/\Aq.EA a b d d'/\Aq.Srt Aq.lx d' a b/\w.grownBy w' (vp H):=by
 obtain⟨f5,qe,pq,cv,dl⟩:=HF a8 a9 ba aw au;have cn:=dS;have ce:=sP;have aa:=gD;obtain⟨cm,bh,bu,cq,ci,b7,b0⟩:=aa;have a5:=pR;have h2:=Ab a5;clear a8 a9 ba aw au a5;(rcases Aa j8 with ⟨bc,v2,ai⟩|⟨bc,v2,ai⟩);(case' inl=>have bk:((a:Int)+b)/2<(m:Int):=by rw[Aa h2];omega);case' inr=>have bk:¬((a:Int)+b)/2<(m:Int):=by rw[Aa h2];omega
 all_goals
  have p5:=Ab v2;have qb:=Ab ai;clear v2 ai;go_enter func285,ntmps285;go_wp2;go_loopw [20,21,23] (λar ak b9 wr=>∃st r q:Nat,gy<=st/\st<=r/\r<=hi/\ar=so vh st/\ak=so vh r/\(gy<st->Aq.lx (d (st-1)) (d (ao+m-st)))/\(r<hi->Aq.lx (d (ao+m-1-r)) (d r))/\wr=w.drewN q) (λar ak _ _=>(vy ak).toNat-(vy ar).toNat);exact xU;obtain⟨st,r,q,bf,b5,bd,rfl,rfl,aa,ay,a6⟩:=hrel;obtain⟨em,fp,gx⟩:=Bq a6 aa ay;clear aa ay a6;by_cases bz:st<r
  . obtain⟨c,bn⟩:∃c,c=(st+r)/2:=⟨_,rfl⟩;have bg:st<=c:=om;have b8:c<r:=om;have E:=rG;obtain⟨f,az⟩:∃f,f=ao+m-1-c:=⟨_,rfl⟩;have bv:(((a:Int)+b)/2+(m:Int)-1-(c:Int)).toNat=f:=tT;have I:(0:Int)<=((a:Int)+b)/2+(m:Int)-1-(c:Int):=tT;have b2:((a:Int)+b)/2+(m:Int)-1-(c:Int)<N:=tT;(have r2:vh.wrap (((a:Int)+b)/2+(m:Int)-1-(c:Int))=((a:Int)+b)/2+(m:Int)-1-(c:Int):=by rw[ka3];have:=Aa h2;omega);have Z:=Ab (Aq.aH (cv c f om om om om));have ac:=mF;have av:=fY;have a7:=λn=>KC ac av f c om om n;have cc:=(ac c om).1.1;have ca:=(ac f om).1.1;generalize (d c).2=y at*;generalize (d f).2=z at*;have bm:=Ab a7;have ax:=Ab az;have ck:(c:Int)<N:=om;clear bn ac av a7 az;go_wp2_with fail;rw[Aa E];go_wp2_with fail;go_quiet ((go_at_call 276;refine kbz (bm _)));rw[I9]
    cases af:decide ((d f).1<(d c).1)with
    |true=>have ag:=Ab (Z.1 af);rw[Aa ax]at ag;clear Z af;go_wp2;go_roundw;exact⟨st,c,_,bf,bg,om,rfl,rfl,fp,λ_=>Aa ag,by rw[Aa em,aD]⟩;simp[vy];omega
    |false=>have ag:=Ab (Z.2 af);(have bj:vz (ao+m-(c+1)=f):=by have:=Aa ax;unfold vz;omega);clear Z af;go_wp2;go_roundw;exact⟨c+1,r,_,om,om,bd,by go_num,rfl,λ_=>by rw[Aa bj];exact Aa ag,gx,by rw[Aa em,aD]⟩;simp[vy];omega
  . obtain rfl:st=r:=om;have bw:¬(st:Int)<st:=om;obtain⟨al,bo⟩:∃al,al+st=ao+m:=⟨ao+m-st,om⟩;have cp:(ao:Int)+m-(st:Int)=al:=om;have qd:ao+m=st+al:=om;(have qi:m<=al:=by have:=Aa j8;omega);have qz:al<=b:=om;have pw:ao<=al:=om;have cz:=mX;have qu:vz (a<st->al<b->Aq.lx (d (st-1)) (d al)):=λc1 c2=>kZ;have c6:vz (st<m->m<al->Aq.lx (d (al-1)) (d st)):=λc1 c2=>kU;(have bi:vz (M9 N H ae bl cu co cj l w wr d):=by rw[Aa em];exact⟨f5.drewN q,Gr (Av _ _) q,dl.drewN q⟩);rw[Aa h2];have F:=bP;clear fp gx bo;rcases F with F|F|F|F|F|F|F;(. have k1:=cK;have k2:=dG;have l1:=cQ;have l2:=fC;have n1:=cD;have n2:=fM;have aj:=Ab F;clear F;go_wp2_with fail;refine(C5 (CF ae) U d st m al ah (oh aj) (oh aj) (oh aj) bi.ps).mono ?_;rintro e ap ⟨rfl,p1,g1⟩;have G:=Ab (bi.next p1 g1);clear p1 g1;go_wp2_with fail;refine(jq (Aq.E0 d st m al) a st ao _ (oh aj) (oh aj) (oh aj) (oh aj) G.cx G.ps cz.1.1 cz.1.2.1 cz.1.2.2).mono ?_;rintro e bb ⟨rfl,d1,I,m1,O,g2⟩;obtain⟨a4,ff,f9⟩:=Bq (G.next I g2) m1 O;clear I g2 m1 O;exact qP);(. have k1:=cK;have k2:=dG;have l1:=cQ;have l2:=fC;have n1:=cD;have n2:=mY;have aj:=Ab F;clear F;go_wp2_with fail;refine(C5 (CF ae) U d st m al ah (oh aj) (oh aj) (oh aj) bi.ps).mono ?_;rintro e ap ⟨rfl,p1,g1⟩;have G:=Ab (bi.next p1 g1);clear p1 g1;go_wp2_with fail;refine(jq (Aq.E0 d st m al) a st ao _ (oh aj) (oh aj) (oh aj) (oh aj) G.cx G.ps cz.1.1 cz.1.2.1 cz.1.2.2).mono ?_;rintro e bb ⟨rfl,d1,I,m1,O,g2⟩;obtain⟨a4,ff,f9⟩:=Bq (G.next I g2) m1 O;clear I g2 m1 O;have eu:=gK;exact qJ);(. have k1:=cK;have k2:=dG;have l1:=mZ;have n1:=cD;have n2:=fM;have aj:=Ab F;clear F;go_wp2_with fail;refine(C5 (CF ae) U d st m al ah (oh aj) (oh aj) (oh aj) bi.ps).mono ?_;rintro e ap ⟨rfl,p1,g1⟩;have G:=Ab (bi.next p1 g1);clear p1 g1;have a4:=G;obtain⟨d1,cd⟩:=bX;rw[<-cd]at a4;have ff:=bK;have f9:=cU;clear cd;exact qP);(. have k1:=cK;have k2:=dG;have l1:=mZ;have n1:=cD;have n2:=mY;have aj:=Ab F;clear F;go_wp2_with fail;refine(C5 (CF ae) U d st m al ah (oh aj) (oh aj) (oh aj) bi.ps).mono ?_;rintro e ap ⟨rfl,p1,g1⟩;have G:=Ab (bi.next p1 g1);clear p1 g1;have a4:=G;obtain⟨d1,cd⟩:=bX;rw[<-cd]at a4;have ff:=bK;have f9:=cU;clear cd;have eu:=gK;exact qJ);(. have k1:=nC;have l1:=cQ;have l2:=fC;have n1:=mQ;have aj:=Ab F;clear F;have G:=dK;go_wp2_with fail;refine(jq (Aq.E0 d st m al) a st ao _ (oh aj) (oh aj) (oh aj) (oh aj) G.cx G.ps cz.1.1 cz.1.2.1 cz.1.2.2).mono ?_;rintro e bb ⟨rfl,d1,I,m1,O,g2⟩;obtain⟨a4,ff,f9⟩:=Bq (G.next I g2) m1 O;clear I g2 m1 O;have eu:=gK;exact qI);have k1:=nC;have l1:=cQ;have l2:=mR;have n1:=mQ;have aj:=Ab F;clear F;have G:=dK;have a4:=G;obtain⟨d1,cd⟩:=bX;rw[<-cd]at a4;have ff:=bK;have f9:=cW;clear cd;have eu:=gK;exact qI;have k1:=cK;have k2:¬(m:Int)<al:=om;have l1:=cQ;have l2:=mR;have n1:=cD;have n2:=fM;have aj:=Ab F;clear F;have G:vz (M9 N H ae bl cu co cj l w wr (Aq.E0 d st m al)):=sX;have a4:=G;obtain⟨d1,cd⟩:=bX;rw[<-cd]at a4;have ff:=bK;have f9:=cW;clear cd;exact qP
theorem Po(aa E O af ag ac I:Nat)(l:List Int)(F:N<=288):∀L,Z7r N aa E O af ag ac I l L
 |0=>λd a m b w al ak U _ _ _ _ _ _=>om
 |L+1=>λd a m b w al ak U hb H G Z ae hc=>by by_cases ai:m=a+1;exact MY E d (Ab ai) F U hb H G ae hc;by_cases ah:b=m+1;exact EC E d (Ab ah) F om U hb H G Z hc;by_cases aj:(a+b)/2<m;exact Tz E L (Ab (Po aa E O af ag ac I l F L)) d ((a+b)/2) ((a+b)/2+m-b) ((a+b)/2) F om om om hb (Ab rfl) (Ab (.inl ⟨aj,om,rfl⟩)) H G Z ae hc;exact Tz E L (Ab (Po aa E O af ag ac I l F L)) d ((a+b)/2) a m F om om om hb (Ab rfl) (Ab (.inr ⟨om,rfl,rfl⟩)) H G Z ae hc
set_option maxRecDepth 100000 in
theorem Yo(bc:Nat)(d:Nat->Int×Int)(a b:Nat)(b5:N<=288)(bm:a<=b)(bn:b<=N)(bb:Cx H ae bl cu co cj l w)(ja:PC N H l d w)(ay:SA d a b):vu v8 284 #[va (vp ⟨H,0,vn⟩) N bc,so vh a,so vh b,CF ae] w λe w'=>e=vm (vd #[])/\∃d',PC N H l d' w'/\Aq.EA a b d d'/\Aq.Srt Aq.lx d' a b/\w.grownBy w' (vp H):=by
 have bi:=rX;have ck:=Ab ay;clear ja bb ay;go_enter func284,ntmps284;go_wp2;go_loopw [8] (λao wr=>∃(i:Nat) (ax:Nat->Int×Int),a<i/\(i<=b\/ (i=a+1/\ax=d))/\ao=so vh i/\M9 N H ae bl cu co cj l w wr ax/\Aq.EA a i d ax/\Aq.Srt Aq.lx ax a i) (λao _=>b+2-(vy ao).toNat);exact vQ;obtain⟨i,ax,bz,m7,rfl,c8,jk,a8⟩:=hrel;obtain⟨a9,a5,bk⟩:=Bq c8 jk a8;by_cases aw:i<b
 . have ba:vz (∀k,a<=k->k<i->(ax k).2<(ax i).2):=λk ai av=>jG;clear m7 c8 jk a8 bi;go_wp2;go_loopw [9] (λac wr=>∃j:Nat,a<=j/\j<=i/\ac=so vh j/\M9 N H ae bl cu co cj l w wr (Aq.E0 ax j i (i+1))/\(j<i->Aq.lx (ax i) (ax j))) (λac _=>(vy ac).toNat);exact jR;obtain⟨j,az,ag,rfl,c8,a3⟩:=hrel;have E:=Ab c8;have bg:=Ab a3
   have G:((a<j->Aq.lx (ax (j-1)) (ax i))->vz (Aq.EA a (i+1) d (Aq.E0 ax j i (i+1))/\Aq.Srt Aq.lx (Aq.E0 ax j i (i+1)) a (i+1))):=λhl=>
    Ab ⟨(a5.wider (VA _) om om).trans ((Aq.Pl ax j i (i+1) ag om).wider az om (VA _)),Aq.ins_last az ag bk hl bg⟩
   clear c8 a3;by_cases bw:a<j
   . obtain⟨t,rfl⟩:∃t,j=t+1:=⟨j-1,om⟩;rw[YH]at G;(have aj:Aq.E0 ax (t+1) i (i+1) (t+1)=ax i:=by unfold Aq.E0;rw[A1 om];congr 1;omega);(have ar:Aq.E0 ax (t+1) i (i+1) t=ax t:=by unfold Aq.E0;rw[A0 om,A0 om]);have aa:=Ab (Aq.aH (ba t om om));have af:=Aq.rot_down ax (t+1) i om ag;rw[YH]at af;have ah:=Ab af;have ap:=Ab G;have ak:=λn=>KC E.ps E.cx (t+1) t om om n;rw[aj,ar]at ak;have al:=Ab ak;have c1:=(E.ps (t+1) om).1.1;have f1:=(E.ps (t+1) om).1.2;have c2:=(E.ps t om).1.1;have f2:=(E.ps t om).1.2;have F:=Ab (λn=>PC.sw (E.ps.drewN n) (t+1) t om om);have U:=Ab (λn=>PC.c2 (E.ps.drewN n) (t+1) t om om (so vh (ax t).2));rw[aj]at c1 F;rw[ar]at c2 F;clear aj ar G af ak;generalize Aq.E0 ax (t+1) i (i+1)=D at*;obtain⟨s,a8⟩:∃s,s=t+1:=⟨_,rfl⟩;have au:=Ab a8;rw[<-a8]at c1 f1 F U;generalize (ax i).2=x at*;generalize (ax t).2=y at*;have b0:(a:Int)<t+1:=om;have a4:decide ((t:Int)+1>(a:Int))=true:=H6 om;have ea:((t:Int)+1).toNat=s:=om;have pa:(0:Int)<=t+1:=om;have bu:(t:Int)+1<(N:Int):=om;have bv:(t:Int)<N:=om;have b4:vh.wrap (t:Int)=t:=sZ;clear a8;go_wp2_with fail;go_quiet ((go_at_call 276;refine kbz (al _)));rw[I9]
     cases I:decide ((ax i).1<(ax t).1)with
     |true=>have a7:=Ab (aa.1 I);(have gd:vz (M9 N H ae bl cu co cj l w (UZ (wr.drewN nq) H x y s t).drew (Aq.E0 ax t i (i+1))):=by have ai:=(Aa F) nq;rw[Aa au,Aa ah,<-Aa au]at ai;exact E.next ai (Cw (Aj (Gr (Av wr (vp H)) nq) (Nu (wr.drewN nq) H x y s t))));obtain⟨u,bf⟩:=(Aa U) nq;have a6:(wr.drewN nq).cell? ⟨H,s,vn⟩=vp (so vh x):=c1;have bd:(wr.drewN nq).cell? ⟨H,t,vn⟩=vp (so vh y):=c2;have bh:(wr.drewN nq).frozen? ⟨H,s,vn⟩=false:=f1;have bj:(wr.drewN nq).frozen? ⟨H,t,vn⟩=false:=f2;unfold UZ at gd;clear I F aa ap ah U al c1 c2 f1 f2;generalize wr.drewN nq=bo at*;go_wp2_with fail;go_big_region;clear a6 bd bh bj bf;go_wp2;go_roundw;exact⟨t,om,om,by go_num,gd,λ_=>Aa a7⟩;simp[vy]
     |false=>have O:=Aa ap (λ_=>aa.2 I);have gd:vz (M9 N H ae bl cu co cj l w (wr.drewN nq) D):=E.next (E.ps.drewN nq) (Gr (Av _ _) nq);clear I aa ap ah F U al c1 c2 f1 f2;go_wp2;go_roundw;exact vJ;simp[vy];omega
   . have bq:¬(a:Int)<j:=om;have a4:decide ((j:Int)>(a:Int))=false:=H2 om;have O:=G (λh=>om);clear G;generalize Aq.E0 ax j i (i+1)=D at*;have gd:vz (M9 N H ae bl cu co cj l w wr.drew D):=E.next (E.ps.drewN 1) (Cw (Av _ _));go_wp2_with fail;go_big_region;(all_goals go_wp2);go_roundw;exact vJ;simp[vy];omega
 exact xB
set_option maxRecDepth 100000 in
theorem Z8c(U:Nat)(d:Nat->Int×Int)(ak:N<=288)(bb:Cx H ae bl cu co cj l w)(ja:PC N H l d w)(hr:SA d 0 N):vu v8 283 #[va (vp ⟨H,0,vn⟩) N U,so vh N,CF ae] w λe w'=>e=vm (vd #[])/\∃d',PC N H l d' w'/\Aq.EA 0 N d d'/\Aq.Srt Aq.lx d' 0 N/\w.grownBy w' (vp H):=by have bi:=rX;have ck:=Ab hr;have oe:=mT;have ao:=Ab (Po H U ae bl cu co cj l ak N);clear ja bb hr;go_enter func283,ntmps283;go_wp2;go_loopw [7,8] (λI aa wr=>∃(t ac:Nat) (dk:Nat->Int×Int),vz (ac=t*20)/\ac<=N/\I=so vh ac/\aa=so vh ((ac:Int)+20)/\M9 N H ae bl cu co cj l w wr dk/\Aq.EA 0 N d dk/\Part dk d N 20 t) (λI _ _=>N+1-(vy I).toNat);exact yE;obtain⟨t,ac,dk,et,h1,rfl,rfl,G,F,ha⟩:=hrel;obtain⟨a9,ik,ft⟩:=Bq G F ha;have aj:vz (∀e,e<=N->SA dk ac e):=λe az i j ai av ay=>jS;clear G F ha bi oe;by_cases aw:ac+20<=N;(. have Z:(ac:Int)+20<=(N:Int):=om;have E:=rK;go_wp2_with fail;rw[Aa E];refine(Yo U dk ac (ac+20) ak om aw a9.cx a9.ps (aj (ac+20) aw)).mono ?_;rintro e ap ⟨rfl,d',e5,m2,fe,g2⟩;have bm:=Ab (a9.next e5 g2);exact qV);. have Z:¬(ac:Int)+20<=(N:Int):=om;go_wp2_with fail;refine(Yo U dk ac N ak h1 (VA _) a9.cx a9.ps (aj N (VA _))).mono ?_;rintro e ap ⟨rfl,d',e5,m2,fe,g2⟩;have bm:=Ab (a9.next e5 g2);have hs:=Ab (ik.trans (m2.wider (VF _) h1 (VA _)));have ah:vz (Kt d' N 20/\Cuts d' N 20):=yZ;clear e5 m2 fe g2 a9 ik ft aj et h1 aw Z;go_wp2;go_loopw [6,7,8,9] (λaf _ _ _ wr=>∃(B:Nat) (dy:Nat->Int×Int),0<B/\B<=1000/\af=so vh B/\M9 N H ae bl cu co cj l w wr dy/\Aq.EA 0 N d dy/\Kt dy N B/\Cuts dy N B) (λaf _ _ _ _=>N-(vy af).toNat);exact⟨20,d',om,om,rfl,bm,hs,ah.1,ah.2⟩;obtain⟨B,dy,ax,ar,rfl,G,F,al,l3⟩:=hrel;obtain⟨a9,ik,mg,pi⟩:=Do G F al l3;have mh:=pQ;clear G F al l3 bm hs ah;by_cases au:B<N;(. go_wp2;go_loopw [7,8] (λI aa wr=>∃(t ac:Nat) (dk:Nat->Int×Int),vz (ac=t*(2*B))/\ac<=N/\I=so vh ac/\aa=so vh ((ac:Int)+2*(B:Int))/\M9 N H ae bl cu co cj l w wr dk/\Aq.EA 0 N d dk/\Part dk dy N (2*B) t) (λI _ _=>N+1-(vy I).toNat);exact yD;obtain⟨t,ac,dk,et,h1,rfl,rfl,G,F,ha⟩:=hrel;obtain⟨eg,hk,ft⟩:=Bq G F ha;clear G F ha mh;by_cases aw:ac+2*B<=N;(. have Z:(ac:Int)+2*(B:Int)<=N:=om;have E:=nZ;have ag:=dA;have en:vz (Aq.Srt Aq.lx dk ac (ac+B)/\Aq.Srt Aq.lx dk (ac+B) (ac+2*B)/\Aq.K3 dk ac (ac+B) (ac+2*B)):=vU;go_wp2_with fail;rw[Aa E,Aa ag];refine(ao dk ac (ac+B) (ac+2*B) _ om om om aw eg.cx eg.ps en.1 en.2.1 en.2.2).mono ?_;rintro e w3 ⟨rfl,i0,fy,h8,jp,g3⟩;have gd:=Ab (eg.next fy g3);exact qR);. have Z:¬(ac:Int)+2*(B:Int)<=N:=om;by_cases hm:ac+B<N;(. have q4:(ac:Int)+B<(N:Int):=om;have ag:=dA;have en:vz (Aq.Srt Aq.lx dk ac (ac+B)/\Aq.Srt Aq.lx dk (ac+B) N/\Aq.K3 dk ac (ac+B) N):=vS;go_wp2_with fail;rw[Aa ag];refine(ao dk ac (ac+B) N _ om om hm (VA _) eg.cx eg.ps en.1 en.2.1 en.2.2).mono ?_;rintro e w3 ⟨rfl,i0,fy,h8,jp,g3⟩;have gd:=Ab (eg.next fy g3);exact qZ);exact qW);exact zJ
theorem DD(N:Nat)(O E:Nat)(d:Nat->Int×Int)(Z:N<=288)(U:Cx ac E G aa ai ak l w)(F:PC N ac l d w)(I:SA d 0 N):vu v8 275 #[va (vp ⟨ac,0,vn⟩) N O,CF E] w λe w'=>e=vm (vd #[])/\∃d',PC N ac l d' w'/\Aq.EA 0 N d d'/\Aq.Srt Aq.lx d' 0 N/\w.grownBy w' (vp ac):=by have ae:=Ab (Z8c O d Z U F I);clear U F I;go_enter func275,ntmps275;go_wp2_with fail;refine ae.mono ?_;rintro e af ⟨rfl,h⟩;have H:=Ab h;clear h;go_wp2;go_end0;exact⟨rfl,H⟩
theorem Qs(p:Option vw)(G F:Nat)(w:wd):vu v8 275 #[va p 0 G,CF F] w λe w'=>e=vm (vd #[])/\w'=w:=by(have U:∀w,vu v8 284 #[va p 0 G,so vh 0,so vh 0,CF F] w λe w'=>e=vm (vd #[])/\w'=w:=by intro w;go_enter func284,ntmps284;go_wp2;go_loopw [8] (λI wr=>I=so vh 1/\wr=w) (λI _=>0);exact⟨rfl,rfl⟩;obtain⟨rfl,rfl⟩:=hrel;go_wp2;go_end0;exact⟨rfl,rfl⟩);(have Z:∀w,vu v8 283 #[va p 0 G,so vh 0,CF F] w λe w'=>e=vm (vd #[])/\w'=w:=by intro w;go_enter func283,ntmps283;go_wp2;go_loopw [7,8] (λE H wr=>E=so vh 0/\H=so vh 20/\wr=w) (λE _ _=>0);exact jY;obtain⟨rfl,rfl,rfl⟩:=hrel;go_wp2_with fail;refine(U wr).mono ?_;rintro e O ⟨rfl,rfl⟩;go_wp2;go_loopw [6,7,8,9] (λE H aa ac wr=>E=so vh 20/\wr=O) (λE _ _ _ _=>0);exact⟨rfl,rfl⟩;obtain⟨rfl,rfl⟩:=hrel;go_wp2;go_end0;exact⟨rfl,rfl⟩);go_enter func275,ntmps275;go_wp2_with fail;refine(Z w).mono ?_;rintro e O ⟨rfl,rfl⟩;go_wp2;go_end0;exact⟨rfl,rfl⟩
structure WRow(w:wd)(g:Nat)(xs:List Int):Prop where
 lt:g<w.heap.size
 at_:∀j,j<xs.length->w.cell? ⟨g,j,vn⟩=vp (so vh (xs.getD j 0))/\w.frozen? ⟨g,j,vn⟩=vq
theorem WRow.row(h:WRow w g xs):AL vh w (vp ⟨g,0,vn⟩) xs:=.inr ⟨g,0,rfl,h.lt,λj E=>by rw[VY];exact(h.at_ j E).1⟩
theorem WRow.grown(h:WRow w g xs)(af:w.grownBy w' r)(bk:vp g≠r):WRow w' g xs:=by exact xS
theorem WRow.below{B:Nat}(h:WRow w g xs)(E:vx B w w')(G:g<B):WRow w' g xs:=
 ⟨VC h.lt E.size,λj F=>⟨by rw[E.cell (p:=⟨g,j,vn⟩) G];exact(h.at_ j F).1,by rw[E.frozen (p:=⟨g,j,vn⟩) G];exact(h.at_ j F).2⟩⟩
theorem WRow.own{B:Nat}(h:w.ownsRow B 3 1 (va (vp ⟨g,0,vn⟩) n ac) n (iv xs)):WRow w g xs:=by refine⟨(h.lt g rfl).2,λj E=>⟨?_,h.frozenAt j⟩⟩;have hn:=dH;rw[h.cellAt j om];simp[List.getD,E]
theorem WRow.set(h:WRow w g xs)(i:Nat)(hi:i<xs.length)(v:Int):WRow (w.setCell ⟨g,i,vn⟩ (so vh v)) g (xs.set i v):=by exact xI
theorem WRow.other(h:WRow w g xs){a:vw}(bo:a.block≠g)(v:vt):WRow (w.setCell a v) g xs:=by exact zW
theorem WRow.drew(h:WRow w g xs):WRow w.drew g xs:=⟨h.lt,h.at_⟩
abbrev ni(P:List Nat):List Int:=P.map λp:Nat=>(p:Int)
def aG(l:List Int)(P:List Nat)(k:Nat):Int×Int:=(l.getD (P.getD k 0) 0,(P.getD k 0:Nat))
theorem Z8m(l:List Int)(P:List Nat):(Aq.seg (aG l P) 0 P.length).map (λx=>x.2.toNat)=P:=by apply XM;simp[Aq.seg];intro i F E;simp[Aq.seg,aG,List.getD,E]
theorem Z8q{d':Nat->Int×Int}(ag:N=(wpl l l.length).length)(G:PC N ac l d' w')(ae:Aq.EA 0 N (aG l (wpl l l.length)) d')(aa:Aq.Srt Aq.lx d' 0 N)(E:P=(Aq.seg d' 0 N).map λx=>x.2.toNat):BN l P:=by(have aj:P.length=N:=by rw[E];simp[Aq.seg]);(have I:∀i (h:i<P.length),P[i]=(d' i).2.toNat:=by intro i h;simp[E,Aq.seg]);refine⟨?_,?_⟩;have:=ae.perm.map (λx:Int×Int=>x.2.toNat);rw[<-E,ag,Z8m]at this;exact this;rw[YK];intro i j hi U ah;have Z:i<N:=om;have F:j<N:=om;obtain⟨_,p,p1,ai,O⟩:=G i Z;obtain⟨_,q,H,ak,af⟩:=G j F;have h:=aa i j (VF _) ah F;unfold Aq.lx at h;rw[I i hi,I j U,p1,H,WQ,WQ];rw[p1,H,O,af]at h;omega
set_option maxRecDepth 100000 in
theorem MI(I:Nat)(hl:l.length=ac)(bq:ac<=288)(E:AL vh w a l):vu v8 258 #[va a ac I] w λe w'=>∃v P,e=vm v/\BN l P/\vx w.heap.size w w'/\((P= []/\v=va vn 0 0)\/∃g c,v=va (vp ⟨g,0,vn⟩) P.length c/\P.length<=c/\c<=maxLen/\w.heap.size<=g/\WRow w' g (ni P)):=by obtain⟨bv,hi,bh,bo,bu⟩:=EM Ce;have ah:=Ab hl;have ck:=Ab E;have bk:(w.alloc (vl #[va a ac I] 76)).cell? ⟨w.heap.size,0,vn⟩=vp (va a ac I):=oS;clear E;have bd:=Ab ((A2 w.heap.size w).alloc (VA _) (vl #[va a ac I] 76));go_enter func258,ntmps258;go_wp2;go_loopw [3,4,5,8] (λvo _ _ i wr=>∃k:Nat,k<=ac/\i=so vh k/\wr.ownsRow (w.heap.size+1) 3 1 vo (wpl l k).length (i64s (wpl l k))/\(wpl l k= []->vo=va vn 0 0)/\vx (w.heap.size+1) (w.alloc (vl #[va a ac I] 76)) wr) (λ_ _ _ i _=>ac-(vy i).toNat);exact⟨0,VF _,rfl,⟨rfl,.inl ⟨rfl,rfl⟩⟩,λ_=>rfl,A2 _ _⟩;obtain⟨k,av,rfl,G,a9,O⟩:=hrel;have ak:=Ab a9;clear a9;have aa:=Ab G;have F:=Ab O;have bw:=O.size;simp only[CL]at bw;by_cases ci:k<ac;(. have cw:k<l.length:=om;obtain⟨b,o,rfl,hb,E⟩:∃b o,a=vp ⟨b,o,vn⟩/\b<w.heap.size/\Row vh w b o l:=xP;have c1:=(F.cell (p:=⟨b,o+k,vn⟩) oO).trans ((I5 _ _ _ hb).trans (E k cw));have cm:=Sg l k;have H:vz (wpl l (k+1)=wpl l k++(if 0<l.getD k 0 then [k]else [])):=rfl;clear G O E;generalize l.getD k 0=x at*;by_cases a7:0<x;(. rw[A1 a7]at H;go_wp2_with (at_builtin;refine wpList_append_own _ rfl _ _ 76 rfl (w.heap.size+1) 3 bv (so vh 0) 1 8 underlying76 hi bh bo bu rfl od _ _ _ rfl (aa.alloc _) ⟨wr.heap.size,0,vn⟩ 1 1 [so vh k] rfl rfl qAB qAY ou om oO ?_);intro v' cg ao ax _;have bz:=Ab ao;have b0:=Ab ((F.alloc om _).grown ax oO (λk av=>(aa.lt k av).1));clear ao ax;go_wp2;go_roundw;refine⟨k+1,om,by go_num,?_,λh=>by rw[Aa H]at h;simp at h,b0⟩;(have e:i64s (wpl l (k+1))=i64s (wpl l k)++ [so vh k]:=by rw[Aa H];simp[i64s]);(have e2:(wpl l (k+1)).length=(wpl l k).length+1:=by rw[Aa H,VB];rfl);rw[e,e2];exact bz;simp[vy];omega);. rw[A0 a7,XB]at H;go_wp2;go_roundw;exact⟨k+1,om,by go_num,by rw[Aa H];exact Aa aa,by rw[Aa H];exact Aa ak,F⟩;simp[vy];omega);. obtain rfl:k=ac:=om;have az:vz (vx w.heap.size w wr):=bd.trans (F.mono om);by_cases ai:wpl l k= [];(. have aj:=Aa ak ai;subst aj;have cd:vz (BN l []):=⟨by rw[Aa ah,ai],.nil⟩;clear G O;go_wp2_with fail;refine(Qs vn 0 w.heap.size wr).mono ?_;rintro e al ⟨rfl,rfl⟩;go_wp2;go_ret;exact⟨_,[],rfl,cd,az,.inl ⟨rfl,rfl⟩⟩);. (have cn:0<(wpl l k).length:=by cases h:wpl l k with|nil=>exact absurd h ai|cons=>simp);(obtain⟨g,c,aj,au,a8,bj,bg⟩:∃g c,u3=va (vp ⟨g,0,vn⟩) (wpl l k).length c/\w.heap.size+1<=g/\g<wr.heap.size/\(wpl l k).length<=c/\c<=maxLen:=by rcases G.2 with h|⟨g,c,cur,U,bf,a5,bm,bn,cp,co⟩;omega;. refine⟨g,c,U,bf,?_,bm,bn⟩;rcases YN g wr.heap.size with h|h;exact h;. rw[XY h]at a5;cases a5);subst aj;have cq:=Sg l k;obtain⟨b,o,rfl,hb,E⟩:∃b o,a=vp ⟨b,o,vn⟩/\b<w.heap.size/\Row vh w b o l:=wY;(have ar:Cx g w.heap.size b o k I l wr:=by refine⟨(F.cell (p:=⟨w.heap.size,0,vn⟩) oS).trans bk,λj hj=>(F.cell (p:=⟨b,o+j,vn⟩) oO).trans ((I5 _ _ _ hb).trans (E j hj)),hl,bq,?_,?_,a8,om,om⟩;omega;omega);(have a6:PC (wpl l k).length g l (aG l (wpl l k)) wr:=by intro j hj;refine⟨⟨?_,G.frozenAt j⟩,(wpl l k).getD j 0,rfl,?_,rfl⟩;rw[G.cellAt j om];simp[aG,List.getD,hj];have U:(wpl l k).getD j 0∈wpl l k:=tE;have:=QM l k _ U;omega);(have bb:SA (aG l (wpl l k)) 0 (wpl l k).length:=by intro i j _ bi hj;have U:=(YK.1 (GI l k)) i j om hj bi;(have b7:(wpl l k).getD i 0=(wpl l k)[i]' om:=by simp[List.getD,show i<(wpl l k).length by omega]);have e2:(wpl l k).getD j 0=(wpl l k)[j]'hj:=tE;unfold aG;simp only[];rw[b7,e2];omega);have b4:=Ab (DD (wpl l k).length c w.heap.size _ om ar a6 bb);have a3:=Ab au;clear G O ar a6 bb E aa F ak au;generalize ba:(wpl l k).length=N at*;have b9:=Ab ba;clear ba;go_wp2_with fail;refine b4.mono ?_;rintro e al ⟨rfl,d',af,ap,aw,ag⟩;obtain⟨P,Z⟩:∃P,P=(Aq.seg d' 0 N).map λx=>x.2.toNat:=⟨_,rfl⟩;(have ae:P.length=N:=by rw[Z];simp[Aq.seg]);(have b8:vz (BN l P):=by refine Z8q (by rw[Aa ah,Aa b9]) af ?_ aw Z;rw[Aa ah];exact ap);(have bc:vz (WRow al g (ni P)):=by refine⟨VC a8 ag.size,λj hj=> ?_⟩;(have ay:j<N:=by simpa[ae]using hj);obtain⟨⟨c0,f0⟩,p,p1,cj,ce⟩:=af j ay;refine⟨?_,f0⟩;rw[c0];(have:(ni P).getD j 0=(d' j).2:=by simp[Z,Aq.seg,List.getD,ay,p1]);rw[this]);have b5:vz (vx w.heap.size w al):=az.grown ag om (λj h=>by cases h;have:=Aa a3;omega);have a4:=Ab ae;clear af ap aw ag Z ae;go_wp2;go_ret;refine⟨_,P,rfl,b8,b5,.inr ⟨g,c,?_,?_,bg,?_,bc⟩⟩;rw[Aa a4];rfl;rw[Aa a4];exact bj;have:=Aa a3;omega
theorem Nv(xs:List Int)(i j:Nat)(v:Int):(xs.set i v).getD j 0=if i=j/\i<xs.length then v else xs.getD j 0:=by simp only[List.getD];rw[YD];exact zF
theorem Mi(xs:List Int)(p:Nat):(Vy xs p).length=xs.length:=by simp[Vy]
theorem Cc:∀(ps:List Nat) (xs:List Int),(Da xs ps).length=xs.length
 | [],xs=>rfl
 |p::ps,xs=>by show (Da (Vy xs p) ps).length=_;rw[Cc ps,Mi]
theorem PO(xs:List Int)(E:List Nat)(p:Nat):Da xs (E++ [p])=Vy (Da xs E) p:=by simp[Da]
theorem PP{c:Int}(h:∀j,0<=xs.getD j 0/\xs.getD j 0<=c)(p:Nat):∀j,0<=(Vy xs p).getD j 0/\(Vy xs p).getD j 0<=c+1:=by intro j;have E:=h j;have F:=h p;unfold Vy;rw[Nv];split<;>omega
theorem Mh:∀(ps:List Nat) {xs:List Int} {c:Int},(∀j,0<=xs.getD j 0/\xs.getD j 0<=c)->∀j,0<=(Da xs ps).getD j 0/\(Da xs ps).getD j 0<=c+ps.length
 | [],xs,c,h=>by simpa[Da]using h
 |p::ps,xs,c,h=>by intro j;have:=Mh ps (PP h p) j;simp only[VG];show 0<=(Da (Vy xs p) ps).getD j 0/\(Da (Vy xs p) ps).getD j 0<=_;omega
theorem Ke(n c:Nat)(a:Option vw)(m aa:Nat)(E:List Nat)(av:xs.length=n)(a5:E.length=m)(aw:n<=288)(ay:m<=288)(Z:WRow w g xs)(af:AL vh w a (ni E))(ag:∀b o,a=vp ⟨b,o,vn⟩->b≠g) (H:∀p∈E,p<n) (I:∀j,0<=xs.getD j 0/\xs.getD j 0<=100000):vu v8 259 #[va (vp ⟨g,0,vn⟩) n c,va a m aa] w λe w'=>e=vm (vd #[])/\WRow w' g (Da xs E)/\w.grownBy w' (vp g):=by obtain⟨au,ak,ao,ar⟩:=Do Z af H I;clear Z af H I;go_enter func259,ntmps259;go_wp2;go_loopw [5,8] (λ_ i wr=>∃k:Nat,k<=m/\i=so vh k/\WRow wr g (Da xs (E.take k))/\w.grownBy wr (vp g)) (λ_ i _=>m-(vy i).toNat);exact⟨0,VF _,rfl,au,Av _ _⟩;obtain⟨k,ax,rfl,F,G⟩:=hrel;have U:=Ab F;have aj:=Ab G;by_cases H:k<m;(. have kx:k<E.length:=om;(obtain⟨b,o,rfl,I,ac⟩:∃b o,a=vp ⟨b,o,vn⟩/\b<w.heap.size/\Row vh w b o (ni E):=by rcases Aa ak with h|h;simp at h;subst h;simp at kx;exact h);have al:=ag b o rfl;obtain⟨p,ce⟩:∃p,p=E[k]:=⟨_,rfl⟩;(have a4:p<n:=by rw[ce];exact Aa ao _ (WO _));have c1:=G.cell (ac k (by simpa using kx)) (by simpa using al);have ae:(ni E).getD k 0=(p:Int):=tU;rw[ae]at c1;(have az:(Da xs (E.take k)).length=n:=by rw[Cc,av]);have aa:=(F.at_ p om).1;have f2:=(F.at_ p om).2;have a7:=Mh (E.take k) ar p;have a6:(E.take k).length<=288:=oO;(have ap:vz (Da xs (E.take (k+1))=(Da xs (E.take k)).set p ((Da xs (E.take k)).getD p 0+1)):=by rw[XH kx,PO,<-ce];exact rfl);have O:=Ab (F.set p om ((Da xs (E.take k)).getD p 0+1));have ah:=Ab (Aj G (Ad wr g p (so vh ((Da xs (E.take k)).getD p 0+1))));have a3:(p:Int)<n:=om;rw[<-Aa ap]at O;clear F G ac ce ae;generalize (Da xs (E.take k)).getD p 0=x at*;go_wp2;go_roundw;exact⟨k+1,om,by go_num,O,ah⟩;simp[vy];omega);. obtain rfl:k=m:=om;(have ai:vz (WRow wr g (Da xs E)):=by rw[VQ om]at U;exact U);clear F G;go_wp2;go_end0;exact⟨rfl,ai,aj⟩
def part(f:Nat->Int)(m:Nat):Nat->List Int
 |0=>List.replicate m 0
 |k+1=>(part f m k).set k (f k)
theorem Aw(f:Nat->Int)(m:Nat):∀k,(part f m k).length=m
 |0=>by simp[part]
 |k+1=>by rw[part,YA,Aw f m k]
theorem W4(f:Nat->Int)(m:Nat):∀k j,j<m->(part f m k).getD j 0=if j<k then f j else 0
 |0,j,hj=>by simp[part,List.getD,hj]
 |k+1,j,hj=>by rw[part,Nv,Aw,W4 f m k j hj];exact kL
theorem C9(f:Nat->Int)(m:Nat)(xs:List Int)(G:xs.length=m)(h:∀j,j<m->xs.getD j 0=f j):part f m m=xs:=by apply XM;rw[Aw,G];intro i E H;rw[Aw]at E;have F:=W4 f m m i E;rw[A1 E,<-h i E]at F;simpa[List.getD,Aw,E,H]using F
theorem Ua(n:Nat):(madeCells #[so vh 0] n).toList=iv (List.replicate n 0):=by rw[kbu];simp
set_option maxRecDepth 100000 in
theorem Zq(ar:Nat)(Z:Nat)(hl:l.length=ac)(af:P.length=m)(a7:m<=288)(bd:ac<=288)(aj:AL vh w a l)(ak:AL vh w ah (ni P))(F:∀p∈P,p<ac):vu v8 261 #[va a ac ar,va ah m Z] w λe w'=>∃g,e=vm (va (vp ⟨g,0,vn⟩) m m)/\WRow w' g (P.map λp=>l.getD p 0)/\vx w.heap.size w w'/\w.heap.size<=g:=by obtain⟨aw,hi,ao,au,i1⟩:=EM Ce;obtain⟨ck,av,ax⟩:=Bq aj ak F;clear aj ak F;go_enter func261,ntmps261;go_wp2_with (at_make;refine V5 _ rfl _ _ 76 rfl w.heap.size 3 aw (so vh 0) 1 underlying76 hi ao au _ _ _ _ m rfl rfl rfl rfl uR ou oS ?_);intro a5 E bg;have e0:(madeCells #[so vh 0] m).toList=iv (part (λk=>l.getD (P.getD k 0) 0) m 0):=Ua m;rw[e0]at E;have H:=WRow.own E;have az:=Ab H;have ap:=rH;clear E bg e0 H;generalize aa:w.heap.size=g at*;have mw:=Ab aa;clear aa;go_wp2;go_loopw [6,7,13] (λ_ _ i wr=>∃k:Nat,k<=m/\i=so vh k/\WRow wr g (part (λk=>l.getD (P.getD k 0) 0) m k)/\vx g w wr) (λ_ _ i _=>m-(vy i).toNat);exact⟨0,VF _,rfl,az,ap⟩;obtain⟨k,a6,rfl,hp,I⟩:=hrel;have U:=Ab hp;have rk:=Ab I;by_cases F:k<m;(. have kx:k<P.length:=om;(obtain⟨b2,o2,rfl,ae,al⟩:∃b o,ah=vp ⟨b,o,vn⟩/\b<w.heap.size/\Row vh w b o (ni P):=by rcases Aa av with h|h;simp at h;subst h;simp at kx;exact h);obtain⟨p,ce⟩:∃p,p=P[k]:=⟨_,rfl⟩;(have bb:p<ac:=by rw[ce];exact Aa ax _ (WO _));obtain⟨b,o,rfl,hb,ag⟩:∃b o,a=vp ⟨b,o,vn⟩/\b<w.heap.size/\Row vh w b o l:=wY;rw[Aa mw]at hb ae;have c1:=(I.cell (p:=⟨b2,o2+k,vn⟩) ae).trans (al k (by simpa using kx));have ai:(ni P).getD k 0=(p:Int):=tU;have e2:P.getD k 0=p:=tU;rw[ai]at c1;have Z:=(I.cell (p:=⟨b,o+p,vn⟩) hb).trans (ag p om);have a8:=Aw (λk=>l.getD (P.getD k 0) 0) m k;have a9:=(hp.at_ k om).1;have bc:=(hp.at_ k om).2;(have ay:vz (part (λk=>l.getD (P.getD k 0) 0) m (k+1)=(part (λk=>l.getD (P.getD k 0) 0) m k).set k (l.getD p 0)):=by rw[part,e2];exact rfl);have G:=Ab (hp.set k om (l.getD p 0));have a4:=Ab (I.setCell (p:=⟨g,k,vn⟩) (VA _) (so vh (l.getD p 0)));have ba:(p:Int)<ac:=om;rw[<-Aa ay]at G;clear hp I ag al ce ai e2;generalize (part (λk=>l.getD (P.getD k 0) 0) m k).getD k 0=y at*;generalize l.getD p 0=x at*;go_wp2;go_roundw;exact⟨k+1,om,by go_num,G,a4⟩;simp[vy];omega);obtain rfl:k=m:=om;(have O:vz (WRow wr g (P.map λp=>l.getD p 0)):=by rw[C9 (λk=>l.getD (P.getD k 0) 0) k (P.map λp=>l.getD p 0) (by simp[af]) (λj a3=>by simp[List.getD,af,a3])]at U;exact U);exact qBH
theorem Fc:∀xs:List Int,(Io xs).length=xs.length/2
 | []=>rfl
 | [x]=>by simp[Io]
 |x::y::t=>by rw[Io,VG,Fc t];simp only[VG];omega
theorem Rg:∀(xs:List Int) (j:Nat),j<xs.length/2->(Io xs).getD j 0=xs.getD (2*j) 0+xs.getD (2*j+1) 0
 | [],j,h=>by simp at h
 | [x],j,h=>by simp at h
 |x::y::t,0,h=>by simp[Io]
 |x::y::t,j+1,h=>by have:=Rg t j (by simp only[VG]at h;omega);rw[Io];simp only[List.getD_cons_succ];rw[this,show 2*(j+1)=2*j+1+1 by omega];simp only[List.getD_cons_succ]
set_option maxRecDepth 100000 in
theorem TM(c:Nat)(G:xs.length=n)(a7:n<=1000)(ah:AL vh w a xs)(E:∀j,0<=xs.getD j 0/\xs.getD j 0<=1000000000000):vu v8 278 #[va a n c] w λe w'=>∃g,e=vm (va (vp ⟨g,0,vn⟩) (n/2) (n/2))/\WRow w' g (Io xs)/\vx w.heap.size w w'/\w.heap.size<=g:=by obtain⟨ar,hi,ai,ao,i1⟩:=EM Ce;have ap:=Ab ah;have ag:=Ab E;have a3:vz ((n:Int)/2=((n/2:Nat):Int)):=tI;have al:vz (part (λk=>xs.getD (2*k) 0+xs.getD (2*k+1) 0) (n/2) (n/2)=Io xs):=C9 _ _ _ (by rw[Fc,G]) (λj ax=>Rg xs j (by rw[G];exact ax));have bb:2*(n/2)<=n:=om;clear ah E;generalize n/2=m at*;go_enter func278,ntmps278;go_wp2_with (at_make;rw[Aa a3];refine V5 _ rfl _ _ 76 rfl w.heap.size 3 ar (so vh 0) 1 underlying76 hi ai ao _ _ _ _ m rfl rfl rfl rfl uR ou oS ?_);intro a4 F bg;have e0:(madeCells #[so vh 0] m).toList=iv (part (λk=>xs.getD (2*k) 0+xs.getD (2*k+1) 0) m 0):=Ua m;rw[e0]at F;have ac:=WRow.own F;have aw:=Ab ac;have ak:=rH;clear F bg e0 ac;generalize ae:w.heap.size=g at*;have mw:=Ab ae;clear ae;go_wp2;go_loopw [4,11] (λ_ i wr=>∃k:Nat,k<=m/\i=so vh k/\WRow wr g (part (λk=>xs.getD (2*k) 0+xs.getD (2*k+1) 0) m k)/\vx g w wr) (λ_ i _=>m-(vy i).toNat);exact⟨0,VF _,rfl,aw,ak⟩;obtain⟨k,a8,rfl,hp,I⟩:=hrel;have aa:=Ab hp;have rk:=Ab I;by_cases a5:k<m;(. (obtain⟨b,o,rfl,E,H⟩:∃b o,a=vp ⟨b,o,vn⟩/\b<w.heap.size/\Row vh w b o xs:=by rcases Aa ap with rfl|h;simp at G;omega;exact h);rw[Aa mw]at E;obtain⟨s,af⟩:∃s,s=2*k:=⟨_,rfl⟩;obtain⟨t,Z⟩:∃t,t=2*k+1:=⟨_,rfl⟩;have c1:=(I.cell (p:=⟨b,o+s,vn⟩) E).trans (H s om);have c2:=(I.cell (p:=⟨b,o+t,vn⟩) E).trans (H t om);have bc:=Aw (λk=>xs.getD (2*k) 0+xs.getD (2*k+1) 0) m k;have au:=(hp.at_ k om).1;have az:=(hp.at_ k om).2;have b1:=Aa ag s;have b2:=Aa ag t;(have av:vz (part (λk=>xs.getD (2*k) 0+xs.getD (2*k+1) 0) m (k+1)=(part (λk=>xs.getD (2*k) 0+xs.getD (2*k+1) 0) m k).set k (xs.getD s 0+xs.getD t 0)):=by rw[af,Z];exact rfl);have U:=Ab (hp.set k om (xs.getD s 0+xs.getD t 0));have ay:=Ab (I.setCell (p:=⟨g,k,vn⟩) (VA _) (so vh (xs.getD s 0+xs.getD t 0)));rw[<-Aa av]at U;have ea:(2*(k:Int)).toNat=s:=om;have pa:(0:Int)<=2*(k:Int):=om;have a9:2*(k:Int)<n:=om;have ra:vh.wrap (2*(k:Int))=2*(k:Int):=sZ;have ec:(2*(k:Int)+1).toNat=t:=om;have pc:(0:Int)<=2*(k:Int)+1:=om;have ba:2*(k:Int)+1<(n:Int):=om;have bd:vh.wrap (2*(k:Int)+1)=2*(k:Int)+1:=sZ;have a6:(k:Int)<m:=om;clear hp I H af Z;generalize (part (λk=>xs.getD (2*k) 0+xs.getD (2*k+1) 0) m k).getD k 0=z at*;generalize xs.getD s 0=x at*;generalize xs.getD t 0=y at*;have rs:vh.wrap (x+y)=x+y:=sZ;go_wp2_with fail;go_big_region;clear c1 c2 au az;have aj:=Ab (Ae ay 1);go_wp2;go_roundw;exact⟨k+1,om,by go_num,U.drew,aj⟩;simp[vy];omega);obtain rfl:k=m:=om;(have O:vz (WRow wr g (Io xs)):=by rw[Aa al]at aa;exact aa);exact qBH
theorem Z0x:(Tryz.prog.info? 4).map (λi=>(i.zero,i.size,i.bytes))=vp (vp (ve vq),1,1):=oR
structure BRow(w:wd)(g:Nat)(xs:List Bool):Prop where
 lt:g<w.heap.size
 at_:∀j,j<xs.length->w.cell? ⟨g,j,vn⟩=vp (ve (xs.getD j vq))/\w.frozen? ⟨g,j,vn⟩=vq
theorem BRow.below{B:Nat}{xs:List Bool}(h:BRow w g xs)(E:vx B w w')(G:g<B):BRow w' g xs:=
 ⟨VC h.lt E.size,λj F=>⟨by rw[E.cell (p:=⟨g,j,vn⟩) G];exact(h.at_ j F).1,by rw[E.frozen (p:=⟨g,j,vn⟩) G];exact(h.at_ j F).2⟩⟩
theorem BRow.set{xs:List Bool}(h:BRow w g xs)(i:Nat)(hi:i<xs.length)(v:Bool):BRow (w.setCell ⟨g,i,vn⟩ (ve v)) g (xs.set i v):=by exact xI
theorem BRow.other{xs:List Bool}(h:BRow w g xs){a:vw}(bo:a.block≠g)(v:vt):BRow (w.setCell a v) g xs:=by exact zW
theorem BRow.drew{xs:List Bool}(h:BRow w g xs):BRow w.drew g xs:=⟨h.lt,h.at_⟩
theorem BRow.grown{xs:List Bool}(h:BRow w g xs)(af:w.grownBy w' r)(bk:vp g≠r):BRow w' g xs:=by exact xS
theorem WRow.made(w:wd)(N:Nat)(t:TypeId)(g:Nat)(E:g=w.heap.size):WRow (w.alloc (vl (madeCells #[so vh 0] N) t)) g (List.replicate N 0):=by subst E;exact kE
theorem BRow.made(w:wd)(N:Nat)(t:TypeId)(g:Nat)(E:g=w.heap.size):BRow (w.alloc (vl (madeCells #[ve vq] N) t)) g (List.replicate N vq):=by subst E;exact kE
theorem WRow.alloc(h:WRow w g xs)(o:Obj):WRow (w.alloc o) g xs:=h.grown (K1 w o vn) oS
theorem BRow.alloc{xs:List Bool}(h:BRow w g xs)(o:Obj):BRow (w.alloc o) g xs:=h.grown (K1 w o vn) oS
def partB(f:Nat->Bool)(m:Nat):Nat->List Bool
 |0=>List.replicate m vq
 |k+1=>(partB f m k).set k (f k)
theorem As(f:Nat->Bool)(m:Nat):∀k,(partB f m k).length=m
 |0=>by simp[partB]
 |k+1=>by rw[partB,YA,As f m k]
theorem Z1d(xs:List Bool)(i j:Nat)(v:Bool):(xs.set i v).getD j vq=if i=j/\i<xs.length then v else xs.getD j false:=by simp only[List.getD];rw[YD];exact zF
theorem La(f:Nat->Bool)(m:Nat):∀k j,j<m->(partB f m k).getD j vq=if j<k then f j else vq
 |0,j,hj=>by simp[partB,List.getD,hj]
 |k+1,j,hj=>by rw[partB,Z1d,As,La f m k j hj];exact kL
theorem TJ(f:Nat->Bool)(m:Nat)(xs:List Bool)(G:xs.length=m)(h:∀j,j<m->xs.getD j vq=f j):partB f m m=xs:=by apply XM;rw[As,G];intro i E H;rw[As]at E;have F:=La f m m i E;rw[A1 E,<-h i E]at F;simpa[List.getD,As,E,H]using F
theorem MN(f:Nat->Bool)(G:f k=vq)(H:k<m):partB f m (k+1)=partB f m k:=by apply XM;rw[As,As];intro i E I;rw[As]at E;have F:=La f m (k+1) i E;have e2:=La f m k i E;simp only[List.getD,As,E,VP,ZG]at F e2;rw[F,e2];by_cases e:i=k;subst e;rw[A1 om,A0 om,G];by_cases h:i<k;rw[A1 h,A1 om];rw[A0 h,A0 om]
theorem Bn:∀xs ys:List Int,(F1 xs ys).length=xs.length+ys.length
 | [],ys=>by simp[Lx]
 |x::xs,[]=>by
  rw[Pn,VG,Bn xs []]
  simp
 |x::xs,y::ys=>by
  rw[Kc]
  split
  . rw[VG,Bn xs (y::ys)];simp;omega
  . rw[VG,Bn (x::xs) ys];simp;omega
termination_by xs ys=>xs.length+ys.length
theorem Z0t:(Tryz.prog.info? 340).map (·.size)=vp 2:=oR
theorem Y5{x y:vt}(G:w.cell? ⟨b,o,vn⟩=vp x)(F:w.cell? ⟨b,o+1,vn⟩=vp y):(loadVar 340 ⟨b,o,vn⟩).run v8 w=.ok (vf #[x,y]) w:=by
 have hl:(loadCells ⟨b,o,vn⟩ [x,y].length).run v8 w=.ok [x,y].toArray w:=
  run_loadCells_list (P:=v8) w ⟨b,o,vn⟩ [x,y] (λj v E=>by
   match j,E with
   |0,E=>simp at E;subst E;simpa[Addr.add]using G
   |1,E=>simp at E;subst E;simpa[Addr.add]using F)
 obtain⟨i,hi,H⟩:=XK.1 Z0t;simp only[VG,WE,VY,Nat.reduceAdd]at hl;simp[loadVar,P0,sizeOf,typeInfo,hi,H,hl]
theorem Z4i{F:Func}{p:Tmp}(h:F.results= #[.cell p 340])(E:Array vt)(w:wd)(b:Nat)(x y:vt)(G:E.getD p undef=vc (vp ⟨b,0,vn⟩))(O:w.cell? ⟨b,0,vn⟩=vp x)(I:w.cell? ⟨b,1,vn⟩=vp y):(results F E).run v8 w=.ok (vf #[x,y]) w:=by(have H:E[p]?.getD undef=vc (vp ⟨b,0,vn⟩):=by simpa using G);simp[results,h,H,asAddr,Y5 O I]
def HX(xs ys:List Int)(i j:Nat):Prop:=(F1 xs ys).drop (i+j)=F1 (xs.drop i) (ys.drop j)
theorem Yu{E:Type}(l:List E)(n:Nat)(d:E):l.getD n d=(l.drop n).getD 0 d:=by simp[List.getD]
theorem Kn(h:i<xs.length):xs.drop i=xs.getD i 0::xs.drop (i+1):=by rw[WX h];simp[List.getD,h]
theorem HX.one{ys:List Int}(h:HX xs ys i j)(G:i<xs.length)(F:¬j<ys.length\/xs.getD i 0<=ys.getD j 0):(F1 xs ys).getD (i+j) (0,vq)=(xs.getD i 0,vr)/\HX xs ys (i+1) j:=by unfold HX at*;(have e:F1 (xs.drop i) (ys.drop j)=(xs.getD i 0,vr)::F1 (xs.drop (i+1)) (ys.drop j):=by rw[Kn G];by_cases E:j<ys.length;rw[Kn E,Kc,A1 (by rcases F with h|h;exact absurd E h;exact h),<-Kn E];rw[show ys.drop j= [] from XE om,Pn]);constructor;rw[Yu,h,e];rfl;rw[show i+1+j=(i+j)+1 by omega,<-YF,h,e];rfl
theorem HX.two{ys:List Int}(h:HX xs ys i j)(E:j<ys.length)(F:¬i<xs.length\/¬xs.getD i 0<=ys.getD j 0):(F1 xs ys).getD (i+j) (0,vq)=(ys.getD j 0,vq)/\HX xs ys i (j+1):=by unfold HX at*;(have e:F1 (xs.drop i) (ys.drop j)=(ys.getD j 0,vq)::F1 (xs.drop i) (ys.drop (j+1)):=by rw[Kn E];by_cases hi:i<xs.length;rw[Kn hi,Kc,A0 (by rcases F with h|h;exact absurd hi h;exact h)];rw[show xs.drop i= [] from XE om,Lx,Lx];rfl);constructor;rw[Yu,h,e];rfl;rw[show i+(j+1)=(i+j)+1 by omega,<-YF,h,e];rfl
def mf(xs ys:List Int)(k:Nat):Int:=((F1 xs ys).getD k (0,vq)).1
def ms(xs ys:List Int)(k:Nat):Bool:=((F1 xs ys).getD k (0,vq)).2
structure H1(w W:wd)(N g1 g2 g6:Nat)(xs ys:List Int)(k:Nat):Prop where
 b1:w.heap.size<g1
 b2:w.heap.size<g2
 b6:w.heap.size<g6
 n12:g1≠g2
 n16:g1≠g6
 n26:g2≠g6
 ws:WRow W g1 (part (mf xs ys) N k)
 fs:BRow W g2 (partB (ms xs ys) N k)
 c0:W.cell? ⟨g6,0,vn⟩=vp (va (vp ⟨g1,0,vn⟩) N N)
 c1:W.cell? ⟨g6,1,vn⟩=vp (va (vp ⟨g2,0,vn⟩) N N)
 r0:W.cell? ⟨w.heap.size,0,vn⟩=vp (va vn 0 0)
 r1:W.cell? ⟨w.heap.size,1,vn⟩=vp (va vn 0 0)
 f0:W.frozen? ⟨w.heap.size,0,vn⟩=vq
 f1:W.frozen? ⟨w.heap.size,1,vn⟩=vq
 bel:vx w.heap.size w W
theorem H1.drew{ys:List Int}(h:H1 w W N g1 g2 ac xs ys k):H1 w W.drew N g1 g2 ac xs ys k:=
 ⟨h.b1,h.b2,h.b6,h.n12,h.n16,h.n26,h.ws.drew,h.fs.drew,h.c0,h.c1,h.r0,h.r1,h.f0,h.f1,Ae h.bel 1⟩
theorem H1.set1{ys:List Int}(h:H1 w W N g1 g2 ac xs ys k)(E:k<N)(x:Int)(G:mf xs ys k=x)(F:ms xs ys k=vq):H1 w (W.setCell ⟨g1,k,vn⟩ (so vh x)).drew N g1 g2 ac xs ys (k+1):=by have H:=h.b1;have o:∀b o,b≠g1->(W.setCell ⟨g1,k,vn⟩ (so vh x)).drew.cell? ⟨b,o,vn⟩=W.cell? ⟨b,o,vn⟩:=λb o hb=>K4 _ _ _ _ uS;refine⟨h.b1,h.b2,h.b6,h.n12,h.n16,h.n26,?_,?_,?_,?_,?_,?_,?_,?_,?_⟩;rw[part,G];exact(h.ws.set k (by rw[Aw];exact E) x).drew;rw[MN _ F E];exact(h.fs.other (a:=⟨g1,k,vn⟩) h.n12 _).drew;rw[o _ _ (λe=>h.n16 e.symm)];exact h.c0;rw[o _ _ (λe=>h.n16 e.symm)];exact h.c1;rw[o _ _ om];exact h.r0;rw[o _ _ om];exact h.r1;show (W.setCell ⟨g1,k,vn⟩ (so vh x)).frozen? _=_;rw[aE];exact h.f0;show (W.setCell ⟨g1,k,vn⟩ (so vh x)).frozen? _=_;rw[aE];exact h.f1;exact Ae (h.bel.setCell (p:=⟨g1,k,vn⟩) oO _) 1
theorem H1.set2{ys:List Int}(h:H1 w W N g1 g2 ac xs ys k)(G:k<N)(x:Int)(I:mf xs ys k=x)(H:ms xs ys k=vr):H1 w ((W.setCell ⟨g1,k,vn⟩ (so vh x)).setCell ⟨g2,k,vn⟩ (ve vr)).drew N g1 g2 ac xs ys (k+1)/\H1 w ((W.setCell ⟨g2,k,vn⟩ (ve vr)).setCell ⟨g1,k,vn⟩ (so vh x)).drew N g1 g2 ac xs ys (k+1):=by have O:=h.b1;have U:=h.b2;have o1:∀(V:wd) b o v,b≠g1->(V.setCell ⟨g1,k,vn⟩ v).cell? ⟨b,o,vn⟩=V.cell? ⟨b,o,vn⟩:=λV b o v hb=>K4 _ _ _ _ uS;have o2:∀(V:wd) b o v,b≠g2->(V.setCell ⟨g2,k,vn⟩ v).cell? ⟨b,o,vn⟩=V.cell? ⟨b,o,vn⟩:=λV b o v hb=>K4 _ _ _ _ uS;(have E:k<(part (mf xs ys) N k).length:=by rw[Aw];exact G);(have F:k<(partB (ms xs ys) N k).length:=by rw[As];exact G);constructor;refine⟨h.b1,h.b2,h.b6,h.n12,h.n16,h.n26,?_,?_,?_,?_,?_,?_,?_,?_,?_⟩;rw[part,I];exact((h.ws.set k E x).other (a:=⟨g2,k,vn⟩) (λe=>h.n12 e.symm) _).drew;rw[partB,H];exact((h.fs.other (a:=⟨g1,k,vn⟩) h.n12 _).set k F vr).drew;exact(o2 _ _ _ _ (λe=>h.n26 e.symm)).trans ((o1 _ _ _ _ (λe=>h.n16 e.symm)).trans h.c0);exact(o2 _ _ _ _ (λe=>h.n26 e.symm)).trans ((o1 _ _ _ _ (λe=>h.n16 e.symm)).trans h.c1);exact(o2 _ _ _ _ om).trans ((o1 _ _ _ _ om).trans h.r0);exact(o2 _ _ _ _ om).trans ((o1 _ _ _ _ om).trans h.r1);exact yB;exact yC;exact Ae ((h.bel.setCell (p:=⟨g1,k,vn⟩) oO _).setCell (p:=⟨g2,k,vn⟩) oO _) 1;refine⟨h.b1,h.b2,h.b6,h.n12,h.n16,h.n26,?_,?_,?_,?_,?_,?_,?_,?_,?_⟩;rw[part,I];exact((h.ws.other (a:=⟨g2,k,vn⟩) (λe=>h.n12 e.symm) _).set k E x).drew;rw[partB,H];exact((h.fs.set k F vr).other (a:=⟨g1,k,vn⟩) h.n12 _).drew;exact(o1 _ _ _ _ (λe=>h.n16 e.symm)).trans ((o2 _ _ _ _ (λe=>h.n26 e.symm)).trans h.c0);exact(o1 _ _ _ _ (λe=>h.n16 e.symm)).trans ((o2 _ _ _ _ (λe=>h.n26 e.symm)).trans h.c1);exact(o1 _ _ _ _ om).trans ((o2 _ _ _ _ om).trans h.r0);exact(o1 _ _ _ _ om).trans ((o2 _ _ _ _ om).trans h.r1);exact yB;exact yC;exact Ae ((h.bel.setCell (p:=⟨g2,k,vn⟩) oO _).setCell (p:=⟨g1,k,vn⟩) oO _) 1
theorem Z9f(w:wd)(N:Nat)(xs ys:List Int):H1 w ((((w.alloc (vl #[va vn 0 0,va vn 0 0] 340)).alloc (vl (madeCells #[so vh 0] N) 3)).alloc (vl (madeCells #[ve vq] N) 4)).alloc (vl #[va (vp ⟨w.heap.size+1,0,vn⟩) N N,va (vp ⟨w.heap.size+2,0,vn⟩) N N] 340)).drew N (w.heap.size+1) (w.heap.size+2) (w.heap.size+3) xs ys 0:=by refine⟨om,om,om,om,om,om,(((WRow.made (w.alloc (vl #[va vn 0 0,va vn 0 0] 340)) N 3 (w.heap.size+1) oS).alloc _).alloc _).drew,((BRow.made ((w.alloc (vl #[va vn 0 0,va vn 0 0] 340)).alloc (vl (madeCells #[so vh 0] N) 3)) N 4 (w.heap.size+2) oS).alloc _).drew,?_,?_,?_,?_,?_,?_,?_⟩;(all_goals first|exact Ae (((((A2 w.heap.size w).alloc (VA _) _).alloc oS _).alloc oO _).alloc oO _) 1|skip);all_goals (simp only[World.alloc,World.cell?,World.frozen?,World.drew,YJ,ZE];simp[WV])
theorem Z9e(w:wd)(N:Nat)(xs ys:List Int):H1 w ((((w.alloc (vl #[va vn 0 0,va vn 0 0] 340)).alloc (vl (madeCells #[so vh 0] N) 3)).alloc (vl #[va (vp ⟨w.heap.size+1,0,vn⟩) N N,va (vp ⟨w.heap.size+3,0,vn⟩) N N] 340)).alloc (vl (madeCells #[ve vq] N) 4)).drew N (w.heap.size+1) (w.heap.size+3) (w.heap.size+2) xs ys 0:=by refine⟨om,om,om,om,om,om,(((WRow.made (w.alloc (vl #[va vn 0 0,va vn 0 0] 340)) N 3 (w.heap.size+1) oS).alloc _).alloc _).drew,(BRow.made (((w.alloc (vl #[va vn 0 0,va vn 0 0] 340)).alloc (vl (madeCells #[so vh 0] N) 3)).alloc (vl #[va (vp ⟨w.heap.size+1,0,vn⟩) N N,va (vp ⟨w.heap.size+3,0,vn⟩) N N] 340)) N 4 (w.heap.size+3) oS).drew,?_,?_,?_,?_,?_,?_,?_⟩;(all_goals first|exact Ae (((((A2 w.heap.size w).alloc (VA _) _).alloc oS _).alloc oO _).alloc oO _) 1|skip);all_goals (simp only[World.alloc,World.cell?,World.frozen?,World.drew,YJ,ZE];simp[WV])
theorem Z9d(w:wd)(N:Nat)(xs ys:List Int):H1 w ((((w.alloc (vl #[va vn 0 0,va vn 0 0] 340)).alloc (vl (madeCells #[ve vq] N) 4)).alloc (vl (madeCells #[so vh 0] N) 3)).alloc (vl #[va (vp ⟨w.heap.size+2,0,vn⟩) N N,va (vp ⟨w.heap.size+1,0,vn⟩) N N] 340)).drew N (w.heap.size+2) (w.heap.size+1) (w.heap.size+3) xs ys 0:=by refine⟨om,om,om,om,om,om,((WRow.made ((w.alloc (vl #[va vn 0 0,va vn 0 0] 340)).alloc (vl (madeCells #[ve vq] N) 4)) N 3 (w.heap.size+2) oS).alloc _).drew,(((BRow.made (w.alloc (vl #[va vn 0 0,va vn 0 0] 340)) N 4 (w.heap.size+1) oS).alloc _).alloc _).drew,?_,?_,?_,?_,?_,?_,?_⟩;(all_goals first|exact Ae (((((A2 w.heap.size w).alloc (VA _) _).alloc oS _).alloc oO _).alloc oO _) 1|skip);all_goals (simp only[World.alloc,World.cell?,World.frozen?,World.drew,YJ,ZE];simp[WV])
theorem Z9c(w:wd)(N:Nat)(xs ys:List Int):H1 w ((((w.alloc (vl #[va vn 0 0,va vn 0 0] 340)).alloc (vl (madeCells #[ve vq] N) 4)).alloc (vl #[va (vp ⟨w.heap.size+3,0,vn⟩) N N,va (vp ⟨w.heap.size+1,0,vn⟩) N N] 340)).alloc (vl (madeCells #[so vh 0] N) 3)).drew N (w.heap.size+3) (w.heap.size+1) (w.heap.size+2) xs ys 0:=by refine⟨om,om,om,om,om,om,(WRow.made (((w.alloc (vl #[va vn 0 0,va vn 0 0] 340)).alloc (vl (madeCells #[ve vq] N) 4)).alloc (vl #[va (vp ⟨w.heap.size+3,0,vn⟩) N N,va (vp ⟨w.heap.size+1,0,vn⟩) N N] 340)) N 3 (w.heap.size+3) oS).drew,(((BRow.made (w.alloc (vl #[va vn 0 0,va vn 0 0] 340)) N 4 (w.heap.size+1) oS).alloc _).alloc _).drew,?_,?_,?_,?_,?_,?_,?_⟩;(all_goals first|exact Ae (((((A2 w.heap.size w).alloc (VA _) _).alloc oS _).alloc oO _).alloc oO _) 1|skip);all_goals (simp only[World.alloc,World.cell?,World.frozen?,World.drew,YJ,ZE];simp[WV])
theorem Z9b(w:wd)(N:Nat)(xs ys:List Int):H1 w ((((w.alloc (vl #[va vn 0 0,va vn 0 0] 340)).alloc (vl #[va (vp ⟨w.heap.size+2,0,vn⟩) N N,va (vp ⟨w.heap.size+3,0,vn⟩) N N] 340)).alloc (vl (madeCells #[so vh 0] N) 3)).alloc (vl (madeCells #[ve vq] N) 4)).drew N (w.heap.size+2) (w.heap.size+3) (w.heap.size+1) xs ys 0:=by refine⟨om,om,om,om,om,om,((WRow.made ((w.alloc (vl #[va vn 0 0,va vn 0 0] 340)).alloc (vl #[va (vp ⟨w.heap.size+2,0,vn⟩) N N,va (vp ⟨w.heap.size+3,0,vn⟩) N N] 340)) N 3 (w.heap.size+2) oS).alloc _).drew,(BRow.made (((w.alloc (vl #[va vn 0 0,va vn 0 0] 340)).alloc (vl #[va (vp ⟨w.heap.size+2,0,vn⟩) N N,va (vp ⟨w.heap.size+3,0,vn⟩) N N] 340)).alloc (vl (madeCells #[so vh 0] N) 3)) N 4 (w.heap.size+3) oS).drew,?_,?_,?_,?_,?_,?_,?_⟩;(all_goals first|exact Ae (((((A2 w.heap.size w).alloc (VA _) _).alloc oS _).alloc oO _).alloc oO _) 1|skip);all_goals (simp only[World.alloc,World.cell?,World.frozen?,World.drew,YJ,ZE];simp[WV])
theorem Z9a(w:wd)(N:Nat)(xs ys:List Int):H1 w ((((w.alloc (vl #[va vn 0 0,va vn 0 0] 340)).alloc (vl #[va (vp ⟨w.heap.size+3,0,vn⟩) N N,va (vp ⟨w.heap.size+2,0,vn⟩) N N] 340)).alloc (vl (madeCells #[ve vq] N) 4)).alloc (vl (madeCells #[so vh 0] N) 3)).drew N (w.heap.size+3) (w.heap.size+2) (w.heap.size+1) xs ys 0:=by refine⟨om,om,om,om,om,om,(WRow.made (((w.alloc (vl #[va vn 0 0,va vn 0 0] 340)).alloc (vl #[va (vp ⟨w.heap.size+3,0,vn⟩) N N,va (vp ⟨w.heap.size+2,0,vn⟩) N N] 340)).alloc (vl (madeCells #[ve vq] N) 4)) N 3 (w.heap.size+3) oS).drew,((BRow.made ((w.alloc (vl #[va vn 0 0,va vn 0 0] 340)).alloc (vl #[va (vp ⟨w.heap.size+3,0,vn⟩) N N,va (vp ⟨w.heap.size+2,0,vn⟩) N N] 340)) N 4 (w.heap.size+2) oS).alloc _).drew,?_,?_,?_,?_,?_,?_,?_⟩;(all_goals first|exact Ae (((((A2 w.heap.size w).alloc (VA _) _).alloc oS _).alloc oO _).alloc oO _) 1|skip);all_goals (simp only[World.alloc,World.cell?,World.frozen?,World.drew,YJ,ZE];simp[WV])
set_option maxRecDepth 100000 in
theorem Z08{b1:Nat}(i4:Nat){b2:Nat}(o2:Nat)(E ae:Nat){ys:List Int}(w:wd)(bo:xs.length=ac)(bh:ys.length=E)(cw:ac<=1000)(dh:E<=1000)(cv:ac<=G)(cd:E<=ae)(cp:G<=maxLen)(b8:ae<=maxLen)(bu:b1<w.heap.size)(sh:b2<w.heap.size)(bv:Row vh w b1 i4 xs)(bg:Row vh w b2 o2 ys):vu v8 277 #[va (vp ⟨b1,i4,vn⟩) ac G,va (vp ⟨b2,o2,vn⟩) E ae] w λe w'=>∃g1 g2,e=vm (vf #[va (vp ⟨g1,0,vn⟩) (ac+E) (ac+E),va (vp ⟨g2,0,vn⟩) (ac+E) (ac+E)])/\WRow w' g1 ((F1 xs ys).map Prod.fst)/\BRow w' g2 ((F1 xs ys).map Prod.snd)/\vx w.heap.size w w'/\w.heap.size<=g1/\w.heap.size<=g2:=by
 unfold maxLen at cp b8;have ky:=Ab bv;have rs:=Ab bg;obtain⟨N,au⟩:∃N,N=ac+E:=⟨_,rfl⟩;rw[<-au];have cj:=Ab au;have bz:vz ((ac:Int)+E=(N:Int)):=tI;have cq:=λW=>run_make_row' (P:=v8) 76 3 (so vh 0) 8 underlying76 Ce rfl vh vh N om om W;have ci:=λW=>run_make_row' (P:=v8) 338 4 (ve vq) 1 underlying338 Z0x rfl vh vh N om om W;(have ck:vz (HX xs ys 0 0):=by unfold vz HX;simp);have b5:vz (part (mf xs ys) N N=(F1 xs ys).map Prod.fst):=C9 _ _ _ (by rw[WP,Bn,bo,bh,au]) (λj b4=>by (have:j<(F1 xs ys).length:=by rw[Bn];omega);simp[mf,List.getD,this]);have cu:vz (partB (ms xs ys) N N=(F1 xs ys).map Prod.snd):=TJ _ _ _ (by rw[WP,Bn,bo,bh,au]) (λj b4=>by (have:j<(F1 xs ys).length:=by rw[Bn];omega);simp[ms,List.getD,this]);have cz:N<=2000:=om;clear bv bg au;go_enter func277,ntmps277;go_wp2_with fail;rw[Aa bz];rename_i Q K hK
 have ak:∀(g1 g2 g6:Nat) (W:wd),vz (H1 w W N g1 g2 g6 xs ys 0)->K ⟨#[va (vp ⟨b1,i4,vn⟩) ac G,va (vp ⟨b2,o2,vn⟩) E ae,undef,undef,vc (vp ⟨w.heap.size,0,vn⟩),so vh N,vc (vp ⟨g6,0,vn⟩),undef,va (vp ⟨b1,i4,vn⟩) ac G,so vh ac,va (vp ⟨b2,o2,vn⟩) E ae,so vh E,so vh N,so vh N,va (vp ⟨g1,0,vn⟩) N N,so vh N,va (vp ⟨g2,0,vn⟩) N N,vf #[va (vp ⟨g1,0,vn⟩) N N,va (vp ⟨g2,0,vn⟩) N N],undef,undef,undef,undef,undef,undef,undef,undef,undef,undef,undef,undef,undef,undef,undef,undef,undef,undef,undef,undef,undef,undef,undef,undef,undef,undef,undef,undef,undef,undef,undef,undef,undef,undef,undef,undef,undef,undef,undef,undef,undef,undef,undef,undef,undef],[]⟩ W:=by
  intro g1 g2 g6 W ce;refine hK _ _ ?_;clear hK cq ci K;go_wp2;go_loopw [0,1,7,19] (λb7 b0 _ bc wr=>∃(i j k p q u v Z aa:Nat) (a4 az:Option vw),vz ((k=i+j/\p=i4+i/\q=o2+j)/\(0<u->a4=vp ⟨b1,p,vn⟩)/\(0<v->az=vp ⟨b2,q,vn⟩))/\u+i=ac/\v+j=E/\u<=Z/\v<=aa/\Z<=G/\aa<=ae/\bc=so vh k/\b7=va a4 u Z/\b0=va az v aa/\HX xs ys i j/\H1 w wr N g1 g2 g6 xs ys k) (λ_ _ _ bc _=>N-(vy bc).toNat);exact⟨0,0,0,i4,o2,ac,E,G,ae,vp ⟨b1,i4,vn⟩,vp ⟨b2,o2,vn⟩,Ab ⟨⟨rfl,rfl,rfl⟩,λ_=>rfl,λ_=>rfl⟩,rfl,rfl,cv,cd,VA _,VA _,rfl,rfl,rfl,ck,ce⟩;obtain⟨i,j,k,p,q,u,v,Z,aa,a4,az,ay,c8,da,c9,c6,df,db,rfl,rfl,rfl,bi,bq⟩:=hrel;obtain⟨a7,a6,bb,av,G6⟩:=HF ay.1 ay.2.1 ay.2.2 bi bq;clear ay;(have c7:k+u+v=N:=by have:=a7.1;have:=Aa cj;omega);clear bi bq;have d0:=G6.c0;have d1:=G6.c1;by_cases aw:k<N;. have de:=nW;have F:=(G6.ws.at_ k uZ).1;have e2:=(G6.ws.at_ k uZ).2;have e3:=(G6.fs.at_ k uX).1;have H:=(G6.fs.at_ k uX).2;by_cases ct:v=0;(. obtain⟨x,hx⟩:=exq (xs.getD i 0);have U:=fO;obtain⟨m1,m2⟩:=av.one om (.inl om);have al:=Aa a6 om;subst al;have cy:=Ab G6.drew;rw[<-(Aa a7).1]at m1;(have O:mf xs ys k=x:=by unfold mf;rw[m1,<-hx]);have I:ms xs ys k=true:=tQ;have aj:=mL;obtain⟨ah,ai,ag⟩:=Bq m2 O I;clear m1 m2 O I;subst ct;have bm:(0:Int)<u:=om;have bn:=Ab hx;clear hx;have ar:=mD;go_wp2_with fail;go_big_region;clear d0 d1 F e2 e3 H;generalize wr.drew=a8 at*;have d0:=cy.c0;have d1:=cy.c1;have F:=fI;have e2:=fJ;have e3:=fF;have H:=fG;generalize (part (mf xs ys) N k).getD k 0=a9 at*;generalize (partB (ms xs ys) N k).getD k vq=ba at*;have n12:=cy.n12;have af:=Ab (cy.set2 aw x ai ag).1;have n21:g2≠g1:=λe=>n12 e.symm;have n61:g6≠g1:=λe=>cy.n16 e.symm;go_wp2_with fail;go_big_region;clear d0 d1 F e2 e3 H ar U;go_wp2;go_roundw;refine⟨i+1,j,k+1,p+1,q,u-1,0,Z-1,aa,if Z=1 then vp ⟨b1,p,vn⟩else vp ⟨b1,p+1,vn⟩,az,Ab ⟨aj,λh=>by rw[A0 om],λh=>om⟩,om,om,om,om,om,om,by go_num,?_,rfl,ah,af⟩;rfl;simp[vy];omega);. by_cases cg:u=0;(. obtain⟨y,hu⟩:=exq (ys.getD j 0);have gq:=fP;obtain⟨m1,m2⟩:=av.two om (.inl om);have ao:=Aa bb om;subst ao;have cy:=Ab G6.drew;rw[<-(Aa a7).1]at m1;(have O:mf xs ys k=y:=by unfold mf;rw[m1,<-hu]);have I:ms xs ys k=false:=tQ;have aj:=mI;obtain⟨ah,ai,ag⟩:=Bq m2 O I;clear m1 m2 O I;subst cg;have bd:=nD;have bj:(0:Int)<v:=om;have bf:=Ab hu;clear hu;have ap:=mE;go_wp2_with fail;go_big_region;clear d0 d1 F e2 e3 H;generalize wr.drew=a8 at*;have d0:=cy.c0;have d1:=cy.c1;have F:=fI;have e2:=fJ;have e3:=fF;have H:=fG;generalize (part (mf xs ys) N k).getD k 0=a9 at*;generalize (partB (ms xs ys) N k).getD k vq=ba at*;have af:=Ab (cy.set1 aw y ai ag);go_wp2_with fail;go_big_region;clear d0 d1 F e2 e3 H ap gq;go_wp2;go_roundw;refine⟨i,j+1,k+1,p,q+1,0,v-1,Z,aa-1,a4,if aa=1 then vp ⟨b2,q,vn⟩else vp ⟨b2,q+1,vn⟩,Ab ⟨aj,λh=>om,λh=>by rw[A0 om]⟩,om,om,om,om,om,om,by go_num,rfl,?_,ah,af⟩;rfl;simp[vy];omega);. obtain⟨x,hx⟩:=exq (xs.getD i 0);have U:=fO;obtain⟨y,hu⟩:=exq (ys.getD j 0);have gq:=fP;by_cases a3:x<=y;(. obtain⟨m1,m2⟩:=av.one om (.inr (by rw[hx,hu];exact a3));have al:=Aa a6 om;subst al;have ao:=Aa bb om;subst ao;have cy:=Ab G6.drew;rw[<-(Aa a7).1]at m1;(have O:mf xs ys k=x:=by unfold mf;rw[m1,<-hx]);have I:ms xs ys k=true:=tQ;have aj:=mL;obtain⟨ah,ai,ag⟩:=Bq m2 O I;clear m1 m2 O I;have bd:=nD;have bj:(0:Int)<v:=om;have bm:(0:Int)<u:=om;have bw:0<u:=om;have b9:decide (x<=y)=true:=H6 a3;have bn:=Ab hx;clear hx;have bf:=Ab hu;clear hu;have ar:=mD;have ap:=mE;go_wp2_with fail;go_big_region;clear d0 d1 F e2 e3 H;generalize wr.drew=a8 at*;have d0:=cy.c0;have d1:=cy.c1;have F:=fI;have e2:=fJ;have e3:=fF;have H:=fG;generalize (part (mf xs ys) N k).getD k 0=a9 at*;generalize (partB (ms xs ys) N k).getD k vq=ba at*;have n12:=cy.n12;have af:=Ab (cy.set2 aw x ai ag).1;have n21:g2≠g1:=λe=>n12 e.symm;have n61:g6≠g1:=λe=>cy.n16 e.symm;go_wp2_with fail;go_big_region;clear d0 d1 F e2 e3 H ar U ap gq;go_wp2;go_roundw;refine⟨i+1,j,k+1,p+1,q,u-1,v,Z-1,aa,if Z=1 then vp ⟨b1,p,vn⟩else vp ⟨b1,p+1,vn⟩,_,Ab ⟨aj,λh=>by rw[A0 om],λ_=>rfl⟩,om,om,om,om,om,om,by go_num,?_,rfl,ah,af⟩;rfl;simp[vy];omega);. obtain⟨m1,m2⟩:=av.two om (.inr (by rw[hx,hu];exact a3));have al:=Aa a6 om;subst al;have ao:=Aa bb om;subst ao;have cy:=Ab G6.drew;rw[<-(Aa a7).1]at m1;(have O:mf xs ys k=y:=by unfold mf;rw[m1,<-hu]);have I:ms xs ys k=false:=tQ;have aj:=mI;obtain⟨ah,ai,ag⟩:=Bq m2 O I;clear m1 m2 O I;have bd:=nD;have bj:(0:Int)<v:=om;have bm:(0:Int)<u:=om;have bw:0<u:=om;have b9:decide (x<=y)=false:=H2 a3;have bn:=Ab hx;clear hx;have bf:=Ab hu;clear hu;have ar:=mD;have ap:=mE;go_wp2_with fail;go_big_region;clear d0 d1 F e2 e3 H;generalize wr.drew=a8 at*;have d0:=cy.c0;have d1:=cy.c1;have F:=fI;have e2:=fJ;have e3:=fF;have H:=fG;generalize (part (mf xs ys) N k).getD k 0=a9 at*;generalize (partB (ms xs ys) N k).getD k vq=ba at*;have af:=Ab (cy.set1 aw y ai ag);go_wp2_with fail;go_big_region;clear d0 d1 F e2 e3 H ap gq ar U;go_wp2;go_roundw;refine⟨i,j+1,k+1,p,q+1,u,v-1,Z,aa-1,_,if aa=1 then vp ⟨b2,q,vn⟩else vp ⟨b2,q+1,vn⟩,Ab ⟨aj,λ_=>rfl,λh=>by rw[A0 om]⟩,om,om,om,om,om,om,by go_num,rfl,?_,ah,af⟩;rfl;simp[vy];omega
  . obtain rfl:k=N:=om;have a5:=G6.ws;have ax:=G6.fs;rw[Aa b5]at a5;rw[Aa cu]at ax;have r0:=G6.r0;have r1:=G6.r1;have f0:=G6.f0;have f1:=G6.f1;obtain⟨cn,bk,a5,ax⟩:=Do G6.bel (And.intro G6.b1 G6.b2) a5 ax;go_wp2
    have cm:((wr.setCell ⟨w.heap.size,0,vn⟩ (va (vp ⟨g1,0,vn⟩) k k)).setCell ⟨w.heap.size,1,vn⟩ (va (vp ⟨g2,0,vn⟩) k k)).cell? ⟨w.heap.size,0,vn⟩=vp (va (vp ⟨g1,0,vn⟩) k k):=
     (K4 _ _ _ _ uC).trans (P1 _ _ _ r0)
    have co:((wr.setCell ⟨w.heap.size,0,vn⟩ (va (vp ⟨g1,0,vn⟩) k k)).setCell ⟨w.heap.size,1,vn⟩ (va (vp ⟨g2,0,vn⟩) k k)).cell? ⟨w.heap.size,1,vn⟩=vp (va (vp ⟨g2,0,vn⟩) k k):=
     P1 _ _ _ ((K4 _ _ _ _ uC).trans r1)
    refine E1 (Z4i rfl _ _ _ _ _ rfl cm co) rfl ?_;have c5:=bk.1;have dc:=bk.2
    exact⟨g1,g2,rfl,(a5.other (a:=⟨w.heap.size,0,vn⟩) oO _).other (a:=⟨w.heap.size,1,vn⟩) oO _,(ax.other (a:=⟨w.heap.size,0,vn⟩) oO _).other (a:=⟨w.heap.size,1,vn⟩) oO _,
     (cn.setCell (p:=⟨w.heap.size,0,vn⟩) (VA _) _).setCell (p:=⟨w.heap.size,1,vn⟩) (VA _) _,om,om⟩
 go_big_region;exact ak _ _ _ _ (Z9f w N xs ys);exact ak _ _ _ _ (Z9e w N xs ys);exact ak _ _ _ _ (Z9d w N xs ys);exact ak _ _ _ _ (Z9c w N xs ys);exact ak _ _ _ _ (Z9b w N xs ys);exact ak _ _ _ _ (Z9a w N xs ys)
def Jo(fs:List Bool):Nat->Nat
 |0=>0
 |k+1=>Jo fs k+(if fs.getD k vq=vr then 1 else 0)
theorem BX(fs:List Bool):∀k,Jo fs k<=k
 |0=>VA _
 |k+1=>by have:=BX fs k;rw[Jo];split<;>omega
theorem Qn(r:List (Int×Bool)):∀t,t<=r.length->Ca r t=Jo (r.map Prod.snd) t
 |0,_=>by simp[Ca,Jo]
 |t+1,h=>by have ih:=Qn r t om;have E:t<r.length:=om;unfold Ca at*;rw[XH E,List.filter_append,VB,ih,Jo];(have e:(r.map Prod.snd).getD t vq=r[t].2:=by simp[List.getD,E]);rw[e];cases h:r[t].2<;>simp[h]
theorem Xf(v:vt)(ag:v.oneCell'=vr)(c:Nat){fs:List Bool}(ah:fs.length=N)(Z:m<=N)(ak:N<=2000)(F:BRow w g fs):vu v8 262 #[vf #[v,va (vp ⟨g,0,vn⟩) N c],so vh m] w λe w'=>e=vm (so vh (Jo fs m:Nat))/\vx w.heap.size w w':=by
 have U:=Ab F;have aj:=F.lt;clear F;go_enter func262,ntmps262;go_wp2;have hb:(w.alloc (vl #[v,va (vp ⟨g,0,vn⟩) N c] 340)).cell? ⟨w.heap.size,1,vn⟩=vp (va (vp ⟨g,0,vn⟩) N c):=oS;have I:=Ab ((A2 w.heap.size w).alloc (VA _) (vl #[v,va (vp ⟨g,0,vn⟩) N c] 340));have H:=Ab (U.alloc (vl #[v,va (vp ⟨g,0,vn⟩) N c] 340));generalize w.alloc (vl #[v,va (vp ⟨g,0,vn⟩) N c] 340)=W at*;go_loop [5,6,8] (λO _ G=>∃k:Nat,k<=m/\G=so vh k/\O=so vh (Jo fs k:Nat)) (λ_ _ G=>m-(vy G).toNat);exact zG;obtain⟨k,ac,rfl,rfl⟩:=hrel;have ai:=BX fs k;by_cases ae:k<m
 . have c1:=(H.at_ k om).1;have af:=nW;have aa:vz (Jo fs (k+1)=Jo fs k+(if fs.getD k vq=vr then 1 else 0)):=rfl;generalize Jo fs k=u at*
   cases E:fs.getD k vq with
   |true=>rw[E]at c1 aa;rw[A1 rfl]at aa;clear E;go_wp2;go_round;exact zS;simp[vy];omega
   |false=>rw[E]at c1 aa;rw[A0 oS]at aa;clear E;go_wp2;go_round;exact zY;simp[vy];omega
 . obtain rfl:k=m:=om;go_wp2;go_ret;exact⟨rfl,I⟩
theorem Ho:∀(xs ys:List Int) (x:Int),x∈(F1 xs ys).map Prod.fst->x∈xs\/x∈ys
 | [],ys,x,h=>by
  rw[Lx]at h
  simp at h
  exact .inr h
 |z::xs,[],x,h=>by
  rw[Pn,WN,VV]at h
  rcases h with h|h
  . exact .inl (by rw[h];exact XX)
  . rcases Ho xs [] x h with h|h
    . exact .inl (WL _ h)
    . cases h
 |z::xs,y::ys,x,h=>by
  rw[Kc]at h
  split at h
  . rw[WN,VV]at h
    rcases h with h|h
    . exact .inl (by rw[h];exact XX)
    . rcases Ho xs (y::ys) x h with h|h
      . exact .inl (WL _ h)
      . exact .inr h
  . rw[WN,VV]at h
    rcases h with h|h
    . exact .inr (by rw[h];exact XX)
    . rcases Ho (z::xs) ys x h with h|h
      . exact .inl h
      . exact .inr (WL _ h)
termination_by xs ys=>xs.length+ys.length
theorem D6:∀(xs:List Int) (x:Int),x∈Io xs->∃a b,a∈xs/\b∈xs/\x=a+b
 | [],x,h=>by simp[Io]at h
 | [y],x,h=>by simp[Io]at h
 |y::z::t,x,h=>by rw[Io,VV]at h;rcases h with h|h;exact⟨y,z,oS,oS,h⟩;obtain⟨a,b,E,hb,e⟩:=D6 t x h;exact⟨a,b,by simp[E],by simp[hb],e⟩
theorem Jz(W:List Int):∀k,(rowAt W k).length<=2*W.length
 |0=>by rw[rowAt,Bn];simp;omega
 |k+1=>by have:=Jz W k;rw[rowAt,Bn,Fc,WP];omega
theorem Ls(W:List Int)(M:Int)(E:∀x∈W,0<=x/\x<=M):∀k,∀x∈(rowAt W k).map Prod.fst,0<=x/\x<=M*2^k
 |0,x,h=>by rw[rowAt]at h;rcases Ho W [] x h with h|h;have:=E x h;simpa using this;. cases h
 |k+1,x,h=>by rw[rowAt]at h;have I:(0:Int)<2^k:=Int.pow_pos od;rw[Int.pow_succ];rcases Ho _ _ x h with h|h;have:=E x h;have H:0<=M:=om;have F:M*1<=M*(2^k*2):=Int.mul_le_mul_of_nonneg_left om H;rw[Int.mul_one]at F;omega;obtain⟨a,b,G,hb,e⟩:=D6 _ x h;have O:=Ls W M E k a G;have F:=Ls W M E k b hb;rw[<-Int.mul_assoc];omega
theorem DJ(W:List Int)(E:∀x∈W,0<=x/\x<=1000000)(k:Nat)(F:k<=15)(j:Nat):0<=((rowAt W k).map Prod.fst).getD j 0/\((rowAt W k).map Prod.fst).getD j 0<=1000000000000:=by by_cases G:j<((rowAt W k).map Prod.fst).length;(. have h:=Ls W 1000000 E k (((rowAt W k).map Prod.fst).getD j 0) (by simp only[List.getD,VP G,ZG];exact WO _);have I:(2:Nat)^k<=2^15:=VN od F;have H:((2:Int)^k)=((2^k:Nat):Int):=sW;rw[H]at h;generalize 2^k=q at*;omega);rw[List.getD,VZ om];decide
structure HJ(w W:wd)(g m:Nat)(Ws:List Int)(k:Nat)(A B:Nat->Nat):Prop where
 glo:w.heap.size<=g
 ghi:g<W.heap.size
 fz:∀j,W.frozen? ⟨g,j,vn⟩=vq
 done:∀i,i<k->W.cell? ⟨g,i*2,vn⟩=vp (va (vp ⟨A i,0,vn⟩) (rowAt Ws i).length (rowAt Ws i).length)/\W.cell? ⟨g,i*2+1,vn⟩=vp (va (vp ⟨B i,0,vn⟩) (rowAt Ws i).length (rowAt Ws i).length)
 todo:∀i,k<=i->i<m->W.cell? ⟨g,i*2,vn⟩=vp (va vn 0 0)/\W.cell? ⟨g,i*2+1,vn⟩=vp (va vn 0 0)
 ws:∀i,i<k->w.heap.size<=A i/\A i≠g/\WRow W (A i) ((rowAt Ws i).map Prod.fst)
 fs:∀i,i<k->w.heap.size<=B i/\B i≠g/\BRow W (B i) ((rowAt Ws i).map Prod.snd)
 bel:vx w.heap.size w W
theorem HJ.below{A B:Nat->Nat}(h:HJ w W g m Z k A B)(E:vx W.heap.size W W'):HJ w W' g m Z k A B:=by have H:w.heap.size<=W.heap.size:=h.bel.size;refine⟨h.glo,VC h.ghi E.size,λj=> ?_,λi hi=>⟨?_,?_⟩,λi G F=>⟨?_,?_⟩,λi hi=>⟨(h.ws i hi).1,(h.ws i hi).2.1,(h.ws i hi).2.2.below E (h.ws i hi).2.2.lt⟩,λi hi=>⟨(h.fs i hi).1,(h.fs i hi).2.1,(h.fs i hi).2.2.below E (h.fs i hi).2.2.lt⟩,h.bel.trans (E.mono H)⟩;rw[E.frozen (p:=⟨g,j,vn⟩) h.ghi];exact h.fz j;rw[E.cell (p:=⟨g,i*2,vn⟩) h.ghi];exact(h.done i hi).1;rw[E.cell (p:=⟨g,i*2+1,vn⟩) h.ghi];exact(h.done i hi).2;rw[E.cell (p:=⟨g,i*2,vn⟩) h.ghi];exact(h.todo i G F).1;rw[E.cell (p:=⟨g,i*2+1,vn⟩) h.ghi];exact(h.todo i G F).2
theorem HJ.next{A B:Nat->Nat}(h:HJ w W g m Z k A B)(H:k<m)(a b:Nat)(F:w.heap.size<=a/\a≠g)(G:w.heap.size<=b/\b≠g)(U:WRow W a ((rowAt Z k).map Prod.fst))(I:BRow W b ((rowAt Z k).map Prod.snd))(E:Nat)(ae:E=(rowAt Z k).length):HJ w ((W.setCell ⟨g,k*2,vn⟩ (va (vp ⟨a,0,vn⟩) E E)).setCell ⟨g,k*2+1,vn⟩ (va (vp ⟨b,0,vn⟩) E E)) g m Z (k+1) (λi=>if i=k then a else A i) (λi=>if i=k then b else B i):=by
 subst ae
 have o:∀j x y,j≠k*2->j≠k*2+1->((W.setCell ⟨g,k*2,vn⟩ x).setCell ⟨g,k*2+1,vn⟩ y).cell? ⟨g,j,vn⟩=W.cell? ⟨g,j,vn⟩:=λj x y ag e2=>
  (K4 _ _ _ _ uC).trans (K4 _ _ _ _ uC)
 have ac:∀x y,((W.setCell ⟨g,k*2,vn⟩ x).setCell ⟨g,k*2+1,vn⟩ y).cell? ⟨g,k*2,vn⟩=vp x:=λx y=>
  (K4 _ _ _ _ uC).trans (P1 _ _ _ (h.todo k (VA _) H).1)
 have aa:∀x y,((W.setCell ⟨g,k*2,vn⟩ x).setCell ⟨g,k*2+1,vn⟩ y).cell? ⟨g,k*2+1,vn⟩=vp y:=λx y=>
  P1 _ _ _ ((K4 _ _ _ _ uC).trans (h.todo k (VA _) H).2)
 refine⟨h.glo,by simpa using h.ghi,λj=>by simp[h.fz j],λi hi=> ?_,λi af O=> ?_,λi hi=> ?_,λi hi=> ?_,(h.bel.setCell (p:=⟨g,k*2,vn⟩) h.glo _).setCell (p:=⟨g,k*2+1,vn⟩) h.glo _⟩;by_cases e:i=k;subst e;simp only[RZ];exact⟨ac _ _,aa _ _⟩;simp only[A0 e];rw[o _ _ _ om om,o _ _ _ om om];exact h.done i om;rw[o _ _ _ om om,o _ _ _ om om];exact h.todo i om O;by_cases e:i=k;subst e;simp only[RZ];exact⟨F.1,F.2,(U.other (a:=⟨g,i*2,vn⟩) (λe=>F.2 e.symm) _).other (a:=⟨g,i*2+1,vn⟩) (λe=>F.2 e.symm) _⟩;simp only[A0 e];obtain⟨b7,bh,cq⟩:=h.ws i om;exact kH;by_cases e:i=k;subst e;simp only[RZ];exact⟨G.1,G.2,(I.other (a:=⟨g,i*2,vn⟩) (λe=>G.2 e.symm) _).other (a:=⟨g,i*2+1,vn⟩) (λe=>G.2 e.symm) _⟩;simp only[A0 e];obtain⟨b7,bh,cq⟩:=h.fs i om;exact kH
theorem Nm:∀xs ys:List Int,((F1 xs ys).filter Prod.snd).length=xs.length
 | [],ys=>by
  rw[Lx]
  simp
 |x::xs,[]=>by
  rw[Pn,List.filter_cons_of_pos oS,VG,Nm xs []]
  simp
 |x::xs,y::ys=>by
  rw[Kc]
  split
  . rw[List.filter_cons_of_pos oS,VG,Nm xs (y::ys)];simp
  . rw[List.filter_cons_of_neg oS,Nm (x::xs) ys]
termination_by xs ys=>xs.length+ys.length
theorem Hi(r:List (Int×Bool))(t:Nat):Ca r t<=(r.filter Prod.snd).length:=by unfold Ca;have h:=((List.take_sublist t r).filter Prod.snd).length_le;exact h
theorem Ot(r:List (Int×Bool))(t:Nat):Ca r t<=t:=by unfold Ca;have h:=List.length_filter_le Prod.snd (r.take t);have E:(r.take t).length<=t:=oO;omega
theorem Nk(r:List (Int×Bool))(t:Nat)(H:t<=r.length):t-Ca r t<=r.length-(r.filter Prod.snd).length:=by(have G:(r.filter Prod.snd).length=((r.take t).filter Prod.snd).length+((r.drop t).filter Prod.snd).length:=by rw[<-VB,<-List.filter_append,YE]);have E:=List.length_filter_le Prod.snd (r.drop t);have I:(r.drop t).length=r.length-t:=oS;have F:=Ot r t;unfold Ca at*;omega
theorem Hl(W:List Int)(k:Nat):(rowAt W (k+1)).length=W.length+(rowAt W k).length/2:=by rw[rowAt,Bn,Fc,WP]
theorem Dt(W:List Int):∀k,((rowAt W k).filter Prod.snd).length=W.length
 |0=>by rw[rowAt,Nm]
 |k+1=>by rw[rowAt,Nm]
theorem Yd{W:List Int}(E:1<=W.length):∀k,2*W.length<=(rowAt W k).length+1+(W.length-1)/2^k
 |0=>by rw[rowAt,Bn];simp;omega
 |k+1=>by have ih:=Yd E k;(have e:(W.length-1)/2^(k+1)=(W.length-1)/2^k/2:=by rw[XI,ZX]);rw[Hl,e];generalize (W.length-1)/2^k=x at*;omega
theorem Yc(W:List Int)(m:Nat)(E:1<=W.length)(F:1<=m)(H:W.length<=2^m):2*(W.length-1)<=(rowAt W (m-1)).length:=by have h:=Yd E (m-1);(have G:(W.length-1)/2^(m-1)<2:=by rw[Nat.div_lt_iff_lt_mul (Nat.pow_pos od)];(have:2*2^(m-1)=2^m:=by obtain⟨q,rfl⟩:∃q,m=q+1:=⟨m-1,om⟩;rw[YH,XI,YM]);omega);omega
theorem Mu{W:List Int}(m:Nat)(F:1<=W.length)(E:1<=m)(H:W.length<=2^m):∀i,i<m->Dc W m i<=(rowAt W (m-1-i)).length
 |0,_=>by rw[Dc];exact Yc W m F E H
 |i+1,hi=>by have ih:=Mu m F E H i om;have I:=Nk _ _ ih;obtain⟨q,G⟩:∃q,m-1-i=q+1:=⟨m-1-i-1,om⟩;have O:m-1-(i+1)=q:=om;rw[Dt,G,Hl]at I;rw[Dc,O,G];omega
theorem Zl(W:List Int)(m i:Nat):Bg W m i<=W.length:=by have:=Hi (rowAt W (m-1-i)) (Dc W m i);rw[Dt]at this;exact this
theorem Qo(W:List Int)(m i:Nat):Bg W m i<=Dc W m i:=Ot _ _
theorem Sx(W:List Int)(m i:Nat):Dc W m (i+1)=2*(Dc W m i-Bg W m i):=rfl
theorem Eu(n:Nat)(P:List Nat)(W:List Int)(m:Nat):∀i,(Fh n P W m i).length=n
 |0=>by simp[Fh]
 |i+1=>by rw[Fh,Cc,Eu n P W m i]
theorem Qj(n:Nat)(P:List Nat)(W:List Int)(m:Nat)(E:P.length<=288):∀i,∀j,0<=(Fh n P W m i).getD j 0/\(Fh n P W m i).getD j 0<=288*i
 |0,j=>by simp only[Fh];by_cases h:j<n;simp[List.getD,h];simp[List.getD,h]
 |i+1,j=>by have h:=Mh (P.take (Bg W m i)) (Qj n P W m E i) j;have F:(P.take (Bg W m i)).length<=288:=oO;rw[Fh];omega
theorem BN.lt(h:BN l P):∀p∈P,p<l.length:=λp E=>QM l _ p (h.perm.mem_iff.1 E)
theorem BN.length(h:BN l P):P.length=(wpl l l.length).length:=h.perm.length_eq
def Zcs:List Int->Int
 | []=>0
 |x::xs=>x+Zcs xs
theorem Zk(r:List (Int×Bool)):Ca r 0=0:=by simp[Ca]
theorem Qg(x:Int)(r:List (Int×Bool))(t:Nat):Ca ((x,vr)::r) (t+1)=Ca r t+1:=by simp[Ca]
theorem Ml(x:Int)(r:List (Int×Bool))(t:Nat):Ca ((x,vq)::r) (t+1)=Ca r t:=by simp[Ca]
theorem FW(ys:List Int):∀t,Ca (ys.map λy=>(y,vq)) t=0:=by
 induction ys with
 |nil=>intro t;simp[Ca]
 |cons y ys ih=>
  intro t
  cases t with
  |zero=>exact Zk _
  |succ t=>rw[WN,Ml,ih]
theorem Nn:∀(xs ys:List Int) (t:Nat),(((F1 xs ys).take t).map Prod.fst).Perm (xs.take (Ca (F1 xs ys) t)++ys.take (t-Ca (F1 xs ys) t))
 |xs,ys,0=>by rw[Zk];simp
 | [],ys,t+1=>by
  rw[Lx,FW]
  simp[ZM]
 |x::xs,[],t+1=>by
  have ih:=Nn xs [] t
  rw[Pn,YC,WN,Qg,YC]
  simp only[List.take_nil,XB]at*
  exact List.Perm.cons x ih
 |x::xs,y::ys,t+1=>by
  rw[Kc]
  split
  . have ih:=Nn xs (y::ys) t
    rw[YC,WN,Qg,YC,show t+1-(Ca (F1 xs (y::ys)) t+1)=t-Ca (F1 xs (y::ys)) t by omega]
    exact List.Perm.cons x ih
  . have ih:=Nn (x::xs) ys t
    have E:=Ot (F1 (x::xs) ys) t
    rw[YC,WN,Ml,show t+1-Ca (F1 (x::xs) ys) t=(t-Ca (F1 (x::xs) ys) t)+1 by omega,YC]
    exact(List.Perm.cons y ih).trans List.perm_middle.symm
termination_by xs ys=>xs.length+ys.length
abbrev Up(xs:List Int):Prop:=xs.Pairwise (· <= ·)
theorem Y1:∀xs ys:List Int,Up xs->Up ys->Up ((F1 xs ys).map Prod.fst)
 | [],ys,_,h=>by rw[Lx,List.map_map];simpa[ZM]using h
 |x::xs,[],h,h2=>by
  have h:=XO.1 h
  rw[Pn,WN]
  refine XO.2 ⟨λz E=> ?_,Y1 xs [] h.2 h2⟩
  rcases Ho xs [] z E with E|E
  . exact h.1 z E
  . cases E
 |x::xs,y::ys,h,h2=>by
  have H:=XO.1 h
  have G:=XO.1 h2
  rw[Kc]
  split
  . rename_i F
    rw[WN]
    refine XO.2 ⟨λz E=> ?_,Y1 xs (y::ys) H.2 h2⟩
    rcases Ho xs (y::ys) z E with E|E
    . exact H.1 z E
    . rcases VV.1 E with rfl|E
      . exact F
      . exact Int.le_trans F (G.1 z E)
  . rename_i F
    rw[WN]
    refine XO.2 ⟨λz E=> ?_,Y1 (x::xs) ys h G.2⟩
    show y<=z
    rcases Ho (x::xs) ys z E with E|E
    . rcases VV.1 E with rfl|E
      . omega
      . have:=H.1 z E;omega
    . exact G.1 z E
termination_by xs ys=>xs.length+ys.length
theorem Z75:∀xs:List Int,Up xs->Up (Io xs)
 | [],_=>by simp[Io]
 | [x],_=>by simp[Io]
 |x::y::t,h=>by have F:=XO.1 h;have E:=XO.1 F.2;rw[Io];refine XO.2 ⟨λz H=> ?_,Z75 t E.2⟩;obtain⟨a,b,G,hb,rfl⟩:=D6 t z H;have I:=F.1 a (by simp[G]);have e2:=E.1 b hb;show x+y<=a+b;omega
theorem C4{W:List Int}(h:Up W):∀k,Up ((rowAt W k).map Prod.fst)
 |0=>by rw[rowAt];exact Y1 W [] h .nil
 |k+1=>by rw[rowAt];exact Y1 W _ h (Z75 _ (C4 h k))
theorem Nb(W:List Int)(h:∀x∈W,0<x):∀k,∀x∈(rowAt W k).map Prod.fst,0<x
 |0,x,hx=>by rw[rowAt]at hx;rcases Ho W [] x hx with E|E;exact h x E;. cases E
 |k+1,x,hx=>by rw[rowAt]at hx;rcases Ho W _ x hx with E|E;exact h x E;obtain⟨a,b,F,hb,rfl⟩:=D6 _ x E;have G:=Nb W h k a F;have e2:=Nb W h k b hb;omega
def Dx(W:List Int):Nat->List Int
 |0=> []
 |k+1=>Io ((rowAt W k).map Prod.fst)
theorem Ff(W:List Int):∀k,rowAt W k=F1 W (Dx W k)
 |0=>rfl
 |k+1=>rfl
theorem Z6r(h:Up xs)(F:i<=j)(E:j<xs.length):xs.getD i 0<=xs.getD j 0:=by by_cases e:i=j;subst e;exact Int.le_refl _;have:=(YK.1 h) i j om E om;simpa[List.getD,E,show i<xs.length by omega]using this
theorem Iu(F:i<t)(G:i<xs.length):xs.getD i 0∈xs.take t:=by(have:(xs.take t).getD i 0=xs.getD i 0:=by simp[List.getD,F]);rw[<-this];have E:i<(xs.take t).length:=oO;simp only[List.getD,VP E,ZG];exact WO _
theorem AP{W:List Int}(F:Up W)(I:∀x∈W,0<x)(ac:2<=W.length):∀k,W.length-1<=(Dx W k).length->(Dx W k).getD (W.length-2) 0<W.getD (W.length-1) 0->False
 |0,h,_=>by simp[Dx]at h;omega
 |k+1,h,h2=>by(have Z:(Dx W (k+1)).length=(rowAt W k).length/2:=by rw[Dx,Fc,WP]);rw[Z]at h;(have G:2*W.length-3<((rowAt W k).map Prod.fst).length:=by rw[WP];omega);have ah:(Dx W (k+1)).getD (W.length-2) 0=((rowAt W k).map Prod.fst).getD (2*(W.length-2)) 0+((rowAt W k).map Prod.fst).getD (2*(W.length-2)+1) 0:=Rg _ _ (by rw[WP];omega);have al:0<((rowAt W k).map Prod.fst).getD (2*(W.length-2)) 0:=Nb W I k _ (by have aa:2*(W.length-2)<((rowAt W k).map Prod.fst).length:=om;simp only[List.getD,VP aa,ZG];exact WO _);(have ai:((rowAt W k).map Prod.fst).getD (2*W.length-3) 0<W.getD (W.length-1) 0:=by rw[show 2*W.length-3=2*(W.length-2)+1 by omega];omega);(have O:∀z∈((rowAt W k).take (2*W.length-2)).map Prod.fst,z<W.getD (W.length-1) 0:=by intro z H;rw[List.map_take]at H;obtain⟨i,hi,rfl⟩:=XP H;(have ak:i<2*W.length-2:=by simp at hi;omega);(have af:i<((rowAt W k).map Prod.fst).length:=by simp at hi;simp;omega);have:=Z6r (C4 F k) (i:=i) (j:=2*W.length-3) om G;(have e:((rowAt W k).map Prod.fst).getD i 0=(((rowAt W k).map Prod.fst).take (2*W.length-2))[i]:=by simp only[List.getD,VP af,ZG,YV]);rw[e]at this;omega);have E:=Nn W (Dx W k) (2*W.length-2);rw[<-Ff]at E;have ap:=fQ;(have ag:2*W.length-2-Ca (rowAt W k) (2*W.length-2)<=(Dx W k).length:=by have U:=Nk (rowAt W k) (2*W.length-2) (by rw[WP]at G;omega);have ao:=nX;rw[Dt]at U;omega);by_cases ae:Ca (rowAt W k) (2*W.length-2)=W.length;have:W.getD (W.length-1) 0<W.getD (W.length-1) 0:=O _ (E.mem_iff.2 (List.mem_append_left _ (by rw[ae];exact Iu om om)));omega;have aj:=pN;exact AP F I ac k om (O _ (E.mem_iff.2 (List.mem_append_right _ (Iu om om))))
theorem J9:∀(xs ys:List Int) (t i j:Nat),Up xs->Ca (F1 xs ys) t<=i->i<xs.length->j<t-Ca (F1 xs ys) t->j<ys.length->ys.getD j 0<xs.getD i 0
 |xs,ys,0,i,j,_,_,_,h,_=>om
 | [],ys,t+1,i,j,_,_,h,_,_=>by simp at h
 |x::xs,[],t+1,i,j,_,_,_,_,h=>by simp at h
 |x::xs,y::ys,t+1,i,j,hu,h1,h2,h3,h4=>by
  have G:=XO.1 hu
  rw[Kc]at h1 h3
  by_cases F:x<=y
  . rw[A1 F,Qg]at h1 h3
    obtain⟨E,rfl⟩:∃E,i=E+1:=⟨i-1,om⟩
    have:=J9 xs (y::ys) t E j G.2 om (by simpa using h2) om h4
    simpa using this
  . rw[A0 F,Ml]at h1 h3
    have I:x<=(x::xs).getD i 0:=by
     cases i with
     |zero=>simp
     |succ i=>
      have hi:i<xs.length:=by simpa using h2
      have:(x::xs).getD (i+1) 0=xs[i]:=by simp[List.getD,hi]
      rw[this]
      exact G.1 _ (WO _)
    cases j with
    |zero=>
     have:(y::ys).getD 0 0=y:=oS
     omega
    |succ j=>
     have H:=Ot (F1 (x::xs) ys) t
     have:=J9 (x::xs) ys t i j hu h1 h2 om (by simpa using h4)
     simpa using this
termination_by xs ys=>xs.length+ys.length
theorem Z31{W:List Int}(E:Up W)(F:∀x∈W,0<x)(O:2<=W.length)(k:Nat)(G:2*W.length-2<=(rowAt W k).length):Ca (rowAt W k) (2*W.length-2)=W.length:=by have Z:=fQ;rcases YN (Ca (rowAt W k) (2*W.length-2)) W.length with H|H;exfalso;have aa:=nX;have I:=Nk (rowAt W k) (2*W.length-2) G;rw[Dt]at I;have U:=pN;exact AP E F O k om (J9 W (Dx W k) (2*W.length-2) (W.length-1) (W.length-2) E qAS om qAS om);omega
theorem CO(a:Option vw)(E:Nat)(F:Int)(w:wd)(G:288<ac)(H:ac<=9223372036854775807):vu v8 257 #[va a ac E,so vh F] w λe w'=>e=vm (so vh 2)/\w'=w:=by have h:(288:Int)<ac:=om;go_enter func257,ntmps257;go_wp2;go_ret;exact⟨rfl,rfl⟩
theorem Z2c(Z:Nat)(af:Int)(hl:l.length=G)(al:G<=288)(az:AL vh w a l)(ao:ac<G)(H:okW (l.getD ac 0)=vq)(F:∀j,j<ac->okW (l.getD j 0)=vr):vu v8 257 #[va a G Z,so vh af] w λe w'=>e=vm (so vh 3)/\w'=w:=by obtain⟨b,o,rfl,hb,az⟩:∃b o,a=vp ⟨b,o,vn⟩/\b<w.heap.size/\Row vh w b o l:=vW;have ae:=Ab az;have U:=Ab F;clear az F;go_enter func257,ntmps257;go_wp2;go_loop [5,7,13] (λu y i=>∃k:Nat,k<=ac/\i=so vh k/\u=so vh ((wpl l k).length:Nat)) (λ_ _ i=>G-(vy i).toNat);exact zG;obtain⟨k,ai,rfl,rfl⟩:=hrel;have ap:=Sg l k;have c1:=Aa ae k om;by_cases O:k<ac;(. have ag:=IQ (U k O);have aa:=fZ;generalize l.getD k 0=x at*;generalize (wpl l k).length=u at*;obtain⟨aj,ah⟩:=ag;by_cases ar:0<x;exact wI;exact wH);. obtain rfl:k=ac:=om;generalize l.getD k 0=x at*;generalize (wpl l k).length=u at*;have I:=X5 H;have E:x<0\/1000000<x:=om;clear I H;rcases E with E|E;(. go_wp2;go_ret;exact⟨rfl,rfl⟩);. have ak:¬(x<0):=om;go_wp2;go_ret;exact⟨rfl,rfl⟩
theorem PH(af:Nat)(E:Int)(ao:l.length=ac)(ap:ac<=288)(O:AL vh w a l)(G:∀j,j<ac->okW (l.getD j 0)=vr)(r:Int)(hr:vz (r=if ¬(1<=E/\E<=15)then 3 else if 2^E.toNat<(wpl l ac).length then 11 else 0)):vu v8 257 #[va a ac af,so vh E] w λe w'=>e=vm (so vh r)/\w'=w:=by have ck:=Ab O;have ae:=Ab G;clear O G;go_enter func257,ntmps257;go_wp2;go_loop [5,7,13] (λu y i=>∃k:Nat,k<=ac/\i=so vh k/\u=so vh ((wpl l k).length:Nat)) (λ_ _ i=>ac-(vy i).toNat);exact zG;obtain⟨k,ai,rfl,rfl⟩:=hrel;have av:=Sg l k;by_cases U:k<ac;(. have cw:k<l.length:=om;obtain⟨b,o,rfl,hb,I⟩:∃b o,a=vp ⟨b,o,vn⟩/\b<w.heap.size/\Row vh w b o l:=xP;have c1:=I k cw;have ag:=IQ (ae k U);have aa:=fZ;clear I;generalize l.getD k 0=x at*;generalize (wpl l k).length=u at*;obtain⟨al,ah⟩:=ag;by_cases ar:0<x;exact wI;exact wH);. obtain rfl:k=ac:=om;generalize (wpl l k).length=u at*;by_cases au:E<1;exact vG;. by_cases ak:15<E;exact vG;. obtain⟨m,rfl⟩:=WH (show 0<=E by omega);rw[A0 om]at hr;(have H:vz (wrap64 (2^m)=((2^m:Nat):Int)):=by have aj:2^m<=2^15:=VN od om;have Z:((2:Int)^m)=((2^m:Nat):Int):=sW;unfold vz;rw[Z];generalize 2^m=q at*;unfold wrap64;omega);go_wp2;(. (have F:wrap64 (2^m)<(u:Int):=by assumption);rw[Aa H]at F;(have a7:r=11:=by rw[Aa hr,A1 oO]);go_ret;exact⟨by rw[a7];rfl,rfl⟩);. (have F:(u:Int)<=wrap64 (2^m):=by assumption);rw[Aa H]at F;(have a7:r=0:=by rw[Aa hr,A0 oO]);go_ret;exact⟨by rw[a7];rfl,rfl⟩
theorem KX(F:Nat)(E:Int)(G:l.length=ac)(Z:ac<=9223372036854775807)(H:AL vh w a l):vu v8 257 #[va a ac F,so vh E] w λe w'=>e=vm (so vh (W3 l E))/\w'=w:=by by_cases hm:288<ac;(have e:W3 l E=2:=by unfold W3;rw[A1 om]);rw[e];exact CO a F E w hm Z;rcases Oc (λj=>okW (l.getD j 0)) ac with d9|⟨U,O,I,d9⟩;have hn:¬ ∃j,j<l.length/\okW (l.getD j 0)=false:=kR;exact PH F E G om H d9 _ (by unfold W3;rw[A0 om,A0 hn,G];exact rfl);(have e:W3 l E=3:=by unfold W3;rw[A0 om,A1 ⟨U,om,I⟩]);rw[e];exact Z2c F E G om H O I d9
def PE(l s:List Int):Nat->Int
 |0=>0
 |k+1=>PE l s k+l.getD k 0*s.getD k 0
theorem PD(l:List Int)(F:p<xs.length):∀k,PE l (Vy xs p) k=PE l xs k+(if p<k then l.getD p 0 else 0)
 |0=>by simp[PE]
 |k+1=>by rw[PE,PE,PD l F k];(have e:(Vy xs p).getD k 0=if p=k then xs.getD p 0+1 else xs.getD k 0:=by unfold Vy;rw[Nv];by_cases h:p=k;rw[A1 ⟨h,F⟩,A1 h];rw[A0 (λE=>h E.1),A0 h]);rw[e];by_cases h:p=k;subst h;rw[A1 rfl,A0 om,A1 om,Int.mul_add,Int.mul_one];omega;rw[A0 h];by_cases E:p<k;rw[A1 E,A1 om];omega;rw[A0 E,A0 om];omega
def Zb3(W:List Int)(m:Nat):Nat->Int
 |0=>0
 |i+1=>Zb3 W m i+Zcs (W.take (Bg W m i))
def Ze4(W:List Int)(k t:Nat):Int:=Zcs (((rowAt W k).take t).map Prod.fst)
def least(W:List Int)(m:Nat):Int:=if W.length<2 then Zcs W else Ze4 W (m-1) (2*(W.length-1))
theorem Qe(p:Nat):∀(ps:List Nat) (xs:List Int),ps.Nodup->(∀q∈ps,q<xs.length)->(Da xs ps).getD p 0=xs.getD p 0+(if p∈ps then 1 else 0)
 | [],xs,_,_=>by simp[Da]
 |q::ps,xs,hn,h=>by have E:=List.nodup_cons.1 hn;have ih:=Qe p ps (Vy xs q) E.2 (λr hr=>by rw[Mi];exact h r (WL _ hr));show (Da (Vy xs q) ps).getD p 0=_;rw[ih];unfold Vy;rw[Nv];have G:=h q XX;by_cases e:q=p;subst e;rw[A1 ⟨rfl,G⟩,A0 E.1,A1 XX];omega;rw[A0 (λF=>e F.1)];(have:(p∈q::ps)↔p∈ps:=by rw[VV];exact⟨λh=>h.resolve_left (λh=>e h.symm),.inr⟩);simp only[this]
theorem BN.nodup(h:BN l P):P.Nodup:=by refine h.srt.imp ?_;intro a b E e;subst e;omega
theorem BN.mem(h:BN l P)(p:Nat):p∈P↔p<l.length/\0<l.getD p 0:=by rw[h.perm.mem_iff,ED]
theorem BN.up(h:BN l P):Up (P.map λp=>l.getD p 0):=by rw[Up,List.pairwise_map];exact h.srt.imp (λ{a b} hab=>om)
theorem BN.pos(h:BN l P):∀x∈(P.map λp=>l.getD p 0),0<x:=by intro x F;obtain⟨p,E,rfl⟩:=WU.1 F;exact((h.mem p).1 E).2
def Z9(P:List Nat)(W:List Int)(m p:Nat):Nat->Nat
 |0=>0
 |i+1=>Z9 P W m p i+(if p∈P.take (Bg W m i)then 1 else 0)
theorem Z15(P:List Nat)(W:List Int)(m p:Nat):∀i,Z9 P W m p i<=i
 |0=>VA _
 |i+1=>by have:=Z15 P W m p i;rw[Z9];split<;>omega
theorem Z8(P:List Nat)(W:List Int)(m p:Nat)(h:p ∉ P):∀i,Z9 P W m p i=0
 |0=>rfl
 |i+1=>by rw[Z9,Z8 P W m p h i,A0 (λE=>h (VU E))]
theorem JI(P:List Nat)(W:List Int)(m p:Nat)(h:p∈P.take (Bg W m 0)):∀i,1<=i->1<=Z9 P W m p i
 |0,h0=>om
 |1,_=>by rw[Z9,Z9,A1 h];omega
 |i+2,_=>by have:=JI P W m p h (i+1) om;rw[Z9];omega
theorem Mb(n:Nat)(W:List Int)(m p:Nat)(F:P.Nodup)(E:∀q∈P,q<n):∀i,(Fh n P W m i).getD p 0=(Z9 P W m p i:Nat)
 |0=>by simp only[Fh,Z9];by_cases h:p<n<;>simp[List.getD,h]
 |i+1=>by rw[Fh,Qe p _ _ (F.sublist (List.take_sublist _ _)) (λq G=>by rw[Eu];exact E q (VU G)),Mb n W m p F E i,Z9];split<;>simp
theorem BZ{W:List Int}(G:Up W)(E:∀x∈W,0<x)(I:2<=W.length)(F:1<=m)(H:W.length<=2^m):Bg W m 0=W.length:=by have h:=Yc W m om F H;unfold Bg;rw[Dc,show m-1-0=m-1 by omega,show 2*(W.length-1)=2*W.length-2 by omega];exact Z31 G E I (m-1) om
theorem D9(I:H0 l m)(F:BN l P)(p:Nat):0<=(Dd l P m).getD p 0/\(Dd l P m).getD p 0<=m/\(0<(Dd l P m).getD p 0↔p∈P):=by have H:=I.lo;have G:(P.map λp=>l.getD p 0).length=P.length:=oS;unfold Dd;by_cases h:P.length<2;rw[A1 h,Qe p P _ F.nodup (λq O=>by simpa using F.lt q O)];(have e:(List.replicate l.length (0:Int)).getD p 0=0:=by by_cases h:p<l.length<;>simp[List.getD,h]);rw[e];by_cases E:p∈P;simp[E];omega;simp[E];rw[A0 h,Mb _ _ _ _ F.nodup F.lt];have Z:=Z15 P (P.map λp=>l.getD p 0) m p m;refine⟨om,om,?_⟩;by_cases E:p∈P;have U:=JI P (P.map λp=>l.getD p 0) m p (by rw[BZ F.up F.pos om H (by rw[G,F.length];exact I.room),G,ZV];exact E) m H;exact⟨λ_=>E,λ_=>om⟩;rw[Z8 P _ m p E];simp[E]
theorem Iv(l:List Int)(P:List Nat)(m:Nat):(Dd l P m).length=l.length:=by unfold Dd;split;rw[Cc];simp;exact Eu _ _ _ _ _
end Go.Proofs.YtleocpdblhbimaaGreatDoor
