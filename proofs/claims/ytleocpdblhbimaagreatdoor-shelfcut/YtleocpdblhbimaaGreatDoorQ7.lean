import Derived.Test.YtleocpdblhbimaaGreatDoorQ6
import Derived.Deep.OwnRows
set_option linter.unusedVariables false
set_option linter.unusedSimpArgs false
set_option maxHeartbeats 8000000
namespace Go.Proofs.YtleocpdblhbimaaGreatDoor
open Go.RowKit Go.Proofs.Tryz
open Go.Value (int)
open Go.IntKind (i64)
variable{U l xs:List Int}{P:List Nat}{G H N aa ac ae ai ak ar b bl cj co cu g g1 g2 i j k m n p st t:Nat}{a ah:Option Addr}{r:Option Nat}{W W' w w':World}
def Z7r (N bp cap bx bl ol ln lc:Nat)(l:List Int)(L:Nat):Prop:=∀(d:Nat->Int×Int) (a m b:Nat) (w:World),b-a<=L->a<m->m<b->b<=N->Cx bp bx bl ol ln lc l w->
 PC N bp l d w->Stab.Srt Stab.lx d a m->Stab.Srt Stab.lx d m b->Stab.Cross d a m b->
 Calls prog 285 #[.slice (some ⟨bp,0,none⟩) N cap,int i64 a,int i64 m,int i64 b,CF bx] w fun e w'=>e=.returned (.tuple #[])/\∃d',PC N bp l d' w'/\Stab.Moved a b d d'/\Stab.Srt Stab.lx d' a b/\w.grownBy w' (some bp)
structure CSt (N bp bx bl ol ln lc:Nat)(l:List Int)(w W:World)(D:Nat->Int×Int):Prop where
 ps:PC N bp l D W
 grown:w.grownBy W (some bp)
 cx:Cx bp bx bl ol ln lc l W
theorem CSt.next {H E:Nat->Int×Int}(s:CSt N ac G aa ai ak ar l w W H)(p:PC N ac l E W')(g:W.grownBy W' (some ac)):CSt N ac G aa ai ak ar l w W' E:=
 ⟨p,Aj s.grown g,s.cx.grown g⟩
theorem Ir {E H:Nat->Int×Int}{a:Nat}(O:(Stab.Srt Stab.lx E a st/\Stab.Srt Stab.lx E st ac/\Stab.Cross E a st ac)/\(Stab.Srt Stab.lx E ac G/\Stab.Srt Stab.lx E G b/\Stab.Cross E ac G b))(I:Stab.Moved a ac E H)(aa:ac<=G):
 Stab.Srt Stab.lx H ac G/\Stab.Srt Stab.lx H G b/\Stab.Cross H ac G b:=
 ⟨O.2.1.congr (fun k U _=>I.out k om),O.2.2.1.congr (fun k U _=>I.out k om),O.2.2.2.congr (fun k U _=>I.out k om)⟩
set_option maxRecDepth 100000 in
theorem Tz (aa:Nat)(a6:Nat)(jq:Hid (Z7r N H aa ae bl cu co cj l a6))(d:Nat->Int×Int){a:Nat}(ao gy hi:Nat)(ak:N<=288)(cm:b-a<=a6+1)(b8:a+1<m)(c5:m+1<b)(bv:b<=N) (p7:Hid (ao=(a+b)/2)) (j8:Hid ((ao<m/\gy+b=ao+m/\hi=ao)\/ (m<=ao/\gy=a/\hi=m))) (aw:Cx H ae bl cu co cj l w) (ba:PC N H l d w) (bb:Stab.Srt Stab.lx d a m) (bc:Stab.Srt Stab.lx d m b) (ay:Stab.Cross d a m b):Calls prog 285 #[.slice (some ⟨H,0,none⟩) N aa,int i64 a,int i64 m,int i64 b,CF ae] w fun e w'=>e=.returned (.tuple #[])/\∃d',PC N H l d' w'/\Stab.Moved a b d d'/\Stab.Srt Stab.lx d' a b/\w.grownBy w' (some H):=by
 obtain⟨f5,qe,pq,cv,dl⟩:=ydE ba bb bc ay aw;have ct:=dS;have ck:=sP;have af:=gD;obtain⟨cq,bh,bw,cy,cn,ce,b7⟩:=af;have a7:=pR;have h2:=Ab a7;clear ba bb bc ay aw a7;(rcases Aa j8 with ⟨bf,v2,ap⟩|⟨bf,v2,ap⟩);(case' inl=>have bn:((a:Int)+b)/2<(m:Int):=by rw[Aa h2];omega);case' inr=>have bn:¬((a:Int)+b)/2<(m:Int):=by rw[Aa h2];omega
 all_goals
  have p5:=Ab v2;have qb:=Ab ap;clear v2 ap;go_enter func285,ntmps285;go_wp2;go_loopw [20,21,23] (fun av ar ci wr=>∃st r q:Nat,gy<=st/\st<=r/\r<=hi/\av=int i64 st/\ar=int i64 r/\(gy<st->Stab.lx (d (st-1)) (d (ao+m-st)))/\(r<hi->Stab.lx (d (ao+m-1-r)) (d r))/\wr=w.drewN q) (fun av ar _ _=>(intOf ar).toNat-(intOf av).toNat);exact xU;obtain⟨st,r,q,bj,b9,bg,rfl,rfl,af,a3,a8⟩:=hrel;obtain⟨em,fp,gx⟩:=ydC a8 af a3;clear af a3 a8;by_cases b5:st<r
  . obtain⟨c,bq⟩:∃c,c=(st+r)/2:=⟨_,rfl⟩;have bk:st<=c:=om;have cg:c<r:=om;have E:=rG;obtain⟨f,a5⟩:∃f,f=ao+m-1-c:=⟨_,rfl⟩;have bz:(((a:Int)+b)/2+(m:Int)-1-(c:Int)).toNat=f:=tT;have U:(0:Int)<=((a:Int)+b)/2+(m:Int)-1-(c:Int):=tT;have b2:((a:Int)+b)/2+(m:Int)-1-(c:Int)<N:=tT;(have r2:IntKind.i64.wrap (((a:Int)+b)/2+(m:Int)-1-(c:Int))=((a:Int)+b)/2+(m:Int)-1-(c:Int):=by rw[ka3];have:=Aa h2;omega);have ac:=Ab (Stab.cross_less (cv c f om om om om));have ag:=mF;have ax:=fY;have a9:=fun n=>KC ag ax f c om om n;have cc:=(ag c om).1.1;have ca:=(ag f om).1.1;generalize (d c).2=y at*;generalize (d f).2=z at*;have bo:=Ab a9;have az:=Ab a5;have cp:(c:Int)<N:=om;clear bq ag ax a9 a5;go_wp2_with fail;rw[Aa E];go_wp2_with fail;go_quiet ((go_at_call 276;refine kbz (bo _)));rw[I9]
    cases ah:decide ((d f).1<(d c).1)with
    |true=>have ai:=Ab (ac.1 ah);rw[Aa az]at ai;clear ac ah;go_wp2;go_roundw;exact⟨st,c,_,bj,bk,om,rfl,rfl,fp,fun _=>Aa ai,by rw[Aa em,kba]⟩;simp[intOf];omega
    |false=>have ai:=Ab (ac.2 ah);(have bm:Hid (ao+m-(c+1)=f):=by have:=Aa az;unfold Hid;omega);clear ac ah;go_wp2;go_roundw;exact⟨c+1,r,_,om,om,bg,by go_num,rfl,fun _=>by rw[Aa bm];exact Aa ai,gx,by rw[Aa em,kba]⟩;simp[intOf];omega
  . obtain rfl:st=r:=om;have b0:¬(st:Int)<st:=om;obtain⟨al,bu⟩:∃al,al+st=ao+m:=⟨ao+m-st,om⟩;have cw:(ao:Int)+m-(st:Int)=al:=om;have qd:ao+m=st+al:=om;(have qi:m<=al:=by have:=Aa j8;omega);have qz:al<=b:=om;have pw:ao<=al:=om;have cz:=mX;have qu:Hid (a<st->al<b->Stab.lx (d (st-1)) (d al)):=fun c1 c2=>kZ;have c6:Hid (st<m->m<al->Stab.lx (d (al-1)) (d st)):=fun c1 c2=>kU;(have bi:Hid (CSt N H ae bl cu co cj l w wr d):=by rw[Aa em];exact⟨f5.drewN q,Gr (Av _ _) q,dl.drewN q⟩);rw[Aa h2];have G:=bP;clear fp gx bu;rcases G with G|G|G|G|G|G|G;(. have k1:=cK;have k2:=dG;have l1:=cQ;have l2:=fC;have n1:=cD;have n2:=fM;have aj:=Ab G;clear G;go_wp2_with fail;refine(C5 (CF ae) aa d st m al ak (oh aj) (oh aj) (oh aj) bi.ps).mono ?_;rintro e au ⟨rfl,O,g1⟩;have I:=Ab (bi.next O g1);clear O g1;go_wp2_with fail;refine(jq (Stab.rot d st m al) a st ao _ (oh aj) (oh aj) (oh aj) (oh aj) I.cx I.ps cz.1.1 cz.1.2.1 cz.1.2.2).mono ?_;rintro e bd ⟨rfl,d1,U,m1,s1,g2⟩;obtain⟨a4,ff,f9⟩:=ydC (I.next U g2) m1 s1;clear U g2 m1 s1;exact qP);(. have k1:=cK;have k2:=dG;have l1:=cQ;have l2:=fC;have n1:=cD;have n2:=mY;have aj:=Ab G;clear G;go_wp2_with fail;refine(C5 (CF ae) aa d st m al ak (oh aj) (oh aj) (oh aj) bi.ps).mono ?_;rintro e au ⟨rfl,O,g1⟩;have I:=Ab (bi.next O g1);clear O g1;go_wp2_with fail;refine(jq (Stab.rot d st m al) a st ao _ (oh aj) (oh aj) (oh aj) (oh aj) I.cx I.ps cz.1.1 cz.1.2.1 cz.1.2.2).mono ?_;rintro e bd ⟨rfl,d1,U,m1,s1,g2⟩;obtain⟨a4,ff,f9⟩:=ydC (I.next U g2) m1 s1;clear U g2 m1 s1;have eu:=gK;exact qJ);(. have k1:=cK;have k2:=dG;have l1:=mZ;have n1:=cD;have n2:=fM;have aj:=Ab G;clear G;go_wp2_with fail;refine(C5 (CF ae) aa d st m al ak (oh aj) (oh aj) (oh aj) bi.ps).mono ?_;rintro e au ⟨rfl,O,g1⟩;have I:=Ab (bi.next O g1);clear O g1;have a4:=I;obtain⟨d1,cd⟩:=bX;rw[<-cd]at a4;have ff:=bK;have f9:=cU;clear cd;exact qP);(. have k1:=cK;have k2:=dG;have l1:=mZ;have n1:=cD;have n2:=mY;have aj:=Ab G;clear G;go_wp2_with fail;refine(C5 (CF ae) aa d st m al ak (oh aj) (oh aj) (oh aj) bi.ps).mono ?_;rintro e au ⟨rfl,O,g1⟩;have I:=Ab (bi.next O g1);clear O g1;have a4:=I;obtain⟨d1,cd⟩:=bX;rw[<-cd]at a4;have ff:=bK;have f9:=cU;clear cd;have eu:=gK;exact qJ);(. have k1:=nC;have l1:=cQ;have l2:=fC;have n1:=mQ;have aj:=Ab G;clear G;have I:=dK;go_wp2_with fail;refine(jq (Stab.rot d st m al) a st ao _ (oh aj) (oh aj) (oh aj) (oh aj) I.cx I.ps cz.1.1 cz.1.2.1 cz.1.2.2).mono ?_;rintro e bd ⟨rfl,d1,U,m1,s1,g2⟩;obtain⟨a4,ff,f9⟩:=ydC (I.next U g2) m1 s1;clear U g2 m1 s1;have eu:=gK;exact qI);have k1:=nC;have l1:=cQ;have l2:=mR;have n1:=mQ;have aj:=Ab G;clear G;have I:=dK;have a4:=I;obtain⟨d1,cd⟩:=bX;rw[<-cd]at a4;have ff:=bK;have f9:=cW;clear cd;have eu:=gK;exact qI;have k1:=cK;have k2:¬(m:Int)<al:=om;have l1:=cQ;have l2:=mR;have n1:=cD;have n2:=fM;have aj:=Ab G;clear G;have I:Hid (CSt N H ae bl cu co cj l w wr (Stab.rot d st m al)):=sX;have a4:=I;obtain⟨d1,cd⟩:=bX;rw[<-cd]at a4;have ff:=bK;have f9:=cW;clear cd;exact qP
theorem Po (ae E U ah ai af O:Nat)(l:List Int)(G:N<=288):∀L,Z7r N ae E U ah ai af O l L
 |0=>fun d a m b w ap ao aa _ _ _ _ _ _=>om
 |L+1=>fun d a m b w ap ao aa hb I H ac ag hc=>by by_cases ak:m=a+1;exact MY E d (Ab ak) G aa hb I H ag hc;by_cases aj:b=m+1;exact EC E d (Ab aj) G om aa hb I H ac hc;by_cases al:(a+b)/2<m;exact Tz E L (Ab (Po ae E U ah ai af O l G L)) d ((a+b)/2) ((a+b)/2+m-b) ((a+b)/2) G om om om hb (Ab rfl) (Ab (.inl ⟨al,om,rfl⟩)) I H ac ag hc;exact Tz E L (Ab (Po ae E U ah ai af O l G L)) d ((a+b)/2) a m G om om om hb (Ab rfl) (Ab (.inr ⟨om,rfl,rfl⟩)) I H ac ag hc
set_option maxRecDepth 100000 in
theorem Yo (bd:Nat)(d:Nat->Int×Int)(a b:Nat)(b8:N<=288)(bn:a<=b)(bo:b<=N)(bb:Cx H ae bl cu co cj l w)(ja:PC N H l d w)(az:Z36 d a b):Calls prog 284 #[.slice (some ⟨H,0,none⟩) N bd,int i64 a,int i64 b,CF ae] w fun e w'=>e=.returned (.tuple #[])/\∃d',PC N H l d' w'/\Stab.Moved a b d d'/\Stab.Srt Stab.lx d' a b/\w.grownBy w' (some H):=by
 have bi:=rX;have ck:=Ab az;clear ja bb az;go_enter func284,ntmps284;go_wp2;go_loopw [8] (fun ap wr=>∃(i:Nat) (ax:Nat->Int×Int),a<i/\(i<=b\/ (i=a+1/\ax=d))/\ap=int i64 i/\CSt N H ae bl cu co cj l w wr ax/\Stab.Moved a i d ax/\Stab.Srt Stab.lx ax a i) (fun ap _=>b+2-(intOf ap).toNat);exact vQ;obtain⟨i,ax,b0,m7,rfl,c8,jk,a8⟩:=hrel;obtain⟨a9,a6,bm⟩:=ydC c8 jk a8;by_cases aw:i<b
 . have bc:Hid (∀k,a<=k->k<i->(ax k).2<(ax i).2):=fun k ai av=>jG;clear m7 c8 jk a8 bi;go_wp2;go_loopw [9] (fun af wr=>∃j:Nat,a<=j/\j<=i/\af=int i64 j/\CSt N H ae bl cu co cj l w wr (Stab.rot ax j i (i+1))/\(j<i->Stab.lx (ax i) (ax j))) (fun af _=>(intOf af).toNat);exact jR;obtain⟨j,a3,ah,rfl,c8,a4⟩:=hrel;have E:=Ab c8;have bh:=Ab a4
   have I:((a<j->Stab.lx (ax (j-1)) (ax i))->Hid (Stab.Moved a (i+1) d (Stab.rot ax j i (i+1))/\Stab.Srt Stab.lx (Stab.rot ax j i (i+1)) a (i+1))):=fun hl=>
    Ab ⟨(a6.wider (VA _) om om).trans ((Stab.moved_rot ax j i (i+1) ah om).wider a3 om (VA _)),Stab.ins_last a3 ah bm hl bh⟩
   clear c8 a4;by_cases bz:a<j
   . obtain⟨t,rfl⟩:∃t,j=t+1:=⟨j-1,om⟩;rw[YH]at I;(have ak:Stab.rot ax (t+1) i (i+1) (t+1)=ax i:=by unfold Stab.rot;rw[kac om];congr 1;omega);(have au:Stab.rot ax (t+1) i (i+1) t=ax t:=by unfold Stab.rot;rw[kab om,kab om]);have ac:=Ab (Stab.cross_less (bc t om om));have ag:=Stab.rot_down ax (t+1) i om ah;rw[YH]at ag;have aj:=Ab ag;have ar:=Ab I;have al:=fun n=>KC E.ps E.cx (t+1) t om om n;rw[ak,au]at al;have ao:=Ab al;have c1:=(E.ps (t+1) om).1.1;have f1:=(E.ps (t+1) om).1.2;have c2:=(E.ps t om).1.1;have f2:=(E.ps t om).1.2;have G:=Ab (fun n=>PC.sw (E.ps.drewN n) (t+1) t om om);have aa:=Ab (fun n=>PC.c2 (E.ps.drewN n) (t+1) t om om (int i64 (ax t).2));rw[ak]at c1 G;rw[au]at c2 G;clear ak au I ag al;generalize Stab.rot ax (t+1) i (i+1)=D at*;obtain⟨s,a8⟩:∃s,s=t+1:=⟨_,rfl⟩;have ay:=Ab a8;rw[<-a8]at c1 f1 G aa;generalize (ax i).2=x at*;generalize (ax t).2=y at*;have b5:(a:Int)<t+1:=om;have a5:decide ((t:Int)+1>(a:Int))=true:=kap om;have ea:((t:Int)+1).toNat=s:=om;have pa:(0:Int)<=t+1:=om;have bv:(t:Int)+1<(N:Int):=om;have bw:(t:Int)<N:=om;have b7:IntKind.i64.wrap (t:Int)=t:=sZ;clear a8;go_wp2_with fail;go_quiet ((go_at_call 276;refine kbz (ao _)));rw[I9]
     cases U:decide ((ax i).1<(ax t).1)with
     |true=>have ba:=Ab (ac.1 U);(have gd:Hid (CSt N H ae bl cu co cj l w (swC (wr.drewN nq) H x y s t).drew (Stab.rot ax t i (i+1))):=by have ai:=(Aa G) nq;rw[Aa ay,Aa aj,<-Aa ay]at ai;exact E.next ai (Cw (Aj (Gr (Av wr (some H)) nq) (Nu (wr.drewN nq) H x y s t))));obtain⟨u,bg⟩:=(Aa aa) nq;have a7:(wr.drewN nq).cell? ⟨H,s,none⟩=some (int i64 x):=c1;have bf:(wr.drewN nq).cell? ⟨H,t,none⟩=some (int i64 y):=c2;have bj:(wr.drewN nq).frozen? ⟨H,s,none⟩=false:=f1;have bk:(wr.drewN nq).frozen? ⟨H,t,none⟩=false:=f2;unfold swC at gd;clear U G ac ar aj aa ao c1 c2 f1 f2;generalize wr.drewN nq=bq at*;go_wp2_with fail;go_big_region;clear a7 bf bj bk bg;go_wp2;go_roundw;exact⟨t,om,om,by go_num,gd,fun _=>Aa ba⟩;simp[intOf]
     |false=>have O:=Aa ar (fun _=>ac.2 U);have gd:Hid (CSt N H ae bl cu co cj l w (wr.drewN nq) D):=E.next (E.ps.drewN nq) (Gr (Av _ _) nq);clear U ac ar aj G aa ao c1 c2 f1 f2;go_wp2;go_roundw;exact vJ;simp[intOf];omega
   . have bu:¬(a:Int)<j:=om;have a5:decide ((j:Int)>(a:Int))=false:=kak om;have O:=I (fun h=>om);clear I;generalize Stab.rot ax j i (i+1)=D at*;have gd:Hid (CSt N H ae bl cu co cj l w wr.drew D):=E.next (E.ps.drewN 1) (Cw (Av _ _));go_wp2_with fail;go_big_region;(all_goals go_wp2);go_roundw;exact vJ;simp[intOf];omega
 exact xB
set_option maxRecDepth 100000 in
theorem Z8c (aa:Nat)(d:Nat->Int×Int)(ao:N<=288)(bb:Cx H ae bl cu co cj l w)(ja:PC N H l d w)(hr:Z36 d 0 N):Calls prog 283 #[.slice (some ⟨H,0,none⟩) N aa,int i64 N,CF ae] w fun e w'=>e=.returned (.tuple #[])/\∃d',PC N H l d' w'/\Stab.Moved 0 N d d'/\Stab.Srt Stab.lx d' 0 N/\w.grownBy w' (some H):=by have bi:=rX;have ck:=Ab hr;have oe:=mT;have ar:=Ab (Po H aa ae bl cu co cj l ao N);clear ja bb hr;go_enter func283,ntmps283;go_wp2;go_loopw [7,8] (fun U ag wr=>∃(t ac:Nat) (dk:Nat->Int×Int),Hid (ac=t*20)/\ac<=N/\U=int i64 ac/\ag=int i64 ((ac:Int)+20)/\CSt N H ae bl cu co cj l w wr dk/\Stab.Moved 0 N d dk/\Part dk d N 20 t) (fun U _ _=>N+1-(intOf U).toNat);exact yE;obtain⟨t,ac,dk,et,h1,rfl,rfl,I,G,ha⟩:=hrel;obtain⟨a9,ik,ft⟩:=ydC I G ha;have al:Hid (∀e,e<=N->Z36 dk ac e):=fun e a5 i j ai av a4=>jS;clear I G ha bi oe;by_cases aw:ac+20<=N;(. have af:(ac:Int)+20<=(N:Int):=om;have E:=rK;go_wp2_with fail;rw[Aa E];refine(Yo aa dk ac (ac+20) ao om aw a9.cx a9.ps (al (ac+20) aw)).mono ?_;rintro e ax ⟨rfl,d',e5,m2,fe,g2⟩;have bm:=Ab (a9.next e5 g2);exact qV);. have af:¬(ac:Int)+20<=(N:Int):=om;go_wp2_with fail;refine(Yo aa dk ac N ao h1 (VA _) a9.cx a9.ps (al N (VA _))).mono ?_;rintro e ax ⟨rfl,d',e5,m2,fe,g2⟩;have bm:=Ab (a9.next e5 g2);have hs:=Ab (ik.trans (m2.wider (VF _) h1 (VA _)));have ak:Hid (Kt d' N 20/\Cuts d' N 20):=yZ;clear e5 m2 fe g2 a9 ik ft al et h1 aw af;go_wp2;go_loopw [6,7,8,9] (fun ah _ _ _ wr=>∃(B:Nat) (dy:Nat->Int×Int),0<B/\B<=1000/\ah=int i64 B/\CSt N H ae bl cu co cj l w wr dy/\Stab.Moved 0 N d dy/\Kt dy N B/\Cuts dy N B) (fun ah _ _ _ _=>N-(intOf ah).toNat);exact⟨20,d',om,om,rfl,bm,hs,ak.1,ak.2⟩;obtain⟨B,dy,a3,ay,rfl,I,G,ap,l3⟩:=hrel;obtain⟨a9,ik,mg,pi⟩:=ydD I G ap l3;have mh:=pQ;clear I G ap l3 bm hs ak;by_cases az:B<N;(. go_wp2;go_loopw [7,8] (fun U ag wr=>∃(t ac:Nat) (dk:Nat->Int×Int),Hid (ac=t*(2*B))/\ac<=N/\U=int i64 ac/\ag=int i64 ((ac:Int)+2*(B:Int))/\CSt N H ae bl cu co cj l w wr dk/\Stab.Moved 0 N d dk/\Part dk dy N (2*B) t) (fun U _ _=>N+1-(intOf U).toNat);exact yD;obtain⟨t,ac,dk,et,h1,rfl,rfl,I,G,ha⟩:=hrel;obtain⟨eg,hk,ft⟩:=ydC I G ha;clear I G ha mh;by_cases aw:ac+2*B<=N;(. have af:(ac:Int)+2*(B:Int)<=N:=om;have E:=nZ;have aj:=dA;have en:Hid (Stab.Srt Stab.lx dk ac (ac+B)/\Stab.Srt Stab.lx dk (ac+B) (ac+2*B)/\Stab.Cross dk ac (ac+B) (ac+2*B)):=vU;go_wp2_with fail;rw[Aa E,Aa aj];refine(ar dk ac (ac+B) (ac+2*B) _ om om om aw eg.cx eg.ps en.1 en.2.1 en.2.2).mono ?_;rintro e au ⟨rfl,i0,fy,h8,jp,g3⟩;have gd:=Ab (eg.next fy g3);exact qR);. have af:¬(ac:Int)+2*(B:Int)<=N:=om;by_cases hm:ac+B<N;(. have q4:(ac:Int)+B<(N:Int):=om;have aj:=dA;have en:Hid (Stab.Srt Stab.lx dk ac (ac+B)/\Stab.Srt Stab.lx dk (ac+B) N/\Stab.Cross dk ac (ac+B) N):=vS;go_wp2_with fail;rw[Aa aj];refine(ar dk ac (ac+B) N _ om om hm (VA _) eg.cx eg.ps en.1 en.2.1 en.2.2).mono ?_;rintro e au ⟨rfl,i0,fy,h8,jp,g3⟩;have gd:=Ab (eg.next fy g3);exact qZ);exact qW);exact zJ
theorem DD (N:Nat)(U E:Nat)(d:Nat->Int×Int)(af:N<=288)(ae:Cx ac E G aa ai ak l w)(I:PC N ac l d w)(O:Z36 d 0 N):Calls prog 275 #[.slice (some ⟨ac,0,none⟩) N U,CF E] w fun e w'=>e=.returned (.tuple #[])/\∃d',PC N ac l d' w'/\Stab.Moved 0 N d d'/\Stab.Srt Stab.lx d' 0 N/\w.grownBy w' (some ac):=by have ag:=Ab (Z8c U d af ae I O);clear ae I O;go_enter func275,ntmps275;go_wp2_with fail;refine ag.mono ?_;rintro e ah ⟨rfl,h⟩;have H:=Ab h;clear h;go_wp2;go_end0;exact⟨rfl,H⟩
theorem Qs (p:Option Addr)(H G:Nat)(w:World):Calls prog 275 #[.slice p 0 H,CF G] w fun e w'=>e=.returned (.tuple #[])/\w'=w:=by(have aa:∀w,Calls prog 284 #[.slice p 0 H,int i64 0,int i64 0,CF G] w fun e w'=>e=.returned (.tuple #[])/\w'=w:=by intro w;go_enter func284,ntmps284;go_wp2;go_loopw [8] (fun O wr=>O=int i64 1/\wr=w) (fun O _=>0);exact⟨rfl,rfl⟩;obtain⟨rfl,rfl⟩:=hrel;go_wp2;go_end0;exact⟨rfl,rfl⟩);(have ac:∀w,Calls prog 283 #[.slice p 0 H,int i64 0,CF G] w fun e w'=>e=.returned (.tuple #[])/\w'=w:=by intro w;go_enter func283,ntmps283;go_wp2;go_loopw [7,8] (fun E I wr=>E=int i64 0/\I=int i64 20/\wr=w) (fun E _ _=>0);exact jY;obtain⟨rfl,rfl,rfl⟩:=hrel;go_wp2_with fail;refine(aa wr).mono ?_;rintro e U ⟨rfl,rfl⟩;go_wp2;go_loopw [6,7,8,9] (fun E I ae af wr=>E=int i64 20/\wr=U) (fun E _ _ _ _=>0);exact⟨rfl,rfl⟩;obtain⟨rfl,rfl⟩:=hrel;go_wp2;go_end0;exact⟨rfl,rfl⟩);go_enter func275,ntmps275;go_wp2_with fail;refine(ac w).mono ?_;rintro e U ⟨rfl,rfl⟩;go_wp2;go_end0;exact⟨rfl,rfl⟩
structure WRow (w:World)(g:Nat)(xs:List Int):Prop where
 lt:g<w.heap.size
 at_:∀j,j<xs.length->w.cell? ⟨g,j,none⟩=some (int i64 (xs.getD j 0))/\w.frozen? ⟨g,j,none⟩=false
theorem WRow.row (h:WRow w g xs):RowIn .i64 w (some ⟨g,0,none⟩) xs:=.inr ⟨g,0,rfl,h.lt,fun j E=>by rw[VY];exact(h.at_ j E).1⟩
theorem WRow.grown (h:WRow w g xs)(af:w.grownBy w' r)(bk:some g≠r):WRow w' g xs:=by exact xS
theorem WRow.below {B:Nat}(h:WRow w g xs)(E:Below B w w')(H:g<B):WRow w' g xs:=
 ⟨VC h.lt E.size,fun j G=>⟨by rw[E.cell (p:=⟨g,j,none⟩) H];exact(h.at_ j G).1,by rw[E.frozen (p:=⟨g,j,none⟩) H];exact(h.at_ j G).2⟩⟩
theorem WRow.own {B:Nat}(h:w.ownsRow B 3 1 (.slice (some ⟨g,0,none⟩) n ac) n (iv xs)):WRow w g xs:=by refine⟨(h.lt g rfl).2,fun j E=>⟨?_,h.frozenAt j⟩⟩;have hn:=dH;rw[h.cellAt j om];simp[List.getD,E]
theorem WRow.set (h:WRow w g xs)(i:Nat)(hi:i<xs.length)(v:Int):WRow (w.setCell ⟨g,i,none⟩ (int i64 v)) g (xs.set i v):=by exact xI
theorem WRow.other (h:WRow w g xs){a:Addr}(bo:a.block≠g)(v:Value):WRow (w.setCell a v) g xs:=by exact zW
theorem WRow.drew (h:WRow w g xs):WRow w.drew g xs:=⟨h.lt,h.at_⟩
abbrev ni (P:List Nat):List Int:=P.map fun p:Nat=>(p:Int)
def dOf (l:List Int)(P:List Nat)(k:Nat):Int×Int:=(l.getD (P.getD k 0) 0,(P.getD k 0:Nat))
theorem Z8m (l:List Int)(P:List Nat):(Stab.seg (dOf l P) 0 P.length).map (fun x=>x.2.toNat)=P:=by apply XM;simp[Stab.seg];intro i G E;simp[Stab.seg,dOf,List.getD,E]
theorem Z8q {d':Nat->Int×Int}(aj:N=(wpl l l.length).length)(I:PC N ac l d' w')(ah:Stab.Moved 0 N (dOf l (wpl l l.length)) d')(ag:Stab.Srt Stab.lx d' 0 N)(E:P=(Stab.seg d' 0 N).map fun x=>x.2.toNat):RiseOf l P:=by(have ao:P.length=N:=by rw[E];simp[Stab.seg]);(have U:∀i (h:i<P.length),P[i]=(d' i).2.toNat:=by intro i h;simp[E,Stab.seg]);refine⟨?_, ?_⟩;have:=ah.perm.map (fun x:Int×Int=>x.2.toNat);rw[<-E,aj,Z8m]at this;exact this;rw[YK];intro i j hi ae ak;have af:i<N:=om;have H:j<N:=om;obtain⟨_,p,G,al,aa⟩:=I i af;obtain⟨_,q,O,ap,ai⟩:=I j H;have h:=ag i j (VF _) ak H;unfold Stab.lx at h;rw[U i hi,U j ae,G,O,WQ,WQ];rw[G,O,aa,ai]at h;omega
set_option maxRecDepth 100000 in
theorem MI (O:Nat)(hl:l.length=ac)(bv:ac<=288)(E:RowIn .i64 w a l):Calls prog 258 #[.slice a ac O] w fun e w'=>∃v P,e=.returned v/\RiseOf l P/\Below w.heap.size w w'/\((P= []/\v=.slice none 0 0)\/∃g c,v=.slice (some ⟨g,0,none⟩) P.length c/\P.length<=c/\c<=maxLen/\w.heap.size<=g/\WRow w' g (ni P)):=by obtain⟨bz,hi,bj,bu,bw⟩:=kas Ce;have aj:=Ab hl;have ck:=Ab E;have bn:(w.alloc (.cells #[.slice a ac O] 76)).cell? ⟨w.heap.size,0,none⟩=some (.slice a ac O):=oS;clear E;have bg:=Ab ((kaa w.heap.size w).alloc (VA _) (.cells #[.slice a ac O] 76));go_enter func258,ntmps258;go_wp2;go_loopw [3,4,5,8] (fun vo _ _ i wr=>∃k:Nat,k<=ac/\i=int i64 k/\wr.ownsRow (w.heap.size+1) 3 1 vo (wpl l k).length (i64s (wpl l k))/\(wpl l k= []->vo=.slice none 0 0)/\Below (w.heap.size+1) (w.alloc (.cells #[.slice a ac O] 76)) wr) (fun _ _ _ i _=>ac-(intOf i).toNat);exact⟨0,VF _,rfl,⟨rfl,.inl ⟨rfl,rfl⟩⟩,fun _=>rfl,kaa _ _⟩;obtain⟨k,ax,rfl,H,bb,U⟩:=hrel;have ao:=Ab bb;clear bb;have af:=Ab H;have G:=Ab U;have b5:=U.size;simp only[kaf]at b5;by_cases cn:k<ac;(. have cw:k<l.length:=om;obtain⟨b,o,rfl,hb,E⟩:∃b o,a=some ⟨b,o,none⟩/\b<w.heap.size/\Row .i64 w b o l:=xP;have c1:=(G.cell (p:=⟨b,o+k,none⟩) oO).trans ((kam _ _ _ hb).trans (E k cw));have cp:=Sg l k;have I:Hid (wpl l (k+1)=wpl l k++(if 0<l.getD k 0 then [k]else [])):=rfl;clear H U E;generalize l.getD k 0=x at*;by_cases a9:0<x;(. rw[kac a9]at I;go_wp2_with (at_builtin;refine wpList_append_own _ rfl _ _ 76 rfl (w.heap.size+1) 3 bz (int i64 0) 1 8 underlying76 hi bj bu bw rfl od _ _ _ rfl (af.alloc _) ⟨wr.heap.size,0,none⟩ 1 1 [int i64 (k:Int)] rfl rfl qAB qAY ou om oO ?_);intro v' cm ar az _;have b7:=Ab ar;have b8:=Ab ((G.alloc om _).grown az oO (fun k ax=>(af.lt k ax).1));clear ar az;go_wp2;go_roundw;refine⟨k+1,om,by go_num, ?_,fun h=>by rw[Aa I]at h;simp at h,b8⟩;(have e:i64s (wpl l (k+1))=i64s (wpl l k)++ [int i64 (k:Int)]:=by rw[Aa I];simp[i64s]);(have e2:(wpl l (k+1)).length=(wpl l k).length+1:=by rw[Aa I,VB];rfl);rw[e,e2];exact b7;simp[intOf];omega);. rw[kab a9,XB]at I;go_wp2;go_roundw;exact⟨k+1,om,by go_num,by rw[Aa I];exact Aa af,by rw[Aa I];exact Aa ao,G⟩;simp[intOf];omega);. obtain rfl:k=ac:=om;have a4:Hid (Below w.heap.size w wr):=bg.trans (G.mono om);by_cases ak:wpl l k= [];(. have al:=Aa ao ak;subst al;have ci:Hid (RiseOf l []):=⟨by rw[Aa aj,ak],.nil⟩;clear H U;go_wp2_with fail;refine(Qs none 0 w.heap.size wr).mono ?_;rintro e ap ⟨rfl,rfl⟩;go_wp2;go_ret;exact⟨_,[],rfl,ci,a4,.inl ⟨rfl,rfl⟩⟩);. (have cq:0<(wpl l k).length:=by cases h:wpl l k with|nil=>exact absurd h ak|cons=>simp);(obtain⟨g,c,al,aw,ba,bm,bi⟩:∃g c,u3=.slice (some ⟨g,0,none⟩) (wpl l k).length c/\w.heap.size+1<=g/\g<wr.heap.size/\(wpl l k).length<=c/\c<=maxLen:=by rcases H.2 with h|⟨g,c,cur,aa,bh,a7,bo,bq,cu,ct⟩;omega;. refine⟨g,c,aa,bh, ?_,bo,bq⟩;rcases YN g wr.heap.size with h|h;exact h;. rw[XY h]at a7;cases a7);subst al;have cv:=Sg l k;obtain⟨b,o,rfl,hb,E⟩:∃b o,a=some ⟨b,o,none⟩/\b<w.heap.size/\Row .i64 w b o l:=wY;(have av:Cx g w.heap.size b o k O l wr:=by refine⟨(G.cell (p:=⟨w.heap.size,0,none⟩) oS).trans bn,fun j hj=>(G.cell (p:=⟨b,o+j,none⟩) oO).trans ((kam _ _ _ hb).trans (E j hj)),hl,bv, ?_, ?_,ba,om,om⟩;omega;omega);(have a8:PC (wpl l k).length g l (dOf l (wpl l k)) wr:=by intro j hj;refine⟨⟨?_,H.frozenAt j⟩,(wpl l k).getD j 0,rfl, ?_,rfl⟩;rw[H.cellAt j om];simp[dOf,List.getD,hj];have aa:(wpl l k).getD j 0∈wpl l k:=tE;have:=QM l k _ aa;omega);(have bd:Z36 (dOf l (wpl l k)) 0 (wpl l k).length:=by intro i j _ bk hj;have aa:=(YK.1 (GI l k)) i j om hj bk;(have e1:(wpl l k).getD i 0=(wpl l k)[i]' om:=by simp[List.getD,show i<(wpl l k).length by omega]);have e2:(wpl l k).getD j 0=(wpl l k)[j]'hj:=tE;unfold dOf;simp only[];rw[e1,e2];omega);have b9:=Ab (DD (wpl l k).length c w.heap.size _ om av a8 bd);have a5:=Ab aw;clear H U av a8 bd E af G ao aw;generalize bc:(wpl l k).length=N at*;have cg:=Ab bc;clear bc;go_wp2_with fail;refine b9.mono ?_;rintro e ap ⟨rfl,d',ah,au,ay,ai⟩;obtain⟨P,ae⟩:∃P,P=(Stab.seg d' 0 N).map fun x=>x.2.toNat:=⟨_,rfl⟩;(have ag:P.length=N:=by rw[ae];simp[Stab.seg]);(have ce:Hid (RiseOf l P):=by refine Z8q (by rw[Aa aj,Aa cg]) ah ?_ ay ae;rw[Aa aj];exact au);(have bf:Hid (WRow ap g (ni P)):=by refine⟨VC ba ai.size,fun j hj=> ?_⟩;(have a3:j<N:=by simpa[ag]using hj);obtain⟨⟨c0,f0⟩,p,b0,co,cj⟩:=ah j a3;refine⟨?_,f0⟩;rw[c0];(have:(ni P).getD j 0=(d' j).2:=by simp[ae,Stab.seg,List.getD,a3,b0]);rw[this]);have cd:Hid (Below w.heap.size w ap):=a4.grown ai om (fun j h=>by cases h;have:=Aa a5;omega);have a6:=Ab ag;clear ah au ay ai ae ag;go_wp2;go_ret;refine⟨_,P,rfl,ce,cd,.inr ⟨g,c, ?_, ?_,bi, ?_,bf⟩⟩;rw[Aa a6];rfl;rw[Aa a6];exact bm;have:=Aa a5;omega
theorem Nv (xs:List Int)(i j:Nat)(v:Int):(xs.set i v).getD j 0=if i=j/\i<xs.length then v else xs.getD j 0:=by simp only[List.getD];rw[YD];exact zF
theorem Mi (xs:List Int)(p:Nat):(Vy xs p).length=xs.length:=by simp[Vy]
theorem Cc:∀(ps:List Nat) (xs:List Int),(Da xs ps).length=xs.length
 | [],xs=>rfl
 |p::ps,xs=>by show (Da (Vy xs p) ps).length=_;rw[Cc ps,Mi]
theorem PO (xs:List Int)(E:List Nat)(p:Nat):Da xs (E++ [p])=Vy (Da xs E) p:=by simp[Da]
theorem PP {c:Int}(h:∀j,0<=xs.getD j 0/\xs.getD j 0<=c)(p:Nat):∀j,0<=(Vy xs p).getD j 0/\(Vy xs p).getD j 0<=c+1:=by intro j;have E:=h j;have G:=h p;unfold Vy;rw[Nv];split<;>omega
theorem Mh:∀(ps:List Nat) {xs:List Int} {c:Int},(∀j,0<=xs.getD j 0/\xs.getD j 0<=c)->∀j,0<=(Da xs ps).getD j 0/\(Da xs ps).getD j 0<=c+ps.length
 | [],xs,c,h=>by simpa[Da]using h
 |p::ps,xs,c,h=>by intro j;have:=Mh ps (PP h p) j;simp only[VG];show 0<=(Da (Vy xs p) ps).getD j 0/\(Da (Vy xs p) ps).getD j 0<=_;omega
theorem Ke (n c:Nat)(a:Option Addr)(m ae:Nat)(E:List Nat)(aw:xs.length=n)(a6:E.length=m)(ax:n<=288)(az:m<=288)(ac:WRow w g xs)(ag:RowIn .i64 w a (ni E))(ah:∀b o,a=some ⟨b,o,none⟩->b≠g) (I:∀p∈E,p<n) (O:∀j,0<=xs.getD j 0/\xs.getD j 0<=100000):Calls prog 259 #[.slice (some ⟨g,0,none⟩) n c,.slice a m ae] w fun e w'=>e=.returned (.tuple #[])/\WRow w' g (Da xs E)/\w.grownBy w' (some g):=by obtain⟨av,al,ap,au⟩:=ydD ac ag I O;clear ac ag I O;go_enter func259,ntmps259;go_wp2;go_loopw [5,8] (fun _ i wr=>∃k:Nat,k<=m/\i=int i64 k/\WRow wr g (Da xs (E.take k))/\w.grownBy wr (some g)) (fun _ i _=>m-(intOf i).toNat);exact⟨0,VF _,rfl,av,Av _ _⟩;obtain⟨k,ay,rfl,G,H⟩:=hrel;have aa:=Ab G;have ak:=Ab H;by_cases I:k<m;(. have kx:k<E.length:=om;(obtain⟨b,o,rfl,O,af⟩:∃b o,a=some ⟨b,o,none⟩/\b<w.heap.size/\Row .i64 w b o (ni E):=by rcases Aa al with h|h;simp at h;subst h;simp at kx;exact h);have ao:=ah b o rfl;obtain⟨p,ce⟩:∃p,p=E[k]:=⟨_,rfl⟩;(have a5:p<n:=by rw[ce];exact Aa ap _ (WO _));have c1:=H.cell (af k (by simpa using kx)) (by simpa using ao);have e1:(ni E).getD k 0=(p:Int):=tU;rw[e1]at c1;(have a3:(Da xs (E.take k)).length=n:=by rw[Cc,aw]);have ae:=(G.at_ p om).1;have f2:=(G.at_ p om).2;have a8:=Mh (E.take k) au p;have a7:(E.take k).length<=288:=oO;(have ar:Hid (Da xs (E.take (k+1))=(Da xs (E.take k)).set p ((Da xs (E.take k)).getD p 0+1)):=by rw[XH kx,PO,<-ce];exact rfl);have U:=Ab (G.set p om ((Da xs (E.take k)).getD p 0+1));have ai:=Ab (Aj H (Ad wr g p (int i64 ((Da xs (E.take k)).getD p 0+1))));have a4:(p:Int)<n:=om;rw[<-Aa ar]at U;clear G H af ce e1;generalize (Da xs (E.take k)).getD p 0=x at*;go_wp2;go_roundw;exact⟨k+1,om,by go_num,U,ai⟩;simp[intOf];omega);. obtain rfl:k=m:=om;(have aj:Hid (WRow wr g (Da xs E)):=by rw[VQ om]at aa;exact aa);clear G H;go_wp2;go_end0;exact⟨rfl,aj,ak⟩
def part (f:Nat->Int)(m:Nat):Nat->List Int
 |0=>List.replicate m 0
 |k+1=>(part f m k).set k (f k)
theorem Aw (f:Nat->Int)(m:Nat):∀k,(part f m k).length=m
 |0=>by simp[part]
 |k+1=>by rw[part,YA,Aw f m k]
theorem W4 (f:Nat->Int)(m:Nat):∀k j,j<m->(part f m k).getD j 0=if j<k then f j else 0
 |0,j,hj=>by simp[part,List.getD,hj]
 |k+1,j,hj=>by rw[part,Nv,Aw,W4 f m k j hj];exact kL
theorem C9 (f:Nat->Int)(m:Nat)(xs:List Int)(G:xs.length=m)(h:∀j,j<m->xs.getD j 0=f j):part f m m=xs:=by apply XM;rw[Aw,G];intro i E H;rw[Aw]at E;have e1:=W4 f m m i E;rw[kac E,<-h i E]at e1;simpa[List.getD,Aw,E,H]using e1
theorem Ua (n:Nat):(madeCells #[Value.int .i64 0] n).toList=iv (List.replicate n 0):=by rw[kbu];simp
set_option maxRecDepth 100000 in
theorem Zq (au:Nat)(ae:Nat)(hl:l.length=ac)(ai:P.length=m)(a8:m<=288)(bf:ac<=288)(ak:RowIn .i64 w a l)(al:RowIn .i64 w ah (ni P))(G:∀p∈P,p<ac):Calls prog 261 #[.slice a ac au,.slice ah m ae] w fun e w'=>∃g,e=.returned (.slice (some ⟨g,0,none⟩) m m)/\WRow w' g (P.map fun p=>l.getD p 0)/\Below w.heap.size w w'/\w.heap.size<=g:=by obtain⟨ax,hi,ap,av,i1⟩:=kas Ce;obtain⟨ck,aw,ay⟩:=ydC ak al G;clear ak al G;go_enter func261,ntmps261;go_wp2_with (at_make;refine kbl _ rfl _ _ 76 rfl w.heap.size 3 ax (int i64 0) 1 underlying76 hi ap av _ _ _ _ m rfl rfl rfl rfl uR ou oS ?_);intro a6 E bg;have e0:(madeCells #[Value.int .i64 0] m).toList=iv (part (fun k=>l.getD (P.getD k 0) 0) m 0):=Ua m;rw[e0]at E;have U:=WRow.own E;have a3:=Ab U;have ar:=rH;clear E bg e0 U;generalize af:w.heap.size=g at*;have mw:=Ab af;clear af;go_wp2;go_loopw [6,7,13] (fun _ _ i wr=>∃k:Nat,k<=m/\i=int i64 k/\WRow wr g (part (fun k=>l.getD (P.getD k 0) 0) m k)/\Below g w wr) (fun _ _ i _=>m-(intOf i).toNat);exact⟨0,VF _,rfl,a3,ar⟩;obtain⟨k,a7,rfl,hp,I⟩:=hrel;have aa:=Ab hp;have rk:=Ab I;by_cases G:k<m;(. have kx:k<P.length:=om;(obtain⟨b2,o2,rfl,ag,ao⟩:∃b o,ah=some ⟨b,o,none⟩/\b<w.heap.size/\Row .i64 w b o (ni P):=by rcases Aa aw with h|h;simp at h;subst h;simp at kx;exact h);obtain⟨p,ce⟩:∃p,p=P[k]:=⟨_,rfl⟩;(have bc:p<ac:=by rw[ce];exact Aa ay _ (WO _));obtain⟨b,o,rfl,hb,aj⟩:∃b o,a=some ⟨b,o,none⟩/\b<w.heap.size/\Row .i64 w b o l:=wY;rw[Aa mw]at hb ag;have c1:=(I.cell (p:=⟨b2,o2+k,none⟩) ag).trans (ao k (by simpa using kx));have e1:(ni P).getD k 0=(p:Int):=tU;have e2:P.getD k 0=p:=tU;rw[e1]at c1;have ae:=(I.cell (p:=⟨b,o+p,none⟩) hb).trans (aj p om);have a9:=Aw (fun k=>l.getD (P.getD k 0) 0) m k;have ba:=(hp.at_ k om).1;have bd:=(hp.at_ k om).2;(have az:Hid (part (fun k=>l.getD (P.getD k 0) 0) m (k+1)=(part (fun k=>l.getD (P.getD k 0) 0) m k).set k (l.getD p 0)):=by rw[part,e2];exact rfl);have H:=Ab (hp.set k om (l.getD p 0));have a5:=Ab (I.setCell (p:=⟨g,k,none⟩) (VA _) (int i64 (l.getD p 0)));have bb:(p:Int)<ac:=om;rw[<-Aa az]at H;clear hp I aj ao ce e1 e2;generalize (part (fun k=>l.getD (P.getD k 0) 0) m k).getD k 0=y at*;generalize l.getD p 0=x at*;go_wp2;go_roundw;exact⟨k+1,om,by go_num,H,a5⟩;simp[intOf];omega);obtain rfl:k=m:=om;(have O:Hid (WRow wr g (P.map fun p=>l.getD p 0)):=by rw[C9 (fun k=>l.getD (P.getD k 0) 0) k (P.map fun p=>l.getD p 0) (by simp[ai]) (fun j a4=>by simp[List.getD,ai,a4])]at aa;exact aa);exact vA
theorem Fc:∀xs:List Int,(prs xs).length=xs.length/2
 | []=>rfl
 | [x]=>by simp[prs]
 |x::y::t=>by rw[prs,VG,Fc t];simp only[VG];omega
theorem Rg:∀(xs:List Int) (j:Nat),j<xs.length/2->(prs xs).getD j 0=xs.getD (2*j) 0+xs.getD (2*j+1) 0
 | [],j,h=>by simp at h
 | [x],j,h=>by simp at h
 |x::y::t,0,h=>by simp[prs]
 |x::y::t,j+1,h=>by have:=Rg t j (by simp only[VG]at h;omega);rw[prs];simp only[List.getD_cons_succ];rw[this,show 2*(j+1)=2*j+1+1 by omega];simp only[List.getD_cons_succ]
set_option maxRecDepth 100000 in
theorem TM (c:Nat)(H:xs.length=n)(a9:n<=1000)(aj:RowIn .i64 w a xs)(E:∀j,0<=xs.getD j 0/\xs.getD j 0<=1000000000000):Calls prog 278 #[.slice a n c] w fun e w'=>∃g,e=.returned (.slice (some ⟨g,0,none⟩) (n/2) (n/2))/\WRow w' g (prs xs)/\Below w.heap.size w w'/\w.heap.size<=g:=by obtain⟨av,hi,ak,ar,i1⟩:=kas Ce;have au:=Ab aj;have ai:=Ab E;have a5:Hid ((n:Int)/2=((n/2:Nat):Int)):=tI;have ap:Hid (part (fun k=>xs.getD (2*k) 0+xs.getD (2*k+1) 0) (n/2) (n/2)=prs xs):=C9 _ _ _ (by rw[Fc,H]) (fun j az=>Rg xs j (by rw[H];exact az));have bd:2*(n/2)<=n:=om;clear aj E;generalize n/2=m at*;go_enter func278,ntmps278;go_wp2_with (at_make;rw[Aa a5];refine kbl _ rfl _ _ 76 rfl w.heap.size 3 av (int i64 0) 1 underlying76 hi ak ar _ _ _ _ m rfl rfl rfl rfl uR ou oS ?_);intro a6 G bg;have e0:(madeCells #[Value.int .i64 0] m).toList=iv (part (fun k=>xs.getD (2*k) 0+xs.getD (2*k+1) 0) m 0):=Ua m;rw[e0]at G;have af:=WRow.own G;have ay:=Ab af;have ao:=rH;clear G bg e0 af;generalize ag:w.heap.size=g at*;have mw:=Ab ag;clear ag;go_wp2;go_loopw [4,11] (fun _ i wr=>∃k:Nat,k<=m/\i=int i64 k/\WRow wr g (part (fun k=>xs.getD (2*k) 0+xs.getD (2*k+1) 0) m k)/\Below g w wr) (fun _ i _=>m-(intOf i).toNat);exact⟨0,VF _,rfl,ay,ao⟩;obtain⟨k,ba,rfl,hp,I⟩:=hrel;have ae:=Ab hp;have rk:=Ab I;by_cases a7:k<m;(. (obtain⟨b,o,rfl,E,U⟩:∃b o,a=some ⟨b,o,none⟩/\b<w.heap.size/\Row .i64 w b o xs:=by rcases Aa au with rfl|h;simp at H;omega;exact h);rw[Aa mw]at E;obtain⟨s,ah⟩:∃s,s=2*k:=⟨_,rfl⟩;obtain⟨t,ac⟩:∃t,t=2*k+1:=⟨_,rfl⟩;have c1:=(I.cell (p:=⟨b,o+s,none⟩) E).trans (U s om);have c2:=(I.cell (p:=⟨b,o+t,none⟩) E).trans (U t om);have bf:=Aw (fun k=>xs.getD (2*k) 0+xs.getD (2*k+1) 0) m k;have aw:=(hp.at_ k om).1;have a4:=(hp.at_ k om).2;have b1:=Aa ai s;have b2:=Aa ai t;(have ax:Hid (part (fun k=>xs.getD (2*k) 0+xs.getD (2*k+1) 0) m (k+1)=(part (fun k=>xs.getD (2*k) 0+xs.getD (2*k+1) 0) m k).set k (xs.getD s 0+xs.getD t 0)):=by rw[ah,ac];exact rfl);have aa:=Ab (hp.set k om (xs.getD s 0+xs.getD t 0));have a3:=Ab (I.setCell (p:=⟨g,k,none⟩) (VA _) (int i64 (xs.getD s 0+xs.getD t 0)));rw[<-Aa ax]at aa;have ea:(2*(k:Int)).toNat=s:=om;have pa:(0:Int)<=2*(k:Int):=om;have bb:2*(k:Int)<n:=om;have ra:IntKind.i64.wrap (2*(k:Int))=2*(k:Int):=sZ;have ec:(2*(k:Int)+1).toNat=t:=om;have pc:(0:Int)<=2*(k:Int)+1:=om;have bc:2*(k:Int)+1<(n:Int):=om;have bh:IntKind.i64.wrap (2*(k:Int)+1)=2*(k:Int)+1:=sZ;have a8:(k:Int)<m:=om;clear hp I U ah ac;generalize (part (fun k=>xs.getD (2*k) 0+xs.getD (2*k+1) 0) m k).getD k 0=z at*;generalize xs.getD s 0=x at*;generalize xs.getD t 0=y at*;have rs:IntKind.i64.wrap (x+y)=x+y:=sZ;go_wp2_with fail;go_big_region;clear c1 c2 aw a4;have al:=Ab (Ae a3 1);go_wp2;go_roundw;exact⟨k+1,om,by go_num,aa.drew,al⟩;simp[intOf];omega);obtain rfl:k=m:=om;(have O:Hid (WRow wr g (prs xs)):=by rw[Aa ap]at ae;exact ae);exact vA
theorem Z0x:(prog.info? 4).map (fun i=>(i.zero,i.size,i.bytes))=some (some (.bool false),1,1):=oR
structure BRow (w:World)(g:Nat)(xs:List Bool):Prop where
 lt:g<w.heap.size
 at_:∀j,j<xs.length->w.cell? ⟨g,j,none⟩=some (.bool (xs.getD j false))/\w.frozen? ⟨g,j,none⟩=false
theorem BRow.below {B:Nat}{xs:List Bool}(h:BRow w g xs)(E:Below B w w')(H:g<B):BRow w' g xs:=
 ⟨VC h.lt E.size,fun j G=>⟨by rw[E.cell (p:=⟨g,j,none⟩) H];exact(h.at_ j G).1,by rw[E.frozen (p:=⟨g,j,none⟩) H];exact(h.at_ j G).2⟩⟩
theorem BRow.set {xs:List Bool}(h:BRow w g xs)(i:Nat)(hi:i<xs.length)(v:Bool):BRow (w.setCell ⟨g,i,none⟩ (.bool v)) g (xs.set i v):=by exact xI
theorem BRow.other {xs:List Bool}(h:BRow w g xs){a:Addr}(bo:a.block≠g)(v:Value):BRow (w.setCell a v) g xs:=by exact zW
theorem BRow.drew {xs:List Bool}(h:BRow w g xs):BRow w.drew g xs:=⟨h.lt,h.at_⟩
theorem BRow.grown {xs:List Bool}(h:BRow w g xs)(af:w.grownBy w' r)(bk:some g≠r):BRow w' g xs:=by exact xS
theorem WRow.made (w:World)(N:Nat)(t:TypeId)(g:Nat)(E:g=w.heap.size):WRow (w.alloc (.cells (madeCells #[Value.int .i64 0] N) t)) g (List.replicate N 0):=by subst E;exact kE
theorem BRow.made (w:World)(N:Nat)(t:TypeId)(g:Nat)(E:g=w.heap.size):BRow (w.alloc (.cells (madeCells #[Value.bool false] N) t)) g (List.replicate N false):=by subst E;exact kE
theorem WRow.alloc (h:WRow w g xs)(o:Obj):WRow (w.alloc o) g xs:=h.grown (ka8 w o none) oS
theorem BRow.alloc {xs:List Bool}(h:BRow w g xs)(o:Obj):BRow (w.alloc o) g xs:=h.grown (ka8 w o none) oS
def partB (f:Nat->Bool)(m:Nat):Nat->List Bool
 |0=>List.replicate m false
 |k+1=>(partB f m k).set k (f k)
theorem As (f:Nat->Bool)(m:Nat):∀k,(partB f m k).length=m
 |0=>by simp[partB]
 |k+1=>by rw[partB,YA,As f m k]
theorem Z1d (xs:List Bool)(i j:Nat)(v:Bool):(xs.set i v).getD j false=if i=j/\i<xs.length then v else xs.getD j false:=by simp only[List.getD];rw[YD];exact zF
theorem La (f:Nat->Bool)(m:Nat):∀k j,j<m->(partB f m k).getD j false=if j<k then f j else false
 |0,j,hj=>by simp[partB,List.getD,hj]
 |k+1,j,hj=>by rw[partB,Z1d,As,La f m k j hj];exact kL
theorem TJ (f:Nat->Bool)(m:Nat)(xs:List Bool)(G:xs.length=m)(h:∀j,j<m->xs.getD j false=f j):partB f m m=xs:=by apply XM;rw[As,G];intro i E H;rw[As]at E;have e1:=La f m m i E;rw[kac E,<-h i E]at e1;simpa[List.getD,As,E,H]using e1
theorem MN (f:Nat->Bool)(G:f k=false)(H:k<m):partB f m (k+1)=partB f m k:=by apply XM;rw[As,As];intro i E I;rw[As]at E;have e1:=La f m (k+1) i E;have e2:=La f m k i E;simp only[List.getD,As,E,VP,ZG]at e1 e2;rw[e1,e2];by_cases e:i=k;subst e;rw[kac om,kab om,G];by_cases h:i<k;rw[kac h,kac om];rw[kab h,kab om]
theorem Bn:∀xs ys:List Int,(mrg xs ys).length=xs.length+ys.length
 | [],ys=>by simp[Lx]
 |x::xs,[]=>by
  rw[Pn,VG,Bn xs []]
  simp
 |x::xs,y::ys=>by
  rw[Kc]
  split
  . rw[VG,Bn xs (y::ys)];simp;omega
  . rw[VG,Bn (x::xs) ys];simp;omega
termination_by xs ys=>xs.length+ys.length
theorem Z0t:(prog.info? 340).map (·.size)=some 2:=oR
theorem Y5 {o:Nat}{x y:Value}(H:w.cell? ⟨b,o,none⟩=some x)(G:w.cell? ⟨b,o+1,none⟩=some y):(loadVar 340 ⟨b,o,none⟩).run prog w=.ok (.agg #[x,y]) w:=by
 have hl:(loadCells ⟨b,o,none⟩ [x,y].length).run prog w=.ok [x,y].toArray w:=
  run_loadCells_list (P:=prog) w ⟨b,o,none⟩ [x,y] (fun j v E=>by
   match j,E with
   |0,E=>simp at E;subst E;simpa[Addr.add]using H
   |1,E=>simp at E;subst E;simpa[Addr.add]using G)
 obtain⟨i,hi,I⟩:=XK.1 Z0t;simp only[VG,WE,VY,Nat.reduceAdd]at hl;simp[loadVar,kbc,sizeOf,typeInfo,hi,I,hl]
theorem Z4i {G:Func}{p:Tmp}(h:G.results= #[.cell p 340])(E:Array Value)(w:World)(b:Nat)(x y:Value)(H:E.getD p undef=.pointer (some ⟨b,0,none⟩))(U:w.cell? ⟨b,0,none⟩=some x)(O:w.cell? ⟨b,1,none⟩=some y):(results G E).run prog w=.ok (.agg #[x,y]) w:=by(have I:E[p]?.getD undef=.pointer (some ⟨b,0,none⟩):=by simpa using H);simp[results,h,I,asAddr,Y5 U O]
def MgAt (xs ys:List Int)(i j:Nat):Prop:=(mrg xs ys).drop (i+j)=mrg (xs.drop i) (ys.drop j)
theorem Yu {E:Type}(l:List E)(n:Nat)(d:E):l.getD n d=(l.drop n).getD 0 d:=by simp[List.getD]
theorem Kn (h:i<xs.length):xs.drop i=xs.getD i 0::xs.drop (i+1):=by rw[WX h];simp[List.getD,h]
theorem MgAt.one {ys:List Int}(h:MgAt xs ys i j)(H:i<xs.length)(G:¬j<ys.length\/xs.getD i 0<=ys.getD j 0):(mrg xs ys).getD (i+j) (0,false)=(xs.getD i 0,true)/\MgAt xs ys (i+1) j:=by unfold MgAt at*;(have e:mrg (xs.drop i) (ys.drop j)=(xs.getD i 0,true)::mrg (xs.drop (i+1)) (ys.drop j):=by rw[Kn H];by_cases E:j<ys.length;rw[Kn E,Kc,kac (by rcases G with h|h;exact absurd E h;exact h),<-Kn E];rw[show ys.drop j= [] from XE om,Pn]);constructor;rw[Yu,h,e];rfl;rw[show i+1+j=(i+j)+1 by omega,<-YF,h,e];rfl
theorem MgAt.two {ys:List Int}(h:MgAt xs ys i j)(E:j<ys.length)(G:¬i<xs.length\/¬xs.getD i 0<=ys.getD j 0):(mrg xs ys).getD (i+j) (0,false)=(ys.getD j 0,false)/\MgAt xs ys i (j+1):=by unfold MgAt at*;(have e:mrg (xs.drop i) (ys.drop j)=(ys.getD j 0,false)::mrg (xs.drop i) (ys.drop (j+1)):=by rw[Kn E];by_cases hi:i<xs.length;rw[Kn hi,Kc,kab (by rcases G with h|h;exact absurd hi h;exact h)];rw[show xs.drop i= [] from XE om,Lx,Lx];rfl);constructor;rw[Yu,h,e];rfl;rw[show i+(j+1)=(i+j)+1 by omega,<-YF,h,e];rfl
def mf (xs ys:List Int)(k:Nat):Int:=((mrg xs ys).getD k (0,false)).1
def ms (xs ys:List Int)(k:Nat):Bool:=((mrg xs ys).getD k (0,false)).2
structure MgSt (w W:World)(N g1 g2 g6:Nat)(xs ys:List Int)(k:Nat):Prop where
 b1:w.heap.size<g1
 b2:w.heap.size<g2
 b6:w.heap.size<g6
 n12:g1≠g2
 n16:g1≠g6
 n26:g2≠g6
 ws:WRow W g1 (part (mf xs ys) N k)
 fs:BRow W g2 (partB (ms xs ys) N k)
 c0:W.cell? ⟨g6,0,none⟩=some (.slice (some ⟨g1,0,none⟩) N N)
 c1:W.cell? ⟨g6,1,none⟩=some (.slice (some ⟨g2,0,none⟩) N N)
 r0:W.cell? ⟨w.heap.size,0,none⟩=some (.slice none 0 0)
 r1:W.cell? ⟨w.heap.size,1,none⟩=some (.slice none 0 0)
 f0:W.frozen? ⟨w.heap.size,0,none⟩=false
 f1:W.frozen? ⟨w.heap.size,1,none⟩=false
 bel:Below w.heap.size w W
theorem MgSt.drew {ys:List Int}(h:MgSt w W N g1 g2 ac xs ys k):MgSt w W.drew N g1 g2 ac xs ys k:=
 ⟨h.b1,h.b2,h.b6,h.n12,h.n16,h.n26,h.ws.drew,h.fs.drew,h.c0,h.c1,h.r0,h.r1,h.f0,h.f1,Ae h.bel 1⟩
theorem MgSt.set1 {ys:List Int}(h:MgSt w W N g1 g2 ac xs ys k)(E:k<N)(x:Int)(H:mf xs ys k=x)(G:ms xs ys k=false):MgSt w (W.setCell ⟨g1,k,none⟩ (int i64 x)).drew N g1 g2 ac xs ys (k+1):=by have I:=h.b1;have o:∀b o,b≠g1->(W.setCell ⟨g1,k,none⟩ (int i64 x)).drew.cell? ⟨b,o,none⟩=W.cell? ⟨b,o,none⟩:=fun b o hb=>kan _ _ _ _ uS;refine⟨h.b1,h.b2,h.b6,h.n12,h.n16,h.n26, ?_, ?_, ?_, ?_, ?_, ?_, ?_, ?_, ?_⟩;rw[part,H];exact(h.ws.set k (by rw[Aw];exact E) x).drew;rw[MN _ G E];exact(h.fs.other (a:=⟨g1,k,none⟩) h.n12 _).drew;rw[o _ _ (fun e=>h.n16 e.symm)];exact h.c0;rw[o _ _ (fun e=>h.n16 e.symm)];exact h.c1;rw[o _ _ om];exact h.r0;rw[o _ _ om];exact h.r1;show (W.setCell ⟨g1,k,none⟩ (int i64 x)).frozen? _=_;rw[kaw];exact h.f0;show (W.setCell ⟨g1,k,none⟩ (int i64 x)).frozen? _=_;rw[kaw];exact h.f1;exact Ae (h.bel.setCell (p:=⟨g1,k,none⟩) oO _) 1
theorem MgSt.set2 {ys:List Int}(h:MgSt w W N g1 g2 ac xs ys k)(H:k<N)(x:Int)(O:mf xs ys k=x)(I:ms xs ys k=true):MgSt w ((W.setCell ⟨g1,k,none⟩ (int i64 x)).setCell ⟨g2,k,none⟩ (.bool true)).drew N g1 g2 ac xs ys (k+1)/\MgSt w ((W.setCell ⟨g2,k,none⟩ (.bool true)).setCell ⟨g1,k,none⟩ (int i64 x)).drew N g1 g2 ac xs ys (k+1):=by have U:=h.b1;have aa:=h.b2;have o1:∀(V:World) b o v,b≠g1->(V.setCell ⟨g1,k,none⟩ v).cell? ⟨b,o,none⟩=V.cell? ⟨b,o,none⟩:=fun V b o v hb=>kan _ _ _ _ uS;have o2:∀(V:World) b o v,b≠g2->(V.setCell ⟨g2,k,none⟩ v).cell? ⟨b,o,none⟩=V.cell? ⟨b,o,none⟩:=fun V b o v hb=>kan _ _ _ _ uS;(have E:k<(part (mf xs ys) N k).length:=by rw[Aw];exact H);(have G:k<(partB (ms xs ys) N k).length:=by rw[As];exact H);constructor;refine⟨h.b1,h.b2,h.b6,h.n12,h.n16,h.n26, ?_, ?_, ?_, ?_, ?_, ?_, ?_, ?_, ?_⟩;rw[part,O];exact((h.ws.set k E x).other (a:=⟨g2,k,none⟩) (fun e=>h.n12 e.symm) _).drew;rw[partB,I];exact((h.fs.other (a:=⟨g1,k,none⟩) h.n12 _).set k G true).drew;exact(o2 _ _ _ _ (fun e=>h.n26 e.symm)).trans ((o1 _ _ _ _ (fun e=>h.n16 e.symm)).trans h.c0);exact(o2 _ _ _ _ (fun e=>h.n26 e.symm)).trans ((o1 _ _ _ _ (fun e=>h.n16 e.symm)).trans h.c1);exact(o2 _ _ _ _ om).trans ((o1 _ _ _ _ om).trans h.r0);exact(o2 _ _ _ _ om).trans ((o1 _ _ _ _ om).trans h.r1);exact yB;exact yC;exact Ae ((h.bel.setCell (p:=⟨g1,k,none⟩) oO _).setCell (p:=⟨g2,k,none⟩) oO _) 1;refine⟨h.b1,h.b2,h.b6,h.n12,h.n16,h.n26, ?_, ?_, ?_, ?_, ?_, ?_, ?_, ?_, ?_⟩;rw[part,O];exact((h.ws.other (a:=⟨g2,k,none⟩) (fun e=>h.n12 e.symm) _).set k E x).drew;rw[partB,I];exact((h.fs.set k G true).other (a:=⟨g1,k,none⟩) h.n12 _).drew;exact(o1 _ _ _ _ (fun e=>h.n16 e.symm)).trans ((o2 _ _ _ _ (fun e=>h.n26 e.symm)).trans h.c0);exact(o1 _ _ _ _ (fun e=>h.n16 e.symm)).trans ((o2 _ _ _ _ (fun e=>h.n26 e.symm)).trans h.c1);exact(o1 _ _ _ _ om).trans ((o2 _ _ _ _ om).trans h.r0);exact(o1 _ _ _ _ om).trans ((o2 _ _ _ _ om).trans h.r1);exact yB;exact yC;exact Ae ((h.bel.setCell (p:=⟨g2,k,none⟩) oO _).setCell (p:=⟨g1,k,none⟩) oO _) 1
theorem Z9f (w:World)(N:Nat)(xs ys:List Int):MgSt w ((((w.alloc (.cells #[.slice none 0 0,.slice none 0 0] 340)).alloc (.cells (madeCells #[int i64 0] N) 3)).alloc (.cells (madeCells #[.bool false] N) 4)).alloc (.cells #[.slice (some ⟨w.heap.size+1,0,none⟩) N N,.slice (some ⟨w.heap.size+2,0,none⟩) N N] 340)).drew N (w.heap.size+1) (w.heap.size+2) (w.heap.size+3) xs ys 0:=by refine⟨om,om,om,om,om,om,(((WRow.made (w.alloc (.cells #[.slice none 0 0,.slice none 0 0] 340)) N 3 (w.heap.size+1) oS).alloc _).alloc _).drew,((BRow.made ((w.alloc (.cells #[.slice none 0 0,.slice none 0 0] 340)).alloc (.cells (madeCells #[int i64 0] N) 3)) N 4 (w.heap.size+2) oS).alloc _).drew, ?_, ?_, ?_, ?_, ?_, ?_, ?_⟩;(all_goals first|exact Ae (((((kaa w.heap.size w).alloc (VA _) _).alloc oS _).alloc oO _).alloc oO _) 1|skip);all_goals (simp only[World.alloc,World.cell?,World.frozen?,World.drew,YJ,ZE];simp[WV])
theorem Z9e (w:World)(N:Nat)(xs ys:List Int):MgSt w ((((w.alloc (.cells #[.slice none 0 0,.slice none 0 0] 340)).alloc (.cells (madeCells #[int i64 0] N) 3)).alloc (.cells #[.slice (some ⟨w.heap.size+1,0,none⟩) N N,.slice (some ⟨w.heap.size+3,0,none⟩) N N] 340)).alloc (.cells (madeCells #[.bool false] N) 4)).drew N (w.heap.size+1) (w.heap.size+3) (w.heap.size+2) xs ys 0:=by refine⟨om,om,om,om,om,om,(((WRow.made (w.alloc (.cells #[.slice none 0 0,.slice none 0 0] 340)) N 3 (w.heap.size+1) oS).alloc _).alloc _).drew,(BRow.made (((w.alloc (.cells #[.slice none 0 0,.slice none 0 0] 340)).alloc (.cells (madeCells #[int i64 0] N) 3)).alloc (.cells #[.slice (some ⟨w.heap.size+1,0,none⟩) N N,.slice (some ⟨w.heap.size+3,0,none⟩) N N] 340)) N 4 (w.heap.size+3) oS).drew, ?_, ?_, ?_, ?_, ?_, ?_, ?_⟩;(all_goals first|exact Ae (((((kaa w.heap.size w).alloc (VA _) _).alloc oS _).alloc oO _).alloc oO _) 1|skip);all_goals (simp only[World.alloc,World.cell?,World.frozen?,World.drew,YJ,ZE];simp[WV])
theorem Z9d (w:World)(N:Nat)(xs ys:List Int):MgSt w ((((w.alloc (.cells #[.slice none 0 0,.slice none 0 0] 340)).alloc (.cells (madeCells #[.bool false] N) 4)).alloc (.cells (madeCells #[int i64 0] N) 3)).alloc (.cells #[.slice (some ⟨w.heap.size+2,0,none⟩) N N,.slice (some ⟨w.heap.size+1,0,none⟩) N N] 340)).drew N (w.heap.size+2) (w.heap.size+1) (w.heap.size+3) xs ys 0:=by refine⟨om,om,om,om,om,om,((WRow.made ((w.alloc (.cells #[.slice none 0 0,.slice none 0 0] 340)).alloc (.cells (madeCells #[.bool false] N) 4)) N 3 (w.heap.size+2) oS).alloc _).drew,(((BRow.made (w.alloc (.cells #[.slice none 0 0,.slice none 0 0] 340)) N 4 (w.heap.size+1) oS).alloc _).alloc _).drew, ?_, ?_, ?_, ?_, ?_, ?_, ?_⟩;(all_goals first|exact Ae (((((kaa w.heap.size w).alloc (VA _) _).alloc oS _).alloc oO _).alloc oO _) 1|skip);all_goals (simp only[World.alloc,World.cell?,World.frozen?,World.drew,YJ,ZE];simp[WV])
theorem Z9c (w:World)(N:Nat)(xs ys:List Int):MgSt w ((((w.alloc (.cells #[.slice none 0 0,.slice none 0 0] 340)).alloc (.cells (madeCells #[.bool false] N) 4)).alloc (.cells #[.slice (some ⟨w.heap.size+3,0,none⟩) N N,.slice (some ⟨w.heap.size+1,0,none⟩) N N] 340)).alloc (.cells (madeCells #[int i64 0] N) 3)).drew N (w.heap.size+3) (w.heap.size+1) (w.heap.size+2) xs ys 0:=by refine⟨om,om,om,om,om,om,(WRow.made (((w.alloc (.cells #[.slice none 0 0,.slice none 0 0] 340)).alloc (.cells (madeCells #[.bool false] N) 4)).alloc (.cells #[.slice (some ⟨w.heap.size+3,0,none⟩) N N,.slice (some ⟨w.heap.size+1,0,none⟩) N N] 340)) N 3 (w.heap.size+3) oS).drew,(((BRow.made (w.alloc (.cells #[.slice none 0 0,.slice none 0 0] 340)) N 4 (w.heap.size+1) oS).alloc _).alloc _).drew, ?_, ?_, ?_, ?_, ?_, ?_, ?_⟩;(all_goals first|exact Ae (((((kaa w.heap.size w).alloc (VA _) _).alloc oS _).alloc oO _).alloc oO _) 1|skip);all_goals (simp only[World.alloc,World.cell?,World.frozen?,World.drew,YJ,ZE];simp[WV])
theorem Z9b (w:World)(N:Nat)(xs ys:List Int):MgSt w ((((w.alloc (.cells #[.slice none 0 0,.slice none 0 0] 340)).alloc (.cells #[.slice (some ⟨w.heap.size+2,0,none⟩) N N,.slice (some ⟨w.heap.size+3,0,none⟩) N N] 340)).alloc (.cells (madeCells #[int i64 0] N) 3)).alloc (.cells (madeCells #[.bool false] N) 4)).drew N (w.heap.size+2) (w.heap.size+3) (w.heap.size+1) xs ys 0:=by refine⟨om,om,om,om,om,om,((WRow.made ((w.alloc (.cells #[.slice none 0 0,.slice none 0 0] 340)).alloc (.cells #[.slice (some ⟨w.heap.size+2,0,none⟩) N N,.slice (some ⟨w.heap.size+3,0,none⟩) N N] 340)) N 3 (w.heap.size+2) oS).alloc _).drew,(BRow.made (((w.alloc (.cells #[.slice none 0 0,.slice none 0 0] 340)).alloc (.cells #[.slice (some ⟨w.heap.size+2,0,none⟩) N N,.slice (some ⟨w.heap.size+3,0,none⟩) N N] 340)).alloc (.cells (madeCells #[int i64 0] N) 3)) N 4 (w.heap.size+3) oS).drew, ?_, ?_, ?_, ?_, ?_, ?_, ?_⟩;(all_goals first|exact Ae (((((kaa w.heap.size w).alloc (VA _) _).alloc oS _).alloc oO _).alloc oO _) 1|skip);all_goals (simp only[World.alloc,World.cell?,World.frozen?,World.drew,YJ,ZE];simp[WV])
theorem Z9a (w:World)(N:Nat)(xs ys:List Int):MgSt w ((((w.alloc (.cells #[.slice none 0 0,.slice none 0 0] 340)).alloc (.cells #[.slice (some ⟨w.heap.size+3,0,none⟩) N N,.slice (some ⟨w.heap.size+2,0,none⟩) N N] 340)).alloc (.cells (madeCells #[.bool false] N) 4)).alloc (.cells (madeCells #[int i64 0] N) 3)).drew N (w.heap.size+3) (w.heap.size+2) (w.heap.size+1) xs ys 0:=by refine⟨om,om,om,om,om,om,(WRow.made (((w.alloc (.cells #[.slice none 0 0,.slice none 0 0] 340)).alloc (.cells #[.slice (some ⟨w.heap.size+3,0,none⟩) N N,.slice (some ⟨w.heap.size+2,0,none⟩) N N] 340)).alloc (.cells (madeCells #[.bool false] N) 4)) N 3 (w.heap.size+3) oS).drew,((BRow.made ((w.alloc (.cells #[.slice none 0 0,.slice none 0 0] 340)).alloc (.cells #[.slice (some ⟨w.heap.size+3,0,none⟩) N N,.slice (some ⟨w.heap.size+2,0,none⟩) N N] 340)) N 4 (w.heap.size+2) oS).alloc _).drew, ?_, ?_, ?_, ?_, ?_, ?_, ?_⟩;(all_goals first|exact Ae (((((kaa w.heap.size w).alloc (VA _) _).alloc oS _).alloc oO _).alloc oO _) 1|skip);all_goals (simp only[World.alloc,World.cell?,World.frozen?,World.drew,YJ,ZE];simp[WV])
set_option maxRecDepth 100000 in
theorem Z08 {b1:Nat}(i4:Nat){b2:Nat}(o2:Nat)(E af:Nat){ys:List Int}(w:World)(bq:xs.length=ac)(bi:ys.length=E)(c5:ac<=1000)(dl:E<=1000)(cz:ac<=G)(cg:E<=af)(ct:G<=maxLen)(cd:af<=maxLen)(bu:b1<w.heap.size)(sh:b2<w.heap.size)(bw:Row .i64 w b1 i4 xs)(bh:Row .i64 w b2 o2 ys):Calls prog 277 #[.slice (some ⟨b1,i4,none⟩) ac G,.slice (some ⟨b2,o2,none⟩) E af] w fun e w'=>∃g1 g2,e=.returned (.agg #[.slice (some ⟨g1,0,none⟩) (ac+E) (ac+E),.slice (some ⟨g2,0,none⟩) (ac+E) (ac+E)])/\WRow w' g1 ((mrg xs ys).map Prod.fst)/\BRow w' g2 ((mrg xs ys).map Prod.snd)/\Below w.heap.size w w'/\w.heap.size<=g1/\w.heap.size<=g2:=by
 unfold maxLen at ct cd;have ky:=Ab bw;have rs:=Ab bh;obtain⟨N,av⟩:∃N,N=ac+E:=⟨_,rfl⟩;rw[<-av];have cm:=Ab av;have b0:Hid ((ac:Int)+E=(N:Int)):=tI;have cu:=fun W=>run_make_row' (P:=prog) 76 3 (int i64 0) 8 underlying76 Ce rfl .i64 .i64 N om om W;have ck:=fun W=>run_make_row' (P:=prog) 338 4 (.bool false) 1 underlying338 Z0x rfl .i64 .i64 N om om W;(have cn:Hid (MgAt xs ys 0 0):=by unfold Hid MgAt;simp);have b8:Hid (part (mf xs ys) N N=(mrg xs ys).map Prod.fst):=C9 _ _ _ (by rw[WP,Bn,bq,bi,av]) (fun j b7=>by (have:j<(mrg xs ys).length:=by rw[Bn];omega);simp[mf,List.getD,this]);have cw:Hid (partB (ms xs ys) N N=(mrg xs ys).map Prod.snd):=TJ _ _ _ (by rw[WP,Bn,bq,bi,av]) (fun j b7=>by (have:j<(mrg xs ys).length:=by rw[Bn];omega);simp[ms,List.getD,this]);have c6:N<=2000:=om;clear bw bh av;go_enter func277,ntmps277;go_wp2_with fail;rw[Aa b0];rename_i Q K hK
 have al:∀(g1 g2 g6:Nat) (W:World),Hid (MgSt w W N g1 g2 g6 xs ys 0)->K ⟨#[.slice (some ⟨b1,i4,none⟩) ac G,.slice (some ⟨b2,o2,none⟩) E af,undef,undef,.pointer (some ⟨w.heap.size,0,none⟩),int i64 (N:Int),.pointer (some ⟨g6,0,none⟩),undef,.slice (some ⟨b1,i4,none⟩) ac G,int i64 (ac:Int),.slice (some ⟨b2,o2,none⟩) E af,int i64 (E:Int),int i64 (N:Int),int i64 (N:Int),.slice (some ⟨g1,0,none⟩) N N,int i64 (N:Int),.slice (some ⟨g2,0,none⟩) N N,.agg #[.slice (some ⟨g1,0,none⟩) N N,.slice (some ⟨g2,0,none⟩) N N],undef,undef,undef,undef,undef,undef,undef,undef,undef,undef,undef,undef,undef,undef,undef,undef,undef,undef,undef,undef,undef,undef,undef,undef,undef,undef,undef,undef,undef,undef,undef,undef,undef,undef,undef,undef,undef,undef,undef,undef,undef,undef,undef,undef,undef],[]⟩ W:=by
  intro g1 g2 g6 W ci;refine hK _ _ ?_;clear hK cu ck K;go_wp2;go_loopw [0,1,7,19] (fun b9 b5 _ bd wr=>∃(i j k p q u v aa ae:Nat) (a5 a3:Option Addr),Hid ((k=i+j/\p=i4+i/\q=o2+j)/\(0<u->a5=some ⟨b1,p,none⟩)/\(0<v->a3=some ⟨b2,q,none⟩))/\u+i=ac/\v+j=E/\u<=aa/\v<=ae/\aa<=G/\ae<=af/\bd=int i64 (k:Int)/\b9=.slice a5 u aa/\b5=.slice a3 v ae/\MgAt xs ys i j/\MgSt w wr N g1 g2 g6 xs ys k) (fun _ _ _ bd _=>N-(intOf bd).toNat);exact⟨0,0,0,i4,o2,ac,E,G,af,some ⟨b1,i4,none⟩,some ⟨b2,o2,none⟩,Ab ⟨⟨rfl,rfl,rfl⟩,fun _=>rfl,fun _=>rfl⟩,rfl,rfl,cz,cg,VA _,VA _,rfl,rfl,rfl,cn,ci⟩;obtain⟨i,j,k,p,q,u,v,aa,ae,a5,a3,az,da,de,db,c8,dj,df,rfl,rfl,rfl,bj,bv⟩:=hrel;obtain⟨a7,a8,bc,ax,HSt⟩:=ydE az.1 az.2.1 az.2.2 bj bv;clear az;(have c9:k+u+v=N:=by have:=a7.1;have:=Aa cm;omega);clear bj bv;have d0:=HSt.c0;have d1:=HSt.c1;by_cases aw:k<N;. have di:=nW;have e1:=(HSt.ws.at_ k uZ).1;have e2:=(HSt.ws.at_ k uZ).2;have e3:=(HSt.fs.at_ k uX).1;have H:=(HSt.fs.at_ k uX).2;by_cases cv:v=0;(. obtain⟨x,hx⟩:=exq (xs.getD i 0);have U:=fO;obtain⟨m1,m2⟩:=ax.one om (.inl om);have ao:=Aa a8 om;subst ao;have cy:=Ab HSt.drew;rw[<-(Aa a7).1]at m1;(have O:mf xs ys k=x:=by unfold mf;rw[m1,<-hx]);have I:ms xs ys k=true:=tQ;have ak:=mL;obtain⟨ai,aj,ah⟩:=ydC m2 O I;clear m1 m2 O I;subst cv;have bn:(0:Int)<u:=om;have bo:=Ab hx;clear hx;have au:=mD;go_wp2_with fail;go_big_region;clear d0 d1 e1 e2 e3 H;generalize wr.drew=a9 at*;have d0:=cy.c0;have d1:=cy.c1;have e1:=fI;have e2:=fJ;have e3:=fF;have H:=fG;generalize (part (mf xs ys) N k).getD k 0=ba at*;generalize (partB (ms xs ys) N k).getD k false=bb at*;have n12:=cy.n12;have ag:=Ab (cy.set2 aw x aj ah).1;have n21:g2≠g1:=fun e=>n12 e.symm;have n61:g6≠g1:=fun e=>cy.n16 e.symm;go_wp2_with fail;go_big_region;clear d0 d1 e1 e2 e3 H au U;go_wp2;go_roundw;refine⟨i+1,j,k+1,p+1,q,u-1,0,aa-1,ae,if aa=1 then some ⟨b1,p,none⟩else some ⟨b1,p+1,none⟩,a3,Ab ⟨ak,fun h=>by rw[kab om],fun h=>om⟩,om,om,om,om,om,om,by go_num, ?_,rfl,ai,ag⟩;rfl;simp[intOf];omega);. by_cases cj:u=0;(. obtain⟨y,hu⟩:=exq (ys.getD j 0);have gq:=fP;obtain⟨m1,m2⟩:=ax.two om (.inl om);have ap:=Aa bc om;subst ap;have cy:=Ab HSt.drew;rw[<-(Aa a7).1]at m1;(have O:mf xs ys k=y:=by unfold mf;rw[m1,<-hu]);have I:ms xs ys k=false:=tQ;have ak:=mI;obtain⟨ai,aj,ah⟩:=ydC m2 O I;clear m1 m2 O I;subst cj;have bf:=nD;have bk:(0:Int)<v:=om;have bg:=Ab hu;clear hu;have ar:=mE;go_wp2_with fail;go_big_region;clear d0 d1 e1 e2 e3 H;generalize wr.drew=a9 at*;have d0:=cy.c0;have d1:=cy.c1;have e1:=fI;have e2:=fJ;have e3:=fF;have H:=fG;generalize (part (mf xs ys) N k).getD k 0=ba at*;generalize (partB (ms xs ys) N k).getD k false=bb at*;have ag:=Ab (cy.set1 aw y aj ah);go_wp2_with fail;go_big_region;clear d0 d1 e1 e2 e3 H ar gq;go_wp2;go_roundw;refine⟨i,j+1,k+1,p,q+1,0,v-1,aa,ae-1,a5,if ae=1 then some ⟨b2,q,none⟩else some ⟨b2,q+1,none⟩,Ab ⟨ak,fun h=>om,fun h=>by rw[kab om]⟩,om,om,om,om,om,om,by go_num,rfl, ?_,ai,ag⟩;rfl;simp[intOf];omega);. obtain⟨x,hx⟩:=exq (xs.getD i 0);have U:=fO;obtain⟨y,hu⟩:=exq (ys.getD j 0);have gq:=fP;by_cases a4:x<=y;(. obtain⟨m1,m2⟩:=ax.one om (.inr (by rw[hx,hu];exact a4));have ao:=Aa a8 om;subst ao;have ap:=Aa bc om;subst ap;have cy:=Ab HSt.drew;rw[<-(Aa a7).1]at m1;(have O:mf xs ys k=x:=by unfold mf;rw[m1,<-hx]);have I:ms xs ys k=true:=tQ;have ak:=mL;obtain⟨ai,aj,ah⟩:=ydC m2 O I;clear m1 m2 O I;have bf:=nD;have bk:(0:Int)<v:=om;have bn:(0:Int)<u:=om;have bz:0<u:=om;have ce:decide (x<=y)=true:=kap a4;have bo:=Ab hx;clear hx;have bg:=Ab hu;clear hu;have au:=mD;have ar:=mE;go_wp2_with fail;go_big_region;clear d0 d1 e1 e2 e3 H;generalize wr.drew=a9 at*;have d0:=cy.c0;have d1:=cy.c1;have e1:=fI;have e2:=fJ;have e3:=fF;have H:=fG;generalize (part (mf xs ys) N k).getD k 0=ba at*;generalize (partB (ms xs ys) N k).getD k false=bb at*;have n12:=cy.n12;have ag:=Ab (cy.set2 aw x aj ah).1;have n21:g2≠g1:=fun e=>n12 e.symm;have n61:g6≠g1:=fun e=>cy.n16 e.symm;go_wp2_with fail;go_big_region;clear d0 d1 e1 e2 e3 H au U ar gq;go_wp2;go_roundw;refine⟨i+1,j,k+1,p+1,q,u-1,v,aa-1,ae,if aa=1 then some ⟨b1,p,none⟩else some ⟨b1,p+1,none⟩,_,Ab ⟨ak,fun h=>by rw[kab om],fun _=>rfl⟩,om,om,om,om,om,om,by go_num, ?_,rfl,ai,ag⟩;rfl;simp[intOf];omega);. obtain⟨m1,m2⟩:=ax.two om (.inr (by rw[hx,hu];exact a4));have ao:=Aa a8 om;subst ao;have ap:=Aa bc om;subst ap;have cy:=Ab HSt.drew;rw[<-(Aa a7).1]at m1;(have O:mf xs ys k=y:=by unfold mf;rw[m1,<-hu]);have I:ms xs ys k=false:=tQ;have ak:=mI;obtain⟨ai,aj,ah⟩:=ydC m2 O I;clear m1 m2 O I;have bf:=nD;have bk:(0:Int)<v:=om;have bn:(0:Int)<u:=om;have bz:0<u:=om;have ce:decide (x<=y)=false:=kak a4;have bo:=Ab hx;clear hx;have bg:=Ab hu;clear hu;have au:=mD;have ar:=mE;go_wp2_with fail;go_big_region;clear d0 d1 e1 e2 e3 H;generalize wr.drew=a9 at*;have d0:=cy.c0;have d1:=cy.c1;have e1:=fI;have e2:=fJ;have e3:=fF;have H:=fG;generalize (part (mf xs ys) N k).getD k 0=ba at*;generalize (partB (ms xs ys) N k).getD k false=bb at*;have ag:=Ab (cy.set1 aw y aj ah);go_wp2_with fail;go_big_region;clear d0 d1 e1 e2 e3 H ar gq au U;go_wp2;go_roundw;refine⟨i,j+1,k+1,p,q+1,u,v-1,aa,ae-1,_,if ae=1 then some ⟨b2,q,none⟩else some ⟨b2,q+1,none⟩,Ab ⟨ak,fun _=>rfl,fun h=>by rw[kab om]⟩,om,om,om,om,om,om,by go_num,rfl, ?_,ai,ag⟩;rfl;simp[intOf];omega
  . obtain rfl:k=N:=om;have a6:=HSt.ws;have ay:=HSt.fs;rw[Aa b8]at a6;rw[Aa cw]at ay;have r0:=HSt.r0;have r1:=HSt.r1;have f0:=HSt.f0;have f1:=HSt.f1;obtain⟨cp,bm,a6,ay⟩:=ydD HSt.bel (And.intro HSt.b1 HSt.b2) a6 ay;go_wp2
    have co:((wr.setCell ⟨w.heap.size,0,none⟩ (.slice (some ⟨g1,0,none⟩) k k)).setCell ⟨w.heap.size,1,none⟩ (.slice (some ⟨g2,0,none⟩) k k)).cell? ⟨w.heap.size,0,none⟩=some (.slice (some ⟨g1,0,none⟩) k k):=
     (kan _ _ _ _ uC).trans (kat _ _ _ r0)
    have cq:((wr.setCell ⟨w.heap.size,0,none⟩ (.slice (some ⟨g1,0,none⟩) k k)).setCell ⟨w.heap.size,1,none⟩ (.slice (some ⟨g2,0,none⟩) k k)).cell? ⟨w.heap.size,1,none⟩=some (.slice (some ⟨g2,0,none⟩) k k):=
     kat _ _ _ ((kan _ _ _ _ uC).trans r1)
    refine kal (Z4i rfl _ _ _ _ _ rfl co cq) rfl ?_;have c7:=bm.1;have dh:=bm.2
    exact⟨g1,g2,rfl,(a6.other (a:=⟨w.heap.size,0,none⟩) oO _).other (a:=⟨w.heap.size,1,none⟩) oO _,(ay.other (a:=⟨w.heap.size,0,none⟩) oO _).other (a:=⟨w.heap.size,1,none⟩) oO _,
     (cp.setCell (p:=⟨w.heap.size,0,none⟩) (VA _) _).setCell (p:=⟨w.heap.size,1,none⟩) (VA _) _,om,om⟩
 go_big_region;exact al _ _ _ _ (Z9f w N xs ys);exact al _ _ _ _ (Z9e w N xs ys);exact al _ _ _ _ (Z9d w N xs ys);exact al _ _ _ _ (Z9c w N xs ys);exact al _ _ _ _ (Z9b w N xs ys);exact al _ _ _ _ (Z9a w N xs ys)
def Jo (fs:List Bool):Nat->Nat
 |0=>0
 |k+1=>Jo fs k+(if fs.getD k false=true then 1 else 0)
theorem BX (fs:List Bool):∀k,Jo fs k<=k
 |0=>VA _
 |k+1=>by have:=BX fs k;rw[Jo];split<;>omega
theorem Qn (r:List (Int×Bool)):∀t,t<=r.length->Ca r t=Jo (r.map Prod.snd) t
 |0,_=>by simp[Ca,Jo]
 |t+1,h=>by have ih:=Qn r t om;have E:t<r.length:=om;unfold Ca at*;rw[XH E,List.filter_append,VB,ih,Jo];(have e:(r.map Prod.snd).getD t false=r[t].2:=by simp[List.getD,E]);rw[e];cases h:r[t].2<;>simp[h]
theorem Xf (v:Value)(ai:v.oneCell'=true)(c:Nat){fs:List Bool}(aj:fs.length=N)(ae:m<=N)(ao:N<=2000)(G:BRow w g fs):Calls prog 262 #[.agg #[v,.slice (some ⟨g,0,none⟩) N c],int i64 m] w fun e w'=>e=.returned (int i64 ((Jo fs m:Nat):Int))/\Below w.heap.size w w':=by
 have ac:=Ab G;have al:=G.lt;clear G;go_enter func262,ntmps262;go_wp2;have hb:(w.alloc (.cells #[v,.slice (some ⟨g,0,none⟩) N c] 340)).cell? ⟨w.heap.size,1,none⟩=some (.slice (some ⟨g,0,none⟩) N c):=oS;have O:=Ab ((kaa w.heap.size w).alloc (VA _) (.cells #[v,.slice (some ⟨g,0,none⟩) N c] 340));have I:=Ab (ac.alloc (.cells #[v,.slice (some ⟨g,0,none⟩) N c] 340));generalize w.alloc (.cells #[v,.slice (some ⟨g,0,none⟩) N c] 340)=W at*;go_loop [5,6,8] (fun U _ H=>∃k:Nat,k<=m/\H=int i64 (k:Int)/\U=int i64 ((Jo fs k:Nat):Int)) (fun _ _ H=>m-(intOf H).toNat);exact zG;obtain⟨k,af,rfl,rfl⟩:=hrel;have ak:=BX fs k;by_cases ag:k<m
 . have c1:=(I.at_ k om).1;have ah:=nW;have aa:Hid (Jo fs (k+1)=Jo fs k+(if fs.getD k false=true then 1 else 0)):=rfl;generalize Jo fs k=u at*
   cases E:fs.getD k false with
   |true=>rw[E]at c1 aa;rw[kac rfl]at aa;clear E;go_wp2;go_round;exact zS;simp[intOf];omega
   |false=>rw[E]at c1 aa;rw[kab oS]at aa;clear E;go_wp2;go_round;exact zY;simp[intOf];omega
 . obtain rfl:k=m:=om;go_wp2;go_ret;exact⟨rfl,O⟩
theorem Ho:∀(xs ys:List Int) (x:Int),x∈(mrg xs ys).map Prod.fst->x∈xs\/x∈ys
 | [],ys,x,h=>by
  rw[Lx]at h
  simp at h
  exact .inr h
 |z::xs,[],x,h=>by
  rw[Pn,WN,VV]at h
  rcases h with h|h
  . exact .inl (by rw[h];exact XX)
  . rcases Ho xs [] x h with h|h
    . exact .inl (WL _ h)
    . cases h
 |z::xs,y::ys,x,h=>by
  rw[Kc]at h
  split at h
  . rw[WN,VV]at h
    rcases h with h|h
    . exact .inl (by rw[h];exact XX)
    . rcases Ho xs (y::ys) x h with h|h
      . exact .inl (WL _ h)
      . exact .inr h
  . rw[WN,VV]at h
    rcases h with h|h
    . exact .inr (by rw[h];exact XX)
    . rcases Ho (z::xs) ys x h with h|h
      . exact .inl h
      . exact .inr (WL _ h)
termination_by xs ys=>xs.length+ys.length
theorem D6:∀(xs:List Int) (x:Int),x∈prs xs->∃a b,a∈xs/\b∈xs/\x=a+b
 | [],x,h=>by simp[prs]at h
 | [y],x,h=>by simp[prs]at h
 |y::z::t,x,h=>by rw[prs,VV]at h;rcases h with h|h;exact⟨y,z,oS,oS,h⟩;obtain⟨a,b,E,hb,e⟩:=D6 t x h;exact⟨a,b,by simp[E],by simp[hb],e⟩
theorem Jz (W:List Int):∀k,(rowAt W k).length<=2*W.length
 |0=>by rw[rowAt,Bn];simp;omega
 |k+1=>by have:=Jz W k;rw[rowAt,Bn,Fc,WP];omega
theorem Ls (W:List Int)(M:Int)(E:∀x∈W,0<=x/\x<=M):∀k,∀x∈(rowAt W k).map Prod.fst,0<=x/\x<=M*2^k
 |0,x,h=>by rw[rowAt]at h;rcases Ho W [] x h with h|h;have:=E x h;simpa using this;. cases h
 |k+1,x,h=>by rw[rowAt]at h;have O:(0:Int)<2^k:=Int.pow_pos od;rw[Int.pow_succ];rcases Ho _ _ x h with h|h;have:=E x h;have I:0<=M:=om;have G:M*1<=M*(2^k*2):=Int.mul_le_mul_of_nonneg_left om I;rw[Int.mul_one]at G;omega;obtain⟨a,b,H,hb,e⟩:=D6 _ x h;have U:=Ls W M E k a H;have G:=Ls W M E k b hb;rw[<-Int.mul_assoc];omega
theorem DJ (W:List Int)(E:∀x∈W,0<=x/\x<=1000000)(k:Nat)(G:k<=15)(j:Nat):0<=((rowAt W k).map Prod.fst).getD j 0/\((rowAt W k).map Prod.fst).getD j 0<=1000000000000:=by by_cases H:j<((rowAt W k).map Prod.fst).length;(. have h:=Ls W 1000000 E k (((rowAt W k).map Prod.fst).getD j 0) (by simp only[List.getD,VP H,ZG];exact WO _);have O:(2:Nat)^k<=2^15:=VN od G;have I:((2:Int)^k)=((2^k:Nat):Int):=sW;rw[I]at h;generalize 2^k=q at*;omega);rw[List.getD,VZ om];decide
structure StSt (w W:World)(g m:Nat)(Ws:List Int)(k:Nat)(A B:Nat->Nat):Prop where
 glo:w.heap.size<=g
 ghi:g<W.heap.size
 fz:∀j,W.frozen? ⟨g,j,none⟩=false
 done:∀i,i<k->W.cell? ⟨g,i*2,none⟩=some (.slice (some ⟨A i,0,none⟩) (rowAt Ws i).length (rowAt Ws i).length)/\W.cell? ⟨g,i*2+1,none⟩=some (.slice (some ⟨B i,0,none⟩) (rowAt Ws i).length (rowAt Ws i).length)
 todo:∀i,k<=i->i<m->W.cell? ⟨g,i*2,none⟩=some (.slice none 0 0)/\W.cell? ⟨g,i*2+1,none⟩=some (.slice none 0 0)
 ws:∀i,i<k->w.heap.size<=A i/\A i≠g/\WRow W (A i) ((rowAt Ws i).map Prod.fst)
 fs:∀i,i<k->w.heap.size<=B i/\B i≠g/\BRow W (B i) ((rowAt Ws i).map Prod.snd)
 bel:Below w.heap.size w W
theorem StSt.below {A B:Nat->Nat}(h:StSt w W g m U k A B)(E:Below W.heap.size W W'):StSt w W' g m U k A B:=by have I:w.heap.size<=W.heap.size:=h.bel.size;refine⟨h.glo,VC h.ghi E.size,fun j=> ?_,fun i hi=>⟨?_, ?_⟩,fun i H G=>⟨?_, ?_⟩,fun i hi=>⟨(h.ws i hi).1,(h.ws i hi).2.1,(h.ws i hi).2.2.below E (h.ws i hi).2.2.lt⟩,fun i hi=>⟨(h.fs i hi).1,(h.fs i hi).2.1,(h.fs i hi).2.2.below E (h.fs i hi).2.2.lt⟩,h.bel.trans (E.mono I)⟩;rw[E.frozen (p:=⟨g,j,none⟩) h.ghi];exact h.fz j;rw[E.cell (p:=⟨g,i*2,none⟩) h.ghi];exact(h.done i hi).1;rw[E.cell (p:=⟨g,i*2+1,none⟩) h.ghi];exact(h.done i hi).2;rw[E.cell (p:=⟨g,i*2,none⟩) h.ghi];exact(h.todo i H G).1;rw[E.cell (p:=⟨g,i*2+1,none⟩) h.ghi];exact(h.todo i H G).2
theorem StSt.next {A B:Nat->Nat}(h:StSt w W g m U k A B)(I:k<m)(a b:Nat)(G:w.heap.size<=a/\a≠g)(H:w.heap.size<=b/\b≠g)(ac:WRow W a ((rowAt U k).map Prod.fst))(O:BRow W b ((rowAt U k).map Prod.snd))(E:Nat)(ae:E=(rowAt U k).length):StSt w ((W.setCell ⟨g,k*2,none⟩ (.slice (some ⟨a,0,none⟩) E E)).setCell ⟨g,k*2+1,none⟩ (.slice (some ⟨b,0,none⟩) E E)) g m U (k+1) (fun i=>if i=k then a else A i) (fun i=>if i=k then b else B i):=by
 subst ae
 have o:∀j x y,j≠k*2->j≠k*2+1->((W.setCell ⟨g,k*2,none⟩ x).setCell ⟨g,k*2+1,none⟩ y).cell? ⟨g,j,none⟩=W.cell? ⟨g,j,none⟩:=fun j x y e1 e2=>
  (kan _ _ _ _ uC).trans (kan _ _ _ _ uC)
 have s0:∀x y,((W.setCell ⟨g,k*2,none⟩ x).setCell ⟨g,k*2+1,none⟩ y).cell? ⟨g,k*2,none⟩=some x:=fun x y=>
  (kan _ _ _ _ uC).trans (kat _ _ _ (h.todo k (VA _) I).1)
 have s1:∀x y,((W.setCell ⟨g,k*2,none⟩ x).setCell ⟨g,k*2+1,none⟩ y).cell? ⟨g,k*2+1,none⟩=some y:=fun x y=>
  kat _ _ _ ((kan _ _ _ _ uC).trans (h.todo k (VA _) I).2)
 refine⟨h.glo,by simpa using h.ghi,fun j=>by simp[h.fz j],fun i hi=> ?_,fun i af aa=> ?_,fun i hi=> ?_,fun i hi=> ?_,(h.bel.setCell (p:=⟨g,k*2,none⟩) h.glo _).setCell (p:=⟨g,k*2+1,none⟩) h.glo _⟩;by_cases e:i=k;subst e;simp only[kb2];exact⟨s0 _ _,s1 _ _⟩;simp only[kab e];rw[o _ _ _ om om,o _ _ _ om om];exact h.done i om;rw[o _ _ _ om om,o _ _ _ om om];exact h.todo i om aa;by_cases e:i=k;subst e;simp only[kb2];exact⟨G.1,G.2,(ac.other (a:=⟨g,i*2,none⟩) (fun e=>G.2 e.symm) _).other (a:=⟨g,i*2+1,none⟩) (fun e=>G.2 e.symm) _⟩;simp only[kab e];obtain⟨b7,bh,cq⟩:=h.ws i om;exact kH;by_cases e:i=k;subst e;simp only[kb2];exact⟨H.1,H.2,(O.other (a:=⟨g,i*2,none⟩) (fun e=>H.2 e.symm) _).other (a:=⟨g,i*2+1,none⟩) (fun e=>H.2 e.symm) _⟩;simp only[kab e];obtain⟨b7,bh,cq⟩:=h.fs i om;exact kH
theorem Nm:∀xs ys:List Int,((mrg xs ys).filter Prod.snd).length=xs.length
 | [],ys=>by
  rw[Lx]
  simp
 |x::xs,[]=>by
  rw[Pn,List.filter_cons_of_pos oS,VG,Nm xs []]
  simp
 |x::xs,y::ys=>by
  rw[Kc]
  split
  . rw[List.filter_cons_of_pos oS,VG,Nm xs (y::ys)];simp
  . rw[List.filter_cons_of_neg oS,Nm (x::xs) ys]
termination_by xs ys=>xs.length+ys.length
theorem Hi (r:List (Int×Bool))(t:Nat):Ca r t<=(r.filter Prod.snd).length:=by unfold Ca;have h:=((List.take_sublist t r).filter Prod.snd).length_le;exact h
theorem Ot (r:List (Int×Bool))(t:Nat):Ca r t<=t:=by unfold Ca;have h:=List.length_filter_le Prod.snd (r.take t);have E:(r.take t).length<=t:=oO;omega
theorem Nk (r:List (Int×Bool))(t:Nat)(I:t<=r.length):t-Ca r t<=r.length-(r.filter Prod.snd).length:=by(have H:(r.filter Prod.snd).length=((r.take t).filter Prod.snd).length+((r.drop t).filter Prod.snd).length:=by rw[<-VB,<-List.filter_append,YE]);have E:=List.length_filter_le Prod.snd (r.drop t);have O:(r.drop t).length=r.length-t:=oS;have G:=Ot r t;unfold Ca at*;omega
theorem Hl (W:List Int)(k:Nat):(rowAt W (k+1)).length=W.length+(rowAt W k).length/2:=by rw[rowAt,Bn,Fc,WP]
theorem Dt (W:List Int):∀k,((rowAt W k).filter Prod.snd).length=W.length
 |0=>by rw[rowAt,Nm]
 |k+1=>by rw[rowAt,Nm]
theorem Yd {W:List Int}(E:1<=W.length):∀k,2*W.length<=(rowAt W k).length+1+(W.length-1)/2^k
 |0=>by rw[rowAt,Bn];simp;omega
 |k+1=>by have ih:=Yd E k;(have e:(W.length-1)/2^(k+1)=(W.length-1)/2^k/2:=by rw[XI,ZX]);rw[Hl,e];generalize (W.length-1)/2^k=x at*;omega
theorem Yc (W:List Int)(m:Nat)(E:1<=W.length)(G:1<=m)(I:W.length<=2^m):2*(W.length-1)<=(rowAt W (m-1)).length:=by have h:=Yd E (m-1);(have H:(W.length-1)/2^(m-1)<2:=by rw[Nat.div_lt_iff_lt_mul (Nat.pow_pos od)];(have:2*2^(m-1)=2^m:=by obtain⟨q,rfl⟩:∃q,m=q+1:=⟨m-1,om⟩;rw[YH,XI,YM]);omega);omega
theorem Mu {W:List Int}(m:Nat)(G:1<=W.length)(E:1<=m)(I:W.length<=2^m):∀i,i<m->Dc W m i<=(rowAt W (m-1-i)).length
 |0,_=>by rw[Dc];exact Yc W m G E I
 |i+1,hi=>by have ih:=Mu m G E I i om;have O:=Nk _ _ ih;obtain⟨q,H⟩:∃q,m-1-i=q+1:=⟨m-1-i-1,om⟩;have U:m-1-(i+1)=q:=om;rw[Dt,H,Hl]at O;rw[Dc,U,H];omega
theorem Zl (W:List Int)(m i:Nat):Bg W m i<=W.length:=by have:=Hi (rowAt W (m-1-i)) (Dc W m i);rw[Dt]at this;exact this
theorem Qo (W:List Int)(m i:Nat):Bg W m i<=Dc W m i:=Ot _ _
theorem Sx (W:List Int)(m i:Nat):Dc W m (i+1)=2*(Dc W m i-Bg W m i):=rfl
theorem Eu (n:Nat)(P:List Nat)(W:List Int)(m:Nat):∀i,(Fh n P W m i).length=n
 |0=>by simp[Fh]
 |i+1=>by rw[Fh,Cc,Eu n P W m i]
theorem Qj (n:Nat)(P:List Nat)(W:List Int)(m:Nat)(E:P.length<=288):∀i,∀j,0<=(Fh n P W m i).getD j 0/\(Fh n P W m i).getD j 0<=288*i
 |0,j=>by simp only[Fh];by_cases h:j<n;simp[List.getD,h];simp[List.getD,h]
 |i+1,j=>by have h:=Mh (P.take (Bg W m i)) (Qj n P W m E i) j;have G:(P.take (Bg W m i)).length<=288:=oO;rw[Fh];omega
theorem RiseOf.lt (h:RiseOf l P):∀p∈P,p<l.length:=fun p E=>QM l _ p (h.perm.mem_iff.1 E)
theorem RiseOf.length (h:RiseOf l P):P.length=(wpl l l.length).length:=h.perm.length_eq
def Zcs:List Int->Int
 | []=>0
 |x::xs=>x+Zcs xs
theorem Zk (r:List (Int×Bool)):Ca r 0=0:=by simp[Ca]
theorem Qg (x:Int)(r:List (Int×Bool))(t:Nat):Ca ((x,true)::r) (t+1)=Ca r t+1:=by simp[Ca]
theorem Ml (x:Int)(r:List (Int×Bool))(t:Nat):Ca ((x,false)::r) (t+1)=Ca r t:=by simp[Ca]
theorem FW (ys:List Int):∀t,Ca (ys.map fun y=>(y,false)) t=0:=by
 induction ys with
 |nil=>intro t;simp[Ca]
 |cons y ys ih=>
  intro t
  cases t with
  |zero=>exact Zk _
  |succ t=>rw[WN,Ml,ih]
theorem Nn:∀(xs ys:List Int) (t:Nat),(((mrg xs ys).take t).map Prod.fst).Perm (xs.take (Ca (mrg xs ys) t)++ys.take (t-Ca (mrg xs ys) t))
 |xs,ys,0=>by rw[Zk];simp
 | [],ys,t+1=>by
  rw[Lx,FW]
  simp[ZM]
 |x::xs,[],t+1=>by
  have ih:=Nn xs [] t
  rw[Pn,YC,WN,Qg,YC]
  simp only[List.take_nil,XB]at*
  exact List.Perm.cons x ih
 |x::xs,y::ys,t+1=>by
  rw[Kc]
  split
  . have ih:=Nn xs (y::ys) t
    rw[YC,WN,Qg,YC,show t+1-(Ca (mrg xs (y::ys)) t+1)=t-Ca (mrg xs (y::ys)) t by omega]
    exact List.Perm.cons x ih
  . have ih:=Nn (x::xs) ys t
    have E:=Ot (mrg (x::xs) ys) t
    rw[YC,WN,Ml,show t+1-Ca (mrg (x::xs) ys) t=(t-Ca (mrg (x::xs) ys) t)+1 by omega,YC]
    exact(List.Perm.cons y ih).trans List.perm_middle.symm
termination_by xs ys=>xs.length+ys.length
abbrev Up (xs:List Int):Prop:=xs.Pairwise (· <= ·)
theorem Y1:∀xs ys:List Int,Up xs->Up ys->Up ((mrg xs ys).map Prod.fst)
 | [],ys,_,h=>by rw[Lx,List.map_map];simpa[ZM]using h
 |x::xs,[],h,h2=>by
  have h:=XO.1 h
  rw[Pn,WN]
  refine XO.2 ⟨fun z E=> ?_,Y1 xs [] h.2 h2⟩
  rcases Ho xs [] z E with E|E
  . exact h.1 z E
  . cases E
 |x::xs,y::ys,h,h2=>by
  have I:=XO.1 h
  have H:=XO.1 h2
  rw[Kc]
  split
  . rename_i G
    rw[WN]
    refine XO.2 ⟨fun z E=> ?_,Y1 xs (y::ys) I.2 h2⟩
    rcases Ho xs (y::ys) z E with E|E
    . exact I.1 z E
    . rcases VV.1 E with rfl|E
      . exact G
      . exact Int.le_trans G (H.1 z E)
  . rename_i G
    rw[WN]
    refine XO.2 ⟨fun z E=> ?_,Y1 (x::xs) ys h H.2⟩
    show y<=z
    rcases Ho (x::xs) ys z E with E|E
    . rcases VV.1 E with rfl|E
      . omega
      . have:=I.1 z E;omega
    . exact H.1 z E
termination_by xs ys=>xs.length+ys.length
theorem Z75:∀xs:List Int,Up xs->Up (prs xs)
 | [],_=>by simp[prs]
 | [x],_=>by simp[prs]
 |x::y::t,h=>by have E:=XO.1 h;have G:=XO.1 E.2;rw[prs];refine XO.2 ⟨fun z I=> ?_,Z75 t G.2⟩;obtain⟨a,b,H,hb,rfl⟩:=D6 t z I;have e1:=E.1 a (by simp[H]);have e2:=G.1 b hb;show x+y<=a+b;omega
theorem C4 {W:List Int}(h:Up W):∀k,Up ((rowAt W k).map Prod.fst)
 |0=>by rw[rowAt];exact Y1 W [] h .nil
 |k+1=>by rw[rowAt];exact Y1 W _ h (Z75 _ (C4 h k))
theorem Nb (W:List Int)(h:∀x∈W,0<x):∀k,∀x∈(rowAt W k).map Prod.fst,0<x
 |0,x,hx=>by rw[rowAt]at hx;rcases Ho W [] x hx with E|E;exact h x E;. cases E
 |k+1,x,hx=>by rw[rowAt]at hx;rcases Ho W _ x hx with E|E;exact h x E;obtain⟨a,b,G,hb,rfl⟩:=D6 _ x E;have e1:=Nb W h k a G;have e2:=Nb W h k b hb;omega
def Dx (W:List Int):Nat->List Int
 |0=> []
 |k+1=>prs ((rowAt W k).map Prod.fst)
theorem Ff (W:List Int):∀k,rowAt W k=mrg W (Dx W k)
 |0=>rfl
 |k+1=>rfl
theorem Z6r (h:Up xs)(G:i<=j)(E:j<xs.length):xs.getD i 0<=xs.getD j 0:=by by_cases e:i=j;subst e;exact Int.le_refl _;have:=(YK.1 h) i j om E om;simpa[List.getD,E,show i<xs.length by omega]using this
theorem Iu (G:i<t)(H:i<xs.length):xs.getD i 0∈xs.take t:=by(have:(xs.take t).getD i 0=xs.getD i 0:=by simp[List.getD,G]);rw[<-this];have E:i<(xs.take t).length:=oO;simp only[List.getD,VP E,ZG];exact WO _
theorem AP {W:List Int}(G:Up W)(O:∀x∈W,0<x)(af:2<=W.length):∀k,W.length-1<=(Dx W k).length->(Dx W k).getD (W.length-2) 0<W.getD (W.length-1) 0->False
 |0,h,_=>by simp[Dx]at h;omega
 |k+1,h,h2=>by(have ac:(Dx W (k+1)).length=(rowAt W k).length/2:=by rw[Dx,Fc,WP]);rw[ac]at h;(have H:2*W.length-3<((rowAt W k).map Prod.fst).length:=by rw[WP];omega);have aj:(Dx W (k+1)).getD (W.length-2) 0=((rowAt W k).map Prod.fst).getD (2*(W.length-2)) 0+((rowAt W k).map Prod.fst).getD (2*(W.length-2)+1) 0:=Rg _ _ (by rw[WP];omega);have ap:0<((rowAt W k).map Prod.fst).getD (2*(W.length-2)) 0:=Nb W O k _ (by have ae:2*(W.length-2)<((rowAt W k).map Prod.fst).length:=om;simp only[List.getD,VP ae,ZG];exact WO _);(have ak:((rowAt W k).map Prod.fst).getD (2*W.length-3) 0<W.getD (W.length-1) 0:=by rw[show 2*W.length-3=2*(W.length-2)+1 by omega];omega);(have U:∀z∈((rowAt W k).take (2*W.length-2)).map Prod.fst,z<W.getD (W.length-1) 0:=by intro z I;rw[List.map_take]at I;obtain⟨i,hi,rfl⟩:=XP I;(have ao:i<2*W.length-2:=by simp at hi;omega);(have ah:i<((rowAt W k).map Prod.fst).length:=by simp at hi;simp;omega);have:=Z6r (C4 G k) (i:=i) (j:=2*W.length-3) om H;(have e:((rowAt W k).map Prod.fst).getD i 0=(((rowAt W k).map Prod.fst).take (2*W.length-2))[i]:=by simp only[List.getD,VP ah,ZG,YV]);rw[e]at this;omega);have E:=Nn W (Dx W k) (2*W.length-2);rw[<-Ff]at E;have au:=fQ;(have ai:2*W.length-2-Ca (rowAt W k) (2*W.length-2)<=(Dx W k).length:=by have aa:=Nk (rowAt W k) (2*W.length-2) (by rw[WP]at H;omega);have ar:=nX;rw[Dt]at aa;omega);by_cases ag:Ca (rowAt W k) (2*W.length-2)=W.length;have:W.getD (W.length-1) 0<W.getD (W.length-1) 0:=U _ (E.mem_iff.2 (List.mem_append_left _ (by rw[ag];exact Iu om om)));omega;have al:=pN;exact AP G O af k om (U _ (E.mem_iff.2 (List.mem_append_right _ (Iu om om))))
theorem J9:∀(xs ys:List Int) (t i j:Nat),Up xs->Ca (mrg xs ys) t<=i->i<xs.length->j<t-Ca (mrg xs ys) t->j<ys.length->ys.getD j 0<xs.getD i 0
 |xs,ys,0,i,j,_,_,_,h,_=>om
 | [],ys,t+1,i,j,_,_,h,_,_=>by simp at h
 |x::xs,[],t+1,i,j,_,_,_,_,h=>by simp at h
 |x::xs,y::ys,t+1,i,j,hu,h1,h2,h3,h4=>by
  have H:=XO.1 hu
  rw[Kc]at h1 h3
  by_cases G:x<=y
  . rw[kac G,Qg]at h1 h3
    obtain⟨E,rfl⟩:∃E,i=E+1:=⟨i-1,om⟩
    have:=J9 xs (y::ys) t E j H.2 om (by simpa using h2) om h4
    simpa using this
  . rw[kab G,Ml]at h1 h3
    have O:x<=(x::xs).getD i 0:=by
     cases i with
     |zero=>simp
     |succ i=>
      have hi:i<xs.length:=by simpa using h2
      have:(x::xs).getD (i+1) 0=xs[i]:=by simp[List.getD,hi]
      rw[this]
      exact H.1 _ (WO _)
    cases j with
    |zero=>
     have:(y::ys).getD 0 0=y:=oS
     omega
    |succ j=>
     have I:=Ot (mrg (x::xs) ys) t
     have:=J9 (x::xs) ys t i j hu h1 h2 om (by simpa using h4)
     simpa using this
termination_by xs ys=>xs.length+ys.length
theorem Z31 {W:List Int}(E:Up W)(G:∀x∈W,0<x)(U:2<=W.length)(k:Nat)(H:2*W.length-2<=(rowAt W k).length):Ca (rowAt W k) (2*W.length-2)=W.length:=by have ac:=fQ;rcases YN (Ca (rowAt W k) (2*W.length-2)) W.length with I|I;exfalso;have ae:=nX;have O:=Nk (rowAt W k) (2*W.length-2) H;rw[Dt]at O;have aa:=pN;exact AP E G U k om (J9 W (Dx W k) (2*W.length-2) (W.length-1) (W.length-2) E qAS om qAS om);omega
theorem CO (a:Option Addr)(G:Nat)(E:Int)(w:World)(H:288<ac)(I:ac<=9223372036854775807):Calls prog 257 #[.slice a ac G,int i64 E] w fun e w'=>e=.returned (int i64 2)/\w'=w:=by have h:(288:Int)<ac:=om;go_enter func257,ntmps257;go_wp2;go_ret;exact⟨rfl,rfl⟩
theorem Z2c (af:Nat)(ah:Int)(hl:l.length=G)(ap:G<=288)(az:RowIn .i64 w a l)(au:ac<G)(I:okW (l.getD ac 0)=false)(H:∀j,j<ac->okW (l.getD j 0)=true):Calls prog 257 #[.slice a G af,int i64 ah] w fun e w'=>e=.returned (int i64 3)/\w'=w:=by obtain⟨b,o,rfl,hb,az⟩:∃b o,a=some ⟨b,o,none⟩/\b<w.heap.size/\Row .i64 w b o l:=vW;have ag:=Ab az;have ae:=Ab H;clear az H;go_enter func257,ntmps257;go_wp2;go_loop [5,7,13] (fun u y i=>∃k:Nat,k<=ac/\i=int i64 (k:Int)/\u=int i64 (((wpl l k).length:Nat):Int)) (fun _ _ i=>G-(intOf i).toNat);exact zG;obtain⟨k,ak,rfl,rfl⟩:=hrel;have av:=Sg l k;have c1:=Aa ag k om;by_cases U:k<ac;(. have ai:=IQ (ae k U);have aa:=fZ;generalize l.getD k 0=x at*;generalize (wpl l k).length=u at*;obtain⟨al,aj⟩:=ai;by_cases ar:0<x;exact wI;exact wH);. obtain rfl:k=ac:=om;generalize l.getD k 0=x at*;generalize (wpl l k).length=u at*;have O:=X5 I;have E:x<0\/1000000<x:=om;clear O I;rcases E with E|E;(. go_wp2;go_ret;exact⟨rfl,rfl⟩);. have ao:¬(x<0):=om;go_wp2;go_ret;exact⟨rfl,rfl⟩
theorem PH (ah:Nat)(E:Int)(au:l.length=ac)(av:ac<=288)(U:RowIn .i64 w a l)(H:∀j,j<ac->okW (l.getD j 0)=true)(r:Int)(hr:Hid (r=if ¬(1<=E/\E<=15)then 3 else if 2^E.toNat<(wpl l ac).length then 11 else 0)):Calls prog 257 #[.slice a ac ah,int i64 E] w fun e w'=>e=.returned (int i64 r)/\w'=w:=by have ck:=Ab U;have ag:=Ab H;clear U H;go_enter func257,ntmps257;go_wp2;go_loop [5,7,13] (fun u y i=>∃k:Nat,k<=ac/\i=int i64 (k:Int)/\u=int i64 (((wpl l k).length:Nat):Int)) (fun _ _ i=>ac-(intOf i).toNat);exact zG;obtain⟨k,ak,rfl,rfl⟩:=hrel;have ax:=Sg l k;by_cases ae:k<ac;(. have cw:k<l.length:=om;obtain⟨b,o,rfl,hb,O⟩:∃b o,a=some ⟨b,o,none⟩/\b<w.heap.size/\Row .i64 w b o l:=xP;have c1:=O k cw;have ai:=IQ (ag k ae);have aa:=fZ;clear O;generalize l.getD k 0=x at*;generalize (wpl l k).length=u at*;obtain⟨ap,aj⟩:=ai;by_cases ar:0<x;exact wI;exact wH);. obtain rfl:k=ac:=om;generalize (wpl l k).length=u at*;by_cases aw:E<1;exact vG;. by_cases ao:15<E;exact vG;. obtain⟨m,rfl⟩:=WH (show 0<=E by omega);rw[kab om]at hr;(have I:Hid (wrap64 (2^m)=((2^m:Nat):Int)):=by have al:2^m<=2^15:=VN od om;have af:((2:Int)^m)=((2^m:Nat):Int):=sW;unfold Hid;rw[af];generalize 2^m=q at*;unfold wrap64;omega);go_wp2;(. (have G:wrap64 (2^m)<(u:Int):=by assumption);rw[Aa I]at G;(have a7:r=11:=by rw[Aa hr,kac oO]);go_ret;exact⟨by rw[a7];rfl,rfl⟩);. (have G:(u:Int)<=wrap64 (2^m):=by assumption);rw[Aa I]at G;(have a7:r=0:=by rw[Aa hr,kab oO]);go_ret;exact⟨by rw[a7];rfl,rfl⟩
theorem KX (G:Nat)(E:Int)(H:l.length=ac)(ae:ac<=9223372036854775807)(I:RowIn .i64 w a l):Calls prog 257 #[.slice a ac G,int i64 E] w fun e w'=>e=.returned (int i64 (Z7n l E))/\w'=w:=by by_cases hm:288<ac;(have e:Z7n l E=2:=by unfold Z7n;rw[kac om]);rw[e];exact CO a G E w hm ae;rcases Oc (fun j=>okW (l.getD j 0)) ac with d9|⟨aa,U,O,d9⟩;have hn:¬ ∃j,j<l.length/\okW (l.getD j 0)=false:=kR;exact PH G E H om I d9 _ (by unfold Z7n;rw[kab om,kab hn,H];exact rfl);(have e:Z7n l E=3:=by unfold Z7n;rw[kab om,kac ⟨aa,om,O⟩]);rw[e];exact Z2c G E H om I U O d9
def PE (l s:List Int):Nat->Int
 |0=>0
 |k+1=>PE l s k+l.getD k 0*s.getD k 0
theorem PD (l:List Int)(G:p<xs.length):∀k,PE l (Vy xs p) k=PE l xs k+(if p<k then l.getD p 0 else 0)
 |0=>by simp[PE]
 |k+1=>by rw[PE,PE,PD l G k];(have e:(Vy xs p).getD k 0=if p=k then xs.getD p 0+1 else xs.getD k 0:=by unfold Vy;rw[Nv];by_cases h:p=k;rw[kac ⟨h,G⟩,kac h];rw[kab (fun E=>h E.1),kab h]);rw[e];by_cases h:p=k;subst h;rw[kac rfl,kab om,kac om,Int.mul_add,Int.mul_one];omega;rw[kab h];by_cases E:p<k;rw[kac E,kac om];omega;rw[kab E,kab om];omega
def Zb3 (W:List Int)(m:Nat):Nat->Int
 |0=>0
 |i+1=>Zb3 W m i+Zcs (W.take (Bg W m i))
def Ze4 (W:List Int)(k t:Nat):Int:=Zcs (((rowAt W k).take t).map Prod.fst)
def least (W:List Int)(m:Nat):Int:=if W.length<2 then Zcs W else Ze4 W (m-1) (2*(W.length-1))
theorem Qe (p:Nat):∀(ps:List Nat) (xs:List Int),ps.Nodup->(∀q∈ps,q<xs.length)->(Da xs ps).getD p 0=xs.getD p 0+(if p∈ps then 1 else 0)
 | [],xs,_,_=>by simp[Da]
 |q::ps,xs,hn,h=>by have E:=List.nodup_cons.1 hn;have ih:=Qe p ps (Vy xs q) E.2 (fun r hr=>by rw[Mi];exact h r (WL _ hr));show (Da (Vy xs q) ps).getD p 0=_;rw[ih];unfold Vy;rw[Nv];have H:=h q XX;by_cases e:q=p;subst e;rw[kac ⟨rfl,H⟩,kab E.1,kac XX];omega;rw[kab (fun G=>e G.1)];(have:(p∈q::ps)↔p∈ps:=by rw[VV];exact⟨fun h=>h.resolve_left (fun h=>e h.symm),.inr⟩);simp only[this]
theorem RiseOf.nodup (h:RiseOf l P):P.Nodup:=by refine h.srt.imp ?_;intro a b E e;subst e;omega
theorem RiseOf.mem (h:RiseOf l P)(p:Nat):p∈P↔p<l.length/\0<l.getD p 0:=by rw[h.perm.mem_iff,ED]
theorem RiseOf.up (h:RiseOf l P):Up (P.map fun p=>l.getD p 0):=by rw[Up,List.pairwise_map];exact h.srt.imp (fun {a b} hab=>om)
theorem RiseOf.pos (h:RiseOf l P):∀x∈(P.map fun p=>l.getD p 0),0<x:=by intro x G;obtain⟨p,E,rfl⟩:=WU.1 G;exact((h.mem p).1 E).2
def Z9 (P:List Nat)(W:List Int)(m p:Nat):Nat->Nat
 |0=>0
 |i+1=>Z9 P W m p i+(if p∈P.take (Bg W m i)then 1 else 0)
theorem Z15 (P:List Nat)(W:List Int)(m p:Nat):∀i,Z9 P W m p i<=i
 |0=>VA _
 |i+1=>by have:=Z15 P W m p i;rw[Z9];split<;>omega
theorem Z8 (P:List Nat)(W:List Int)(m p:Nat)(h:p ∉ P):∀i,Z9 P W m p i=0
 |0=>rfl
 |i+1=>by rw[Z9,Z8 P W m p h i,kab (fun E=>h (VU E))]
theorem JI (P:List Nat)(W:List Int)(m p:Nat)(h:p∈P.take (Bg W m 0)):∀i,1<=i->1<=Z9 P W m p i
 |0,h0=>om
 |1,_=>by rw[Z9,Z9,kac h];omega
 |i+2,_=>by have:=JI P W m p h (i+1) om;rw[Z9];omega
theorem Mb (n:Nat)(W:List Int)(m p:Nat)(G:P.Nodup)(E:∀q∈P,q<n):∀i,(Fh n P W m i).getD p 0=(Z9 P W m p i:Nat)
 |0=>by simp only[Fh,Z9];by_cases h:p<n<;>simp[List.getD,h]
 |i+1=>by rw[Fh,Qe p _ _ (G.sublist (List.take_sublist _ _)) (fun q H=>by rw[Eu];exact E q (VU H)),Mb n W m p G E i,Z9];split<;>simp
theorem BZ {W:List Int}(H:Up W)(E:∀x∈W,0<x)(O:2<=W.length)(G:1<=m)(I:W.length<=2^m):Bg W m 0=W.length:=by have h:=Yc W m om G I;unfold Bg;rw[Dc,show m-1-0=m-1 by omega,show 2*(W.length-1)=2*W.length-2 by omega];exact Z31 H E O (m-1) om
theorem D9 (O:GoodW l m)(G:RiseOf l P)(p:Nat):0<=(Dd l P m).getD p 0/\(Dd l P m).getD p 0<=m/\(0<(Dd l P m).getD p 0↔p∈P):=by have I:=O.lo;have H:(P.map fun p=>l.getD p 0).length=P.length:=oS;unfold Dd;by_cases h:P.length<2;rw[kac h,Qe p P _ G.nodup (fun q U=>by simpa using G.lt q U)];(have e:(List.replicate l.length (0:Int)).getD p 0=0:=by by_cases h:p<l.length<;>simp[List.getD,h]);rw[e];by_cases E:p∈P;simp[E];omega;simp[E];rw[kab h,Mb _ _ _ _ G.nodup G.lt];have ac:=Z15 P (P.map fun p=>l.getD p 0) m p m;refine⟨om,om, ?_⟩;by_cases E:p∈P;have aa:=JI P (P.map fun p=>l.getD p 0) m p (by rw[BZ G.up G.pos om I (by rw[H,G.length];exact O.room),H,ZV];exact E) m I;exact⟨fun _=>E,fun _=>om⟩;rw[Z8 P _ m p E];simp[E]
theorem Iv (l:List Int)(P:List Nat)(m:Nat):(Dd l P m).length=l.length:=by unfold Dd;split;rw[Cc];simp;exact Eu _ _ _ _ _
end Go.Proofs.YtleocpdblhbimaaGreatDoor
