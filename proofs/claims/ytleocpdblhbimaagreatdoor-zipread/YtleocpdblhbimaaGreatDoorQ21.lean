import Derived.Test.YtleocpdblhbimaaGreatDoorQ20
import Derived.Laws.Tables
import Derived.Laws.Rows
import Derived.Laws.ResultCell
import Derived.Laws.CopyRow
import Derived.Deep.RegionHeld3
import Derived.Deep.WholeRow
import Derived.Deep.DeepCutAuto
set_option linter.unusedSimpArgs false
set_option linter.unusedVariables false
set_option maxRecDepth 100000
set_option maxHeartbeats 8000000
namespace Go.Proofs.YtleocpdblhbimaaGreatDoor
open Go.RowKit
theorem Un (No:Nat->Prop)(B b:Nat)(a:Option Addr)(n O:Nat)(bs:List Nat)(Z T:Value)(u:US)(w:World)(Y:IIs No B w b (.slice a n O) Z T u)(df:Rd w No a n bs)(cw:u.p<=8*n)(db:u.e=0)(ee:u.out.length<=3000)(g1 af bf cn g2 ap bg dd:Nat)(H lb:List Int)(b9:DIs w g1 af bf cn b H)(e5:Good H)(bc:No g1/\No af/\No bf)(b8:DIs w g2 ap bg dd b lb)(et:Good lb)(ba:No g2/\No ap/\No bg)(fi:∀g,w.heap.size<=g->¬No g)(V:US)(ct:Hid (Hk (rowB bs n) H lb (8*n+1) u=V)):
 Calls Tryz.prog 250 #[.pointer (some ⟨b,0,none⟩),.agg #[DV g1 af,DV g2 ap]] w fun e w'=>Got No B w b (.slice a n O) Z T (.tuple #[]) V e w':=by
 have c5:=Af bs n;obtain⟨F,ha⟩:=exq (8*n+1);rw[ha]at ct;obtain⟨I,dv⟩:=exq (w.heap.size);obtain⟨W1,b5⟩:=exq (w.alloc (.cells #[DV g1 af,DV g2 ap] 282));have ig:=Y.lt;have d9:B<=I:=by have:=Y.base;omega
 have au:Below I w W1:=by rw[<-b5,<-dv];exact(Below.refl _ _).alloc (VB _) _
 have ck:Kp No w W1:=fun g M _=>au.block g (by omega)
 have h9:W1.heap.size=I+1:=by rw[<-b5,<-dv];simp
 have co:W1.heap[I]? =some (.cells #[DV g1 af,DV g2 ap] 282 (0,0)):=by rw[<-b5,<-dv];exact heap_alloc_new _ _
 have ep:IIs (NI No I) B W1 b (.slice a n O) Z T u:=(Y.more (No':=NI No I) (fun e=>by rcases e with e|e;exact Y.no e;omega) (fun g M=>by rcases M with e|e;exact .inl e;exact .inr (by omega))).grown (w':=W1) (by rw[<-b5];exact World.grownBy_alloc w _ none);have ce:Rd W1 (NI No I) a n bs:=(df.keep (w':=W1) (by omega) ck).more;have hj:=b9.lt;have la2:=b9.is.lt;have g5:=b8.lt;have lb2:=b8.is.lt;have ew:DIs W1 g1 af bf cn b H:=b9.keep (by omega) (au.block g1 (by omega)) (au.block af (by omega)) (au.block bf (by omega));have fj:DIs W1 g2 ap bg dd b lb:=b8.keep (by omega) (au.block g2 (by omega)) (au.block ap (by omega)) (au.block bg (by omega))
 have bn:∀g,W1.heap.size<=g->¬NI No I g:=fun g M e=>by
  rcases e with e|e
  . exact fi g (by omega) e
  . omega
 have c9:Hid (∀wr x,IUp (NI No I) B W1 b (.slice a n O) Z T x wr->wr.cell? ⟨I,0,none⟩=some (DV g1 af)/\wr.cell? ⟨I,1,none⟩=some (DV g2 ap)):=Ab (fun wr x G=>by
  have:=(G.kp I (by omega) (.inr rfl)).trans co
  exact⟨Ac this,Ac this⟩)
 have bq:Hid (∀wr x,IUp (NI No I) B W1 b (.slice a n O) Z T x wr->x.p<=8*n->x.e=0->∀k v,uplace H (rowB bs n) x=(k,v)->Calls Tryz.prog 281 #[.pointer (some ⟨g1,0,none⟩),.pointer (some ⟨af,0,none⟩)] wr fun e w'=>Got (NI No I) B wr b (.slice a n O) Z T (.int .i64 (k:Int)) v e w'):=Ab (fun wr x G ao ax k v a9=>
  LK (NI No I) B b a n O bs Z T x wr G.is (ce.keep G.below.size G.kp) ao ax g1 af bf cn H (ew.keep G.below.size (G.kp g1 (by omega) (.inl bc.1)) (G.kp af (by omega) (.inl bc.2.1)) (G.kp bf (by omega) (.inl bc.2.2))) e5 ⟨.inl bc.1,.inl bc.2.1,.inl bc.2.2⟩ (fun g M=>bn g (VU G.below.size M)) k v (Ab a9))
 have ds:Hid (∀wr x,IUp (NI No I) B W1 b (.slice a n O) Z T x wr->x.p<=8*n->x.e=0->∀k v,Me (rowB bs n) lb x=(k,v)->Calls Tryz.prog 269 #[.pointer (some ⟨b,0,none⟩),.agg #[DV g1 af,DV g2 ap]] wr fun e w'=>Got (NI No I) B wr b (.slice a n O) Z T (.int .i64 (k:Int)) v e w'):=Ab (fun wr x G ao ax k v a9=>
  Y5 (NI No I) B b a n O bs Z T x wr G.is (ce.keep G.below.size G.kp) ao ax g1 af g2 ap bg dd lb (fj.keep G.below.size (G.kp g2 (by omega) (.inl ba.1)) (G.kp ap (by omega) (.inl ba.2.1)) (G.kp bg (by omega) (.inl ba.2.2))) et ⟨.inl ba.1,.inl ba.2.1,.inl ba.2.2⟩ (fun g M=>bn g (VU G.below.size M)) k v (Ab a9))
 have hs:Hid (∀wr x,IUp (NI No I) B W1 b (.slice a n O) Z T x wr->x.p<=8*n->x.e=0->∀(l size r:Nat) (v:US),size<=16->l<=40000->uget (rowB bs n) size x=(r,v)->Calls Tryz.prog 266 #[.pointer (some ⟨b,0,none⟩),.int .i64 (l:Int),.int .i64 (size:Int)] wr fun e w'=>Got (NI No I) B wr b (.slice a n O) Z T (.int .i64 ((l+r:Nat):Int)) v e w'):=Ab (fun wr x G ao ax l size r v hv hl a9=>
  Iw (NI No I) B b a n O size l bs Z T x wr G.is (ce.keep G.below.size G.kp) ao ax hv hl r v (Ab a9))
 have cm:Hid (∀wr x,IUp (NI No I) B W1 b (.slice a n O) Z T x wr->x.e=0->x.out.length<=3000->∀d k v,1<=d->d<=80000->k<=65535->Jh d k x=v->Calls Tryz.prog 268 #[.pointer (some ⟨b,0,none⟩),.int .i64 (k:Int),.int .i64 (d:Int)] wr fun e w'=>Got (NI No I) B wr b (.slice a n O) Z T (.tuple #[]) v e w'):=Ab (fun wr x G ao ax d k v hk cu a9 gy=>
  Z21 (NI No I) B b d k (.slice a n O) Z T x wr G.is ao ax hk cu a9 (fun g M=>bn g (VU G.below.size M)) v (Ab gy))
 have cq:Hid (∀wr x,IUp (NI No I) B W1 b (.slice a n O) Z T x wr->x.out.length<=3000->Calls Tryz.prog 265 #[.pointer (some ⟨b,0,none⟩),.int .i64 1] wr fun e w'=>w'=wr/\((x.out.length+1<=3000/\e=.returned (.tuple #[]))\/ (3000<x.out.length+1/\e=Flt 2))):=Ab (fun wr x G ao=>Rq (NI No I) B b 1 (.slice a n O) Z T x wr G.is ao (by decide))
 have f5:Hid (∀x wr,V=x->x.e=0->IUp (NI No I) B W1 b (.slice a n O) Z T x wr->Got No B w b (.slice a n O) Z T (.tuple #[]) V (.returned (.tuple #[])) wr):=Ab (fun x wr du a3 G=>by
  subst du;exact Got.from (.inl ⟨a3,rfl,G.less⟩) (au.mono d9) ck)
 have az:Hid (∀x wr,V=x->x.e≠0->Bl (NI No I) B W1 wr->Got No B w b (.slice a n O) Z T (.tuple #[]) V (Flt x.e) wr):=Ab (fun x wr du a3 e4=>by
  subst du;exact .inr ⟨a3,rfl,(au.mono d9).trans e4.below,ck.trans (e4.kp.weaken (fun _ Y=>.inl Y)) (by omega)⟩)
 have bz:Hid (∀(f:Nat) (E x:US) (k v),E.p<=x.p->x.p<=8*n->x.e=0->x.out.length<=3000->uplace H (rowB bs n) x=(k,v)->v.e=0->v.p<=8*n/\v.out.length<=3000/\E.p<v.p):=Ab (fun f E x k v ao ax a5 a1 aw ar=>by
  have aj:=Ix H (rowB bs n) x (by omega);have bo:=Gm H (rowB bs n) x;have bh:=KE H (rowB bs n) x a5 (by rw[aw];exact ar);rw[aw]at aj bo bh;rw[c5]at aj;exact⟨aj,by rw[bo.1];exact a1,XO ao bh⟩)
 have dm:=Ab (IUp.refl ep);obtain⟨a7,ak,a3⟩:∃a7 ak,uplace H (rowB bs n) u=(a7,ak):=⟨_,_,rfl⟩
 have fk:=Ab (Aa bq W1 u (Aa dm) cw db a7 ak a3);have d5:=Ab (Aa bz 0 u u a7 ak (VB _) cw db ee a3)
 have c7:Hid (V=if ak.e≠0 then ak else GE (rowB bs n) H lb F a7 ak):=Ab (by
  have:=Aa ct
  unfold Hk at this;rw[a3]at this;exact this.symm)
 have hf:W1.cell? ⟨I,0,none⟩=some (DV g1 af):=Ac co;have h2:=df.few;have f8:=Ab bn;clear Y df cw db ee b9 e5 bc b8 et ba fi ct au ck co ep ce ew fj a3 hj la2 g5 lb2 bn;go_enter Tryz.func250,Tryz.ntmps250
 go_wp2_with fail
 refine(Aa fk).mono ?_;rintro e gn M
 rcases M with ⟨e0,rfl,G⟩|⟨e0,rfl,ek⟩
 rotate_left
 . have f9:=Ab ek;have ah:Hid (V=ak):=Ab (by rw[Aa c7,if_pos e0]);clear ek;go_wp2;exact⟨rfl,Aa az ak gn (Aa ah) e0 (Aa f9)⟩
 have fh:=Ab ((Aa dm).trans G);obtain⟨d6,em,g0⟩:=Aa d5 e0;have fm:Hid (V=GE (rowB bs n) H lb F a7 ak):=Ab (by rw[Aa c7,if_neg (fun Y=>Y e0)]);clear G fk d5 c7 hf dm;go_wp2;go_loopw [4] (fun aa wr=>∃(k f:Nat) (x:US),aa=.int .i64 (k:Int)/\Hid (x.p<=8*n/\x.out.length<=3000/\x.e=0)/\Hid (8*n+1-x.p<=f)/\Hid (IUp (NI No I) B W1 b (.slice a n O) Z T x wr)/\Hid (V=GE (rowB bs n) H lb f k x)) (fun _ wr=>NY n b wr)
 case atStart=>
  have fq:Hid (8*n+1-ak.p<=F):=Ab (by omega);exact⟨a7,F,ak,rfl,Ab ⟨d6,em,e0⟩,fq,fh,fm⟩
 case round=>
  clear fh fm d6 em g0 e0;obtain⟨k,dt,E,rfl,fu,di,al,b7⟩:=hrel;obtain⟨dj,dq,bu⟩:=Aa fu
  by_cases dp:k=256
  . have ah:Hid (V=E):=Ab (by
     rw[Aa b7]
     cases dt with
     |zero=>rfl
     |succ f=>show (if k=256 then E else _)=_;rw[if_pos dp])
    subst dp;clear b7;go_wp2;go_end0
    exact Aa f5 E wr (Aa ah) bu (Aa al)
  obtain⟨f,rfl⟩:∃f,dt=f+1:=⟨dt-1,by have:=Aa di;omega⟩
  have hx:=Aa di
  have av:Hid (V=if (Co (rowB bs n) lb k E).e≠0 then Co (rowB bs n) lb k E else if (uplace H (rowB bs n) (Co (rowB bs n) lb k E)).2.e≠0 then (uplace H (rowB bs n) (Co (rowB bs n) lb k E)).2 else GE (rowB bs n) H lb f (uplace H (rowB bs n) (Co (rowB bs n) lb k E)).1 (uplace H (rowB bs n) (Co (rowB bs n) lb k E)).2):=Ab (by
   rw[Aa b7];show (if k=256 then E else _)=_
   rw[if_neg dp])
  have h0:¬(k:Int)=256:=by omega
  clear b7 di
  by_cases cz:k<256
  . have gh:(k:Int)<256:=by omega
    have a2:Hid (Co (rowB bs n) lb k E=if 3000<E.out.length+1 then {E with e:=2}else {E with out:=E.out++ [k]}):=Ab (by unfold Co;rw[if_pos cz]);go_wp2_with fail
    refine(Aa cq wr E (Aa al) dq).mono ?_;rintro e w3 ⟨rfl,M⟩
    rcases M with ⟨hl,rfl⟩|⟨hl,rfl⟩
    rotate_left
    . have ah:Hid (V= {E with e:=2}):=Ab (by
       rw[Aa av,Aa a2,if_pos hl,if_pos (show ({E with e:=2}:US).e≠0 from (by decide:(2:Int)≠0))])
      clear hl;go_wp2;exact⟨rfl,Aa az {E with e:=2} _ (Aa ah) (by decide:(2:Int)≠0) (Aa al).bl⟩
    have bw:Hid (V=if (uplace H (rowB bs n) {E with out:=E.out++ [k]}).2.e≠0 then (uplace H (rowB bs n) {E with out:=E.out++ [k]}).2 else GE (rowB bs n) H lb f (uplace H (rowB bs n) {E with out:=E.out++ [k]}).1 (uplace H (rowB bs n) {E with out:=E.out++ [k]}).2):=Ab (by
     have a8:Co (rowB bs n) lb k E= {E with out:=E.out++ [k]}:=by rw[Aa a2,if_neg (by omega)]
     have:=Aa av
     rw[a8,if_neg (fun Y=>Y bu)]at this;exact this)
    obtain⟨gi,gj,f3,g9,f4⟩:=info_parts Gz;have cd:=(Aa al).is;have h7:=cd.lt;obtain⟨ia,hw,ii,fp,dz,c8,fo,ff,e6,eb⟩:=cd.rows;obtain⟨L,de⟩:=exq (E.out.length);have cj:=c8;rw[de]at cj;have h5:L+1<=3000:=by omega
    obtain⟨h3,hz,rfl⟩:=An cj;have ft:=Ab cj;have dy:=Ab cd;have ci:=Ab dz;have hq:=Ab c8;have hg:=Ab fo;have g7:=Ab ff;have g4:=Ab e6;have f6:=Ab eb;have e8:=Ab de;have h8:IntKind.u8.wrap (k:Int)=(k:Int):=by unfold IntKind.wrap;simp[IntKind.bits,IntKind.signed];omega
    have h4:=(Aa al).below.size;clear cd dz c8 fo ff e6 eb cj de fp av a2;go_wp2_with (at_builtin;refine wpList_append_own_at _ rfl _ _ 23 rfl (b+1) 5 gi (.int .u8 0) 1 1 Tryz.underlying23 gj f3 g9 f4 rfl (by decide) _ L (u8s E.out) rfl ((Aa ft).alloc _) ⟨_,0,none⟩ 1 1 [.int .u8 (k:Int)] rfl rfl (cell_one_new _ _ _) (Bc rfl) (by unfold maxLen;omega) (by omega) (by simp;omega) ?_)
    intro v' bk da d7 _ fg;obtain⟨fw,gz,gx,_,_⟩:=Ba da (by omega);obtain⟨bh,h1,ey⟩:=IIs.said (c:=k) (v':=v') (Aa dy).base (Aa dy).no (Aa ci) (Aa hq) (Aa hg) (Aa g7) (Aa g4) (Aa f6) (fun g M=>Aa f8 g (by omega)) (by rw[Aa e8];exact da) d7 (by simpa using fg);have b3:=Ab ((Aa al).trans ey);have ho:(E.out++ [k]).length<=3000:=by rw[VE,Aa e8];simp only[VJ,WE];omega
    subst gx;clear ey da d7 fg;obtain⟨ed,hu⟩:=exq (bk.setCell ⟨b,2,none⟩ (.slice (some ⟨fw,0,none⟩) (L+1) gz));rw[hu]at b3;obtain⟨gw,gv⟩:=Aa c9 ed _ (Aa b3);obtain⟨ae,U,ar⟩:∃ae U,uplace H (rowB bs n) {E with out:=E.out++ [k]}=(ae,U):=⟨_,_,rfl⟩
    have cp:=Ab (Aa bq ed {E with out:=E.out++ [k]} (Aa b3) (dj) (bu) ae U ar);have dc:=Ab (Aa bz f E {E with out:=E.out++ [k]} ae U (VB _) (dj) (bu) (ho) ar)
    have bj:Hid (V=if U.e≠0 then U else GE (rowB bs n) H lb f ae U):=Ab (by
     have:=Aa bw
     rw[ar]at this;exact this)
    clear ar bq ds cq cm bz bw;go_wp2_with fail
    refine(Aa cp).mono ?_;rintro e w6 M
    rcases M with ⟨ai,rfl,bi⟩|⟨ai,rfl,bv⟩
    . have bm:=Ab ((Aa b3).trans bi);clear bi;obtain⟨cy,cv,fx⟩:=Aa dc ai;have a6:Hid (V=GE (rowB bs n) H lb f ae U):=Ab (by rw[Aa bj,if_neg (fun Y=>Y ai)]);go_wp2;go_roundw
      case rel=>exact⟨ae,f,U,rfl,Ab ⟨cy,cv,ai⟩,Ab (by omega),bm,a6⟩
      case measure=>rw[Mb (Aa bm).is,Mb (Aa al).is];omega
    . have b0:=Ab ((Aa b3).bl.trans bv);have a6:Hid (V=U):=Ab (by rw[Aa bj,if_pos ai]);clear bv;go_wp2;exact⟨rfl,Aa az U w6 (Aa a6) ai (Aa b0)⟩
  . have gh:¬(k:Int)<256:=by omega
    by_cases dx:285<k
    . have g8:¬(k:Int)<=285:=by omega
      have ah:Hid (V= {E with e:=8}):=Ab (by
       have a8:Co (rowB bs n) lb k E= {E with e:=8}:=by unfold Co;rw[if_neg cz,if_pos dx]
       rw[Aa av,a8,if_pos (show ({E with e:=8}:US).e≠0 from (by decide:(8:Int)≠0))])
      clear av;go_wp2_with fail
      refine(Cf 8 _).mono ?_;rintro e w3 ⟨rfl,rfl⟩;go_wp2;exact⟨rfl,Aa az {E with e:=8} _ (Aa ah) (by decide:(8:Int)≠0) (Aa al).bl⟩
    have g8:(k:Int)<=285:=by omega
    obtain⟨eg,ei,dh⟩:=GB k (by omega) (by omega);have dl:=Ab (fun w=>Xw k w (by omega) (by omega));obtain⟨bb,ay,c6⟩:∃bb ay,Df k=(bb,ay):=⟨_,_,rfl⟩
    rw[c6]at dl eg ei dh;obtain⟨r,ac,a5⟩:∃r ac,uget (rowB bs n) ay E=(r,ac):=⟨_,_,rfl⟩
    obtain⟨d,aa,a1⟩:∃d aa,Me (rowB bs n) lb ac=(d,aa):=⟨_,_,rfl⟩
    have a2:Hid (Co (rowB bs n) lb k E=if ac.e≠0 then ac else if aa.e≠0 then aa else Jh d (bb+r) aa):=Ab (by unfold Co;rw[if_neg cz,if_neg dx,c6,a5,a1])
    have ic:r<32:=by
     have:=Nm (rowB bs n) ay E
     rw[a5]at this;exact VG this (VO (j:=5) (by decide) dh)
    have f7:ac.p<=8*n/\E.p<=ac.p/\ac.out=E.out:=by
     have aj:=Gr (rowB bs n) ay E (by omega);have bo:=R0 (rowB bs n) ay E;have bh:=Cm (rowB bs n) ay E;rw[a5]at aj bo bh;rw[c5]at aj;exact⟨aj,bo,bh⟩
    have gd:aa.p<=8*n/\ac.p<=aa.p/\aa.out=ac.out:=by
     have aj:=Vm (rowB bs n) lb ac (by omega);rw[a1,c5]at aj;exact⟨aj.2.2.2,aj.2.2.1,aj.1⟩
    obtain⟨p31,p32,p33⟩:=f7;obtain⟨p41,p42,p43⟩:=gd
    have fe:aa.e=0->1<=d/\d<=80000:=fun e=>by
     have:=Z1e (rowB bs n) lb ac (by rw[a1];exact e)
     rw[a1]at this;exact this
    have fy:=Ab fe;have en:=Ab (Aa hs wr E (Aa al) dj bu bb ay r ac (by omega) (by omega) a5);have ci:=Ab (fun eo (G:IUp (NI No I) B W1 b (.slice a n O) Z T ac eo) he3=>Aa ds eo ac G p31 he3 d aa a1);clear c6 a5 a1 fe;dsimp only at dl eg ei dh;go_wp2_with fail
    refine(Aa dl _).mono ?_;rintro e w3 ⟨rfl,rfl⟩;go_wp2_with fail
    refine(Aa en).mono ?_;rintro e w3 M
    rcases M with ⟨e3,rfl,e1⟩|⟨e3,rfl,e7⟩
    rotate_left
    . have gg:=Ab ((Aa al).bl.trans e7)
      have ah:Hid (V=ac):=Ab (by
       have a8:Co (rowB bs n) lb k E=ac:=by rw[Aa a2,if_pos e3]
       have:=Aa av
       rw[a8,if_pos e3]at this;exact this)
      clear e7;go_wp2;exact⟨rfl,Aa az ac w3 (Aa ah) e3 (Aa gg)⟩
    have cg:=Ab ((Aa al).trans e1);obtain⟨h6,ib⟩:=Aa c9 w3 _ (Aa cg);have e9:=Ab (Aa ci w3 (Aa cg) e3);clear e1 ci;go_wp2_with fail
    refine(Aa e9).mono ?_;rintro e ej M
    rcases M with ⟨bd,rfl,d8⟩|⟨bd,rfl,eh⟩
    rotate_left
    . have gu:=Ab ((Aa cg).bl.trans eh)
      have ah:Hid (V=aa):=Ab (by
       have a8:Co (rowB bs n) lb k E=aa:=by rw[Aa a2,if_neg (fun Y=>Y e3),if_pos bd]
       have:=Aa av
       rw[a8,if_pos bd]at this;exact this)
      clear eh;go_wp2;exact⟨rfl,Aa az aa ej (Aa ah) bd (Aa gu)⟩
    have dn:=Ab ((Aa cg).trans d8);obtain⟨ht,cu⟩:=Aa fy bd;obtain⟨ag,aw⟩:=exq (Jh d (bb+r) aa);have hh:=Ab (Aa cm ej aa (Aa dn) bd (by rw[p43,p33];exact dq) d (bb+r) ag ht cu (by omega) aw);have dr:Hid (Co (rowB bs n) lb k E=ag):=Ab (by rw[Aa a2,if_neg (fun Y=>Y e3),if_neg (fun Y=>Y bd),aw])
    have gq:Hid (ag.e=0->ag.p=aa.p/\ag.out.length<=3000):=Ab (fun e=>by
     have:=Ru d (bb+r) aa (by rw[aw];exact e)
     rw[aw]at this;exact⟨this.1,this.2.2 (by rw[p43,p33];exact dq)⟩)
    clear d8 aw e9 en;go_wp2_with fail
    refine(Aa hh).mono ?_;rintro e bk M
    rcases M with ⟨a4,rfl,eu⟩|⟨a4,rfl,dw⟩
    rotate_left
    . have b0:=Ab ((Aa dn).bl.trans dw)
      have ah:Hid (V=ag):=Ab (by
       have:=Aa av
       rw[Aa dr,if_pos a4]at this;exact this)
      clear dw;go_wp2;exact⟨rfl,Aa az ag bk (Aa ah) a4 (Aa b0)⟩
    have b4:=Ab ((Aa dn).trans eu);obtain⟨ie,hp⟩:=Aa gq a4
    have bw:Hid (V=if (uplace H (rowB bs n) ag).2.e≠0 then (uplace H (rowB bs n) ag).2 else GE (rowB bs n) H lb f (uplace H (rowB bs n) ag).1 (uplace H (rowB bs n) ag).2):=Ab (by
     have:=Aa av
     rw[Aa dr,if_neg (fun Y=>Y a4)]at this;exact this)
    clear eu av a2 dr;obtain⟨gw,gv⟩:=Aa c9 bk _ (Aa b4);obtain⟨ae,U,ar⟩:∃ae U,uplace H (rowB bs n) ag=(ae,U):=⟨_,_,rfl⟩
    have cp:=Ab (Aa bq bk ag (Aa b4) (by omega) (a4) ae U ar);have dc:=Ab (Aa bz f E ag ae U (by omega) (by omega) (a4) (hp) ar)
    have bj:Hid (V=if U.e≠0 then U else GE (rowB bs n) H lb f ae U):=Ab (by
     have:=Aa bw
     rw[ar]at this;exact this)
    clear ar bq ds cq cm bz bw;go_wp2_with fail
    refine(Aa cp).mono ?_;rintro e w6 M
    rcases M with ⟨ai,rfl,bi⟩|⟨ai,rfl,bv⟩
    . have bm:=Ab ((Aa b4).trans bi);clear bi;obtain⟨cy,cv,fx⟩:=Aa dc ai;have a6:Hid (V=GE (rowB bs n) H lb f ae U):=Ab (by rw[Aa bj,if_neg (fun Y=>Y ai)]);go_wp2;go_roundw
      case rel=>exact⟨ae,f,U,rfl,Ab ⟨cy,cv,ai⟩,Ab (by omega),bm,a6⟩
      case measure=>rw[Mb (Aa bm).is,Mb (Aa al).is];omega
    . have b0:=Ab ((Aa b4).bl.trans bv);have a6:Hid (V=U):=Ab (by rw[Aa bj,if_pos ai]);clear bv;go_wp2;exact⟨rfl,Aa az U w6 (Aa a6) ai (Aa b0)⟩
theorem RG:∀(args:Array Value) (w:World),(callFunc 205 args).run Tryz.prog w=.ok (.enter 205 args) w:=fun _ _=>by kernel_rfl
theorem EL (a:Option Addr)(n G:Nat)(bs:List Nat)(w:World)(bo:n<=6000)(E:US)(T:∀(No:Nat->Prop) (B b:Nat) (W:World),IIs No B W b (.slice a n G) .nilFunc .nilFunc US0->(∀g,w.heap.size+2<=g->¬No g)->(∀g,g<w.heap.size->No g)->W.heap.size=w.heap.size+2->B<=b->Below w.heap.size w W->
 Calls Tryz.prog 205 #[.pointer (some ⟨b,0,none⟩)] W fun e w'=>(E.e=0/\e=.returned (.tuple #[])/\∃g1 g2,IUp No B W b (.slice a n G) g1 g2 E w')\/ (E.e≠0/\e=Flt E.e/\Below B W w'/\Kp No W w')) (bb:0<=E.e) (az:E.e=0->E.p<=48000):
 Calls Tryz.prog 166 #[.slice a n G] w fun e w'=>Below w.heap.size w w'/\((E.e=0/\∃ov kv,e=.returned (.tuple #[ov,.int .i64 (((E.p+7)/8:Nat):Int),kv,.int .i64 0])/\w'.ownsRow (w.heap.size+1) 5 1 ov E.out.length (u8s E.out)/\w'.ownsRow (w.heap.size+1) 3 1 kv E.ks.length (i64s E.ks))\/ (E.e≠0/\e=.returned (.tuple #[.slice none 0 0,.int .i64 0,.slice none 0 0,.int .i64 E.e]))):=by
 have bm:∀(av:Fn) (first G:Array Value) (w:World),(Instr.makeFunc av first G).run Tryz.prog w=.ok (.func av first G) w:=fun _ _ _ _=>rfl
 have bg:=Ab T;clear T;go_enter Tryz.func166,Tryz.ntmps166
 go_wp2_with fail
 obtain⟨H,U⟩:=exq (w.alloc (.cells #[.slice a n G,.int .i64 0,.slice none 0 0,.slice none 0 0,.nilFunc,.nilFunc] 284));have aj:H.heap.size=w.heap.size+1:=by rw[<-U];simp
 have bd:H.heap[w.heap.size]? =some (.cells (icells (.slice a n G) .nilFunc .nilFunc US0 (.slice none 0 0) (.slice none 0 0)) 284 (0,0)):=by rw[<-U];exact heap_alloc_new _ _
 have aw:Below w.heap.size w H:=by rw[<-U];exact(Below.refl _ _).alloc (VB _) _
 rw[U];clear U;obtain⟨No,M⟩:∃No:Nat->Prop,No=fun g=>g<w.heap.size\/g=w.heap.size+1:=⟨_,rfl⟩
 have ar:IIs No w.heap.size (H.alloc (.cells #[.int .i64 0] 24)) w.heap.size (.slice a n G) .nilFunc .nilFunc US0:=by
  refine⟨VB _,by rw[M];omega,.slice none 0 0,.slice none 0 0,(Below.heap_alloc _ _ _ (by omega)).trans bd,World.ownsRow_nil _ _ _ _,World.ownsRow_nil _ _ _ _,.inl rfl, ?_, ?_⟩<;>(intro g e;simp[Value.ownBlock]at e)
 have a1:=Aa bg No w.heap.size w.heap.size _ ar (fun g F=>by rw[M];omega) (fun g F=>by rw[M];exact .inl F) (by simp[aj]) (VB _) (aw.alloc (by omega) _)
 have a2:=JC 205 #[.pointer (some ⟨w.heap.size,0,none⟩)] (fun x w'=>(x:Int)=E.e/\(E.e=0->∃g1 g2,IIs No w.heap.size w' w.heap.size (.slice a n G) g1 g2 E)/\Below w.heap.size w w'/\w.heap.size+2<=w'.heap.size) H RG (a1.mono (fun e w' F=>by
  have a5:Below w.heap.size w (H.alloc (.cells #[.int .i64 0] 24)):=aw.alloc (by omega) _;have au:(H.alloc (.cells #[.int .i64 0] 24)).heap[H.heap.size]? =some (.cells #[.int .i64 0] 24 (0,0)):=heap_alloc_new _ _;have ap:No H.heap.size:=by rw[M,aj];exact .inr rfl
  rcases F with ⟨e0,rfl,g1,g2,I⟩|⟨e0,rfl,T,hK⟩
  . have ak:=I.below.size;simp only[World.size_alloc]at ak;exact⟨⟨0,⟨by rw[e0];rfl,fun _=>⟨g1,g2,I.is⟩,a5.trans I.below,by omega⟩,.inl ⟨rfl,rfl⟩⟩,(I.kp _ (by simp) ap).trans au⟩
  . have ak:=T.size;simp only[World.size_alloc]at ak;have O:((E.e.toNat:Nat):Int)=E.e:=YU bb;exact⟨⟨E.e.toNat,⟨O,fun h=>absurd h e0,a5.trans T,by omega⟩,.inr ⟨by omega,by rw[O]⟩⟩,(hK _ (by simp) ap).trans au⟩))
 refine a2.mono ?_;rintro e Z ⟨x,ao,⟨O,ae,ai,bk⟩,rfl,bi,ah,ac⟩;have a3:=Ab (ai.trans (ac w.heap.size (by omega)));clear a2 a1 ar
 by_cases e0:E.e=0
 . obtain⟨g1,g2,I⟩:=ae e0;have az:=az e0;have al:x=0:=by omega
   subst al;obtain⟨ov,kv,c2,a7,ay,ag,af,bc,a4,ax⟩:=I.rows;have Y:∀g,g<ao.heap.size->g≠w.heap.size+1->Z.heap[g]? =ao.heap[g]? :=fun g bf ba=>ah g bf (by rw[aj];exact ba)
   have aa:=(Y w.heap.size (by omega) (by omega)).trans ay;have a8:=Ab (Au ag (fun g F=>Y g (ag.lt g F).2 (fun h=>a4 g F (by rw[M,h];exact .inr rfl))));have a9:=Ab (Au af (fun g F=>Y g (af.lt g F).2 (fun h=>ax g F (by rw[M,h];exact .inr rfl))));have bj:Z.cell? ⟨w.heap.size,1,none⟩=some (.int .i64 (E.p:Int)):=Ac aa;have bn:Z.cell? ⟨w.heap.size,2,none⟩=some ov:=Ac aa;have bh:Z.cell? ⟨w.heap.size,3,none⟩=some kv:=Ac aa;clear I ay ag af bc a4 ax aa Y ah ac ae ai c2 a7 O;go_wp2;go_quiet (fail)
   go_wp2;refine bodyPost_ret (v:=.tuple #[ov,.int .i64 (((E.p:Int)+7)/8),kv,.int .i64 0]) ?_ rfl ⟨Ae (Aa a3) _,.inl ⟨e0,ov,kv,by rw[show (((E.p+7)/8:Nat):Int)=((E.p:Int)+7)/8 by omega],Au (Aa a8) (fun _ _=>rfl),Au (Aa a9) (fun _ _=>rfl)⟩⟩
   first|rfl|kernel_rfl
 . have al:((x:Int)==0)=false:=by rw[beq_eq_false_iff_ne];omega
   have a6:=Ab O;clear ah ac ae ai O;go_wp2;refine bodyPost_ret (v:=.tuple #[.slice none 0 0,.int .i64 0,.slice none 0 0,.int .i64 (x:Int)]) ?_ rfl ⟨Aa a3,.inr ⟨e0,by rw[Aa a6]⟩⟩
   first|rfl|kernel_rfl
theorem Z6 (b:Nat)(a:Option Addr)(F Y:Nat)(l:List Int)(w:World)(T:l.length=F)(ae:F<=1000000)(U:RowIn .i64 w a l)(G:errL l≠0):
 Calls Tryz.prog 270 #[.pointer (some ⟨b,0,none⟩),.slice a F Y] w fun e w'=>e=Flt (errL l)/\Below w.heap.size w w':=by
 have H:=Ab (QL a F Y l (w.alloc (.cells #[.pointer (some ⟨b,0,none⟩)] 280)) T (by omega) (U.alloc _) G);have aa:Hid (Below w.heap.size w (w.alloc (.cells #[.pointer (some ⟨b,0,none⟩)] 280))):=Ab ((Below.refl _ _).alloc (VB _) _);have hb:(errL l !=0)=true:=by rw[bne_iff_ne];exact G
 obtain⟨E,I⟩:=exq (errL l);rw[I]at H hb ⊢;clear I G U T;go_enter Tryz.func270,Tryz.ntmps270
 go_wp2_with fail
 refine(Aa H).mono ?_;rintro e M ⟨rfl,O⟩;have Z:Hid (Below w.heap.size w M):=Ab ((Aa aa).trans (O.mono (by simp)));clear O;go_wp2_with fail
 refine(Cf E M).mono ?_;rintro e ac ⟨rfl,rfl⟩;go_wp2;exact⟨rfl,rfl,Aa Z⟩
def Z8s (b:Nat)(l:List Int)(w:World)(e:Ending)(w':World):Prop:=
 Below w.heap.size w w'/\((errL l=0/\∃gr gm mb nn,e=.returned (DV gr gm)/\w.heap.size<=gr/\w.heap.size<=gm/\w.heap.size<=mb/\mb<w'.heap.size/\DIs w' gr gm mb nn b l)\/ (errL l≠0/\e=Flt (errL l)))
theorem Kt (b:Nat)(a:Option Addr)(E I:Nat)(l:List Int)(w:World)(M:l.length=E)(Y:E<=1000000)(O:RowIn .i64 w a l):
 Calls Tryz.prog 270 #[.pointer (some ⟨b,0,none⟩),.slice a E I] w fun e w'=>Z8s b l w e w':=by
 by_cases F:errL l=0
 . refine(Nr b a E I l w M O (Ch F)).mono ?_;rintro e w' ⟨gr,gm,mb,nn,H,G,ac,Z,U,aa,T⟩;exact⟨T,.inl ⟨F,gr,gm,mb,nn,H,G,ac,Z,U,aa⟩⟩
 . refine(Z6 b a E I l w M Y O F).mono ?_;rintro e w' ⟨H,G⟩;exact⟨G,.inr ⟨F,H⟩⟩
def NJ (No:Nat->Prop)(N:Nat):Nat->Prop:=fun g=>No g\/N<=g
def NK (No:Nat->Prop)(N M:Nat):Nat->Prop:=fun g=>No g\/ (N<=g/\g<M)
theorem IIs.back {F ah:Nat->Prop}{B b:Nat}{w w':World}{R aa T g1 g2:Value}{u H:US}(E:IIs F B w b R aa T u)(Z:IIs ah B w' b R g1 g2 H)(hK:Mx b w w'):IIs F B w' b R g1 g2 H:=by
 obtain⟨ov,kv,ag,af,aj,ap,al,ai,ae,O⟩:=E.rows;obtain⟨G,I,b2,Y,M,U,b6,ac,ak,ao⟩:=Z.rows
 have e2:G=ov:=by
  have:=(b2.symm.trans (hK 2 (by decide))).trans ag
  exact VM this
 have e3:I=kv:=by
  have:=(Y.symm.trans (hK 3 (by decide))).trans af
  exact VM this
 subst e2;subst e3;exact⟨E.base,E.no,G,I,M,U,b6,ac,ae,O⟩
theorem IIs.newer {No:Nat->Prop}{B b:Nat}{w:World}{R F G:Value}{u:US}(E:IIs No B w b R F G u):IIs (NJ No w.heap.size) B w b R F G u:=
 E.more (fun e=>by
  rcases e with e|e
  . exact E.no e
  . have:=E.lt;omega) (fun g H=>H)
theorem IIs.weak {No No':Nat->Prop}{B b:Nat}{w:World}{R F G:Value}{u:US}(E:IIs No B w b R F G u)(H:∀g,No' g->No g):IIs No' B w b R F G u:=
 E.more (fun e=>E.no (H b e)) (fun g I=>.inl (H g I))
theorem Rd.wide {w:World}{No No':Nat->Prop}{a:Option Addr}{n:Nat}{bs:List Nat}(E:Rd w No a n bs)(I:∀g,No g->No' g):Rd w No' a n bs:=⟨E.len,E.few,E.byt,E.val,fun G F H e2=>I _ (E.no G F H e2)⟩
theorem Z7c {No:Nat->Prop}{B:Nat}{w w':World}(E:Below w.heap.size w w')(G:B<=w.heap.size):Bl No B w w':=⟨E.mono G,fun g F _=>E.block g F⟩
theorem IIs.past {No:Nat->Prop}{B b:Nat}{w w':World}{R I M:Value}{u:US}(E:IIs No B w b R I M u)(F:Below w.heap.size w w'):IIs No B w' b R I M u:=by
 obtain⟨ov,kv,T,H,O,U⟩:=E.ex;exact⟨E.base,E.no,ov,kv,(F.block b E.lt).trans T,Au H (fun g G=>F.block g (H.lt g G).2),Au O (fun g G=>F.block g (O.lt g G).2),U⟩
structure Rk (No:Nat->Prop)(B:Nat)(w:World)(b:Nat)(R f1 f2:Value)(u:US)(w':World):Prop where
 is:IIs (NJ No w.heap.size) B w' b R f1 f2 u
 bl:Bl No B w w'
theorem Rk.refl {No:Nat->Prop}{B b:Nat}{w:World}{R F E:Value}{u:US}(G:IIs No B w b R F E u):Rk No B w b R F E u w:=⟨G.newer,Bl.refl _ _ _⟩
theorem Rk.num {No:Nat->Prop}{B b:Nat}{w H I:World}{R F G:Value}{u v:US}(E:Rk No B w b R F G u H)(k:IUp (NJ No w.heap.size) B H b R F G v I):Rk No B w b R F G v I:=⟨k.is,E.bl.trans ⟨k.below,k.kp.weaken (fun _ E=>.inl E)⟩⟩
theorem Rk.past {No:Nat->Prop}{B b:Nat}{w F G:World}{R H I:Value}{u:US}(E:Rk No B w b R H I u F)(k:Below F.heap.size F G):Rk No B w b R H I u G:=⟨E.is.past k,E.bl.trans (Z7c k (VU E.is.base (YX E.is.lt)))⟩
theorem Rk.drewN {No:Nat->Prop}{B b:Nat}{w E:World}{R G F:Value}{u:US}(H:Rk No B w b R G F u E)(q:Nat):Rk No B w b R G F u (E.drewN q):=H.past (Ae (Below.refl _ _) q)
def ARow (T:TypeId)(w:World)(g:Nat)(xs:List Int):Prop:=w.heap[g]? =some (.cells (iv xs).toArray T (0,0))
theorem ARow.lt {T:TypeId}{w:World}{E:Nat}{xs:List Int}(F:ARow T w E xs):E<w.heap.size:=(VK.1 F).1
theorem Z83 (xs:List Int)(j:Nat)(E:j<xs.length):(iv xs).toArray[j]? =some (.int .i64 (xs.getD j 0)):=by simp[iv,List.getD,E]
theorem ARow.cell {T:TypeId}{w:World}{E:Nat}{xs:List Int}(F:ARow T w E xs)(j:Nat)(G:j<xs.length):w.cell? ⟨E,j,none⟩=some (.int .i64 (xs.getD j 0)):=(Ac F).trans (Z83 xs j G)
theorem ARow.frozen {T:TypeId}{w:World}{E:Nat}{xs:List Int}(F:ARow T w E xs)(j:Nat):w.frozen? ⟨E,j,none⟩=false:=frozen_of_row w E j _ _ F
theorem ARow.row {T:TypeId}{w:World}{E:Nat}{xs:List Int}(F:ARow T w E xs):Row .i64 w E 0 xs:=fun j G=>by rw[WG];exact F.cell j G
theorem ARow.keep {T:TypeId}{w w':World}{E:Nat}{xs:List Int}(F:ARow T w E xs)(G:w'.heap[E]? =w.heap[E]?):ARow T w' E xs:=G.trans F
theorem ARow.set {T:TypeId}{w:World}{E:Nat}{xs:List Int}(F:ARow T w E xs)(i:Nat)(v:Int):ARow T (w.setCell ⟨E,i,none⟩ (.int .i64 v)) E (xs.set i v):=by
 unfold ARow;rw[heap_setCell_same w E i _ _ _ F];simp[iv,List.map_set]
theorem Ln {G:Func}{p u:Tmp}{H F:TypeId}(U:G.results= #[.cell p H,.cell u F])(E:Array Value)(w:World)(g1 g2:Nat)(I M:Value)
 (O:E.getD p undef=.pointer (some ⟨g1,0,none⟩)) (Y:E.getD u undef=.pointer (some ⟨g2,0,none⟩)) (Z:(loadVar H ⟨g1,0,none⟩).run Tryz.prog w=.ok I w) (T:(loadVar F ⟨g2,0,none⟩).run Tryz.prog w=.ok M w):
 (results G E).run Tryz.prog w=.ok (.tuple #[I,M]) w:=by
 have aa:E[p]?.getD undef=.pointer (some ⟨g1,0,none⟩):=by simpa using O
 have ac:E[u]?.getD undef=.pointer (some ⟨g2,0,none⟩):=by simpa using Y
 simp[results,U,aa,ac,asAddr,Z,T]
theorem ARow.range {T:TypeId}{w:World}{E:Nat}{xs:List Int}(F:ARow T w E xs):w.rangeAt E 0 (iv xs):=fun j v G=>by
 rw[WG];exact(Ac F).trans (by simpa using G)
theorem Cy (xs:List Int):(iv xs).toArray.all (·.oneCell')=true:=by
 simp[iv]
 intro x E;rfl
theorem Ei {F:Array Oper}{o:Oper}{a:Act}{W:World}{K:Act->World->Prop}{Q:Exit->Act->World->Prop}{U:Prop}(Z:o.guard=none)(T:TypeId)(x y:Operand)(H:o.op=.store T x y)
 (E:Nat) (xs:List Int) (O:a.eval x=.pointer (some ⟨E,0,none⟩)) (M:a.eval y=.agg (iv xs).toArray) (G:ARow T W E xs) (Y:(Tryz.prog.info? T).map (·.size)=some (iv xs).toArray.size) (I:K (a.put o.dst undef) W):if Region.wanted o (yielded F a.tmps)=true then Oper.wp Tryz.prog o a W K Q else U:=by
 have e:Region.wanted o (yielded F a.tmps)=true:=by unfold Region.wanted;rw[Z]
 rw[if_pos e];refine wp_store_row T x y H E _ O M T _ G Y rfl (Cy xs) ?_;rw[setRow_self W E _ T (0,0) G];exact I
theorem ARow.load {T:TypeId}{w:World}{E:Nat}{xs:List Int}(F:ARow T w E xs){d:TypeDesc}(G:Tryz.prog.underlying T=some d)(I:(match d with| .struct _| .array _ _=>true|_=>false)=true)(H:(Tryz.prog.info? T).map (·.size)=some (iv xs).toArray.size):(loadVar T ⟨E,0,none⟩).run Tryz.prog w=.ok (.agg (iv xs).toArray) w:=
 run_loadVar_row w E T T _ (0,0) d F G (by cases d<;>first|rfl|exact I) H
theorem Xn (l:List Int)(k:Nat)(G:k<l.length):(l.take k++List.replicate (l.length-k) 0).set k (l.getD k 0)=l.take (k+1)++List.replicate (l.length-(k+1)) 0:=by
 have E:(l.take k).length=k:=by simp;omega
 rw[List.set_append_right _ _ (by omega),E,XW];obtain⟨q,F⟩:∃q,l.length-k=q+1:=⟨l.length-k-1,by omega⟩
 have e:l.take (k+1)=l.take k++ [l.getD k 0]:=by rw[XM];simp[List.getD,G]
 rw[F,List.replicate_succ,VC,e,show l.length-(k+1)=q by omega];simp
theorem Z54:(List.range 288).all (fun k=>Ky.getD k 0==(if k<144 then 8 else if k<256 then 9 else if k<280 then 7 else 8))=true:=by decide+kernel
theorem PP {k:Nat}(E:k<288):Ky.getD k 0=if k<144 then 8 else if k<256 then 9 else if k<280 then 7 else 8:=by
 have:=WX.1 Z54 k (by simpa using E)
 simpa using this
theorem Z53:(List.range 32).all (fun k=>Ir.getD k 0==5)=true:=by decide+kernel
theorem Z0 {k:Nat}(E:k<32):Ir.getD k 0=5:=by
 have:=WX.1 Z53 k (by simpa using E)
 simpa using this
theorem Mk:Good Ky:=Ch (by decide+kernel)
theorem Mi:Good Ir:=Ch (by decide+kernel)
theorem Mj:Ky.length=288:=by decide+kernel
theorem Fk:Ir.length=32:=by decide
theorem Ya:(Tryz.prog.info? 247).map (·.size)=some 288:=by kernel_rfl
theorem CP:(Tryz.prog.info? 248).map (·.size)=some 32:=by kernel_rfl
theorem K7 (w:World):Calls Tryz.prog 180 #[] w fun e w'=>e=.returned (.tuple #[.agg (iv Ky).toArray,.agg (iv Ir).toArray])/\Below w.heap.size w w':=by
 have av:Below w.heap.size w ((w.alloc (.cells (iv (List.replicate 288 0)).toArray 247)).alloc (.cells (iv (List.replicate 32 0)).toArray 248)):=((Below.refl w.heap.size w).alloc (VB _) _).alloc (by simp) _;have a3:=Ab av;obtain⟨E,ae⟩:=exq (Ky);have Y:=Mj;have ac:= @PP;rw[ae]at Y;simp only[ae]at ac;have a6:=Ab ae;clear av ae;go_enter Tryz.func180,Tryz.ntmps180
 go_wp2;go_loopw [4] (fun i wr=>∃k:Nat,k<=288/\i=.int .i64 (k:Int)/\Hid (ARow 247 wr w.heap.size (E.take k++List.replicate (E.length-k) 0)/\ARow 248 wr (w.heap.size+1) (List.replicate 32 0)/\Below w.heap.size w wr)) (fun i _=>288-(intOf i).toNat)
 case atStart=>
  refine⟨0,by decide,rfl,Ab ⟨?_, ?_,Aa a3⟩⟩
  . rw[Y];exact(Below.heap_alloc _ _ _ (by simp)).trans ((heap_alloc_new _ _).trans (by kernel_rfl))
  . have e:w.heap.size+1=(w.alloc (.cells (iv (List.replicate 288 0)).toArray 247)).heap.size:=by simp
    rw[e];exact(heap_alloc_new _ _).trans (by kernel_rfl)
 case round=>
  obtain⟨k,bb,rfl,H⟩:=hrel
  by_cases Z:k<288
  . obtain⟨M,I,T⟩:=Aa H;have ah:(E.take k++List.replicate (E.length-k) 0).length=288:=by simp;omega
    have c:=M.cell k (by omega);have f:=M.frozen k;have F:=ac Z
    have O:Hid (∀v:Int,v=E.getD k 0->ARow 247 (wr.setCell ⟨w.heap.size,k,none⟩ (.int .i64 v)) w.heap.size (E.take (k+1)++List.replicate (E.length-(k+1)) 0)/\ARow 248 (wr.setCell ⟨w.heap.size,k,none⟩ (.int .i64 v)) (w.heap.size+1) (List.replicate 32 0)/\Below w.heap.size w (wr.setCell ⟨w.heap.size,k,none⟩ (.int .i64 v))):=by
     intro v ar;have aa:=Ad wr w.heap.size k (.int .i64 v);refine⟨?_,I.keep (aa.block _ I.lt (fun e=>by have:=VM e;omega)),T.grown aa T.size (fun j e=>by rw[<-VM e];exact VB _)⟩;have:=M.set k v
     rw[ar,Xn E k (by omega)]at this;rw[ar];exact this
    have a4:(k:Int)<288:=by omega
    clear H M I T ah ac;generalize (E.take k++List.replicate (E.length-k) 0).getD k 0=old at c
    by_cases a1:k<144
    . rw[if_pos a1]at F;have a8:(k:Int)<144:=by omega
      have G:=Ab (Aa O 8 F.symm);clear O F;go_wp2;go_roundw
      case rel=>exact⟨k+1,by omega,by go_num,G⟩
      case measure=>simp[intOf];omega
    . rw[if_neg a1]at F;have a8:¬(k:Int)<144:=by omega
      by_cases au:k<256
      . rw[if_pos au]at F;have bd:(k:Int)<256:=by omega
        have G:=Ab (Aa O 9 F.symm);clear O F;go_wp2;go_roundw
        case rel=>exact⟨k+1,by omega,by go_num,G⟩
        case measure=>simp[intOf];omega
      . rw[if_neg au]at F;have bd:¬(k:Int)<256:=by omega
        by_cases ax:k<280
        . rw[if_pos ax]at F;have a7:(k:Int)<280:=by omega
          have G:=Ab (Aa O 7 F.symm);clear O F;go_wp2;go_roundw
          case rel=>exact⟨k+1,by omega,by go_num,G⟩
          case measure=>simp[intOf];omega
        . rw[if_neg ax]at F;have a7:¬(k:Int)<280:=by omega
          have G:=Ab (Aa O 8 F.symm);clear O F;go_wp2;go_roundw
          case rel=>exact⟨k+1,by omega,by go_num,G⟩
          case measure=>simp[intOf];omega
  . obtain rfl:k=288:=by omega
    have ap:Hid (ARow 247 wr w.heap.size E/\ARow 248 wr (w.heap.size+1) (List.replicate 32 0)/\Below w.heap.size w wr):=by
     have:=Aa H
     rw[VV (by omega),Y,XW,ZI,XA]at this;exact Ab this
    clear H ac;generalize wr=bg at*;go_wp2;go_loopw [25] (fun i wr=>∃k:Nat,k<=32/\i=.int .i64 (k:Int)/\Hid (ARow 247 wr w.heap.size E/\ARow 248 wr (w.heap.size+1) (Ir.take k++List.replicate (Ir.length-k) 0)/\Below w.heap.size w wr)) (fun i _=>32-(intOf i).toNat)
    case atStart=>exact⟨0,by decide,rfl,ap⟩
    case round=>
     obtain⟨k,bb,rfl,H⟩:=hrel
     by_cases Z:k<32
     . obtain⟨M,I,T⟩:=Aa H;have ah:(Ir.take k++List.replicate (Ir.length-k) 0).length=32:=by simp[Fk];omega
       have c:=I.cell k (by omega);have f:=I.frozen k
       have G:Hid (ARow 247 (wr.setCell ⟨w.heap.size+1,k,none⟩ (.int .i64 5)) w.heap.size E/\ARow 248 (wr.setCell ⟨w.heap.size+1,k,none⟩ (.int .i64 5)) (w.heap.size+1) (Ir.take (k+1)++List.replicate (Ir.length-(k+1)) 0)/\Below w.heap.size w (wr.setCell ⟨w.heap.size+1,k,none⟩ (.int .i64 5))):=by
        have aa:=Ad wr (w.heap.size+1) k (.int .i64 5);refine⟨M.keep (aa.block _ M.lt (fun e=>by have:=VM e;omega)), ?_,T.grown aa T.size (fun j e=>by rw[<-VM e];omega)⟩;have:=I.set k 5
        rw[<-Z0 Z,Xn Ir k (by rw[Fk];exact Z)]at this;rw[<-Z0 Z];exact this
       have a4:(k:Int)<32:=by omega
       clear H M I T ah;generalize (Ir.take k++List.replicate (Ir.length-k) 0).getD k 0=old at c;go_wp2;go_roundw
       case rel=>exact⟨k+1,by omega,by go_num,G⟩
       case measure=>simp[intOf];omega
     . obtain rfl:k=32:=by omega
       have af:=Aa H;rw[VV (by rw[Fk];omega),Fk,XW]at af;simp only[ZI,XA]at af;obtain⟨bc,ak,al⟩:=af;have bf:=Ab al;clear H ap al;have aj:=Fk;obtain⟨ys,ai⟩:=exq (Ir);rw[ai]at ak aj;have a9:=Ab ai;clear ai;have a5:(Tryz.prog.info? 247).map (·.size)=some (iv E).length:=by rw[Ya];simp[Y]
       have ba:(Tryz.prog.info? 248).map (·.size)=some (iv ys).length:=by rw[CP];simp[aj]
       have ay:(Tryz.prog.info? 247).map (·.size)=some (iv E).toArray.size:=by rw[Ya];simp[Y]
       have ao:(Tryz.prog.info? 248).map (·.size)=some (iv ys).toArray.size:=by rw[CP];simp[aj]
       have a2:=Tryz.underlying247;have aw:=Tryz.underlying248;go_wp2;refine wp_region_held_drew (S:=fun w'=>ARow 247 w' w.heap.size E/\ARow 248 w' (w.heap.size+1) ys) (by kernel_rfl) ⟨bc,ak⟩ (fun U=> ?_);refine wpAnyH_take (i:=0) (oi:= {dst:=some 31,op:=.load 247 (.tmp 0),type:=247,pos:= "layout.go:54",after:= #[],guard:=none}) (v:=_) rfl (by kernel_rfl) (by kernel_rfl) (by kernel_rfl) (fun _ _ _ h=>h) (yieldsIf_load_mid (by rfl) _ _ rfl _ _ rfl _ _ (fun _ h=>h.1.range) a2 rfl a5) U ?_;simp only[Act.put,VA,VC,VD];refine wpAnyH_take (i:=1) (oi:= {dst:=some 32,op:=.load 248 (.tmp 1),type:=248,pos:= "layout.go:54",after:= #[{on:=2,ground:=.gcOnly .lateStores}],guard:=none}) (v:=_) rfl (by kernel_rfl) (by kernel_rfl) (by kernel_rfl) (fun _ _ _ h=>h) (yieldsIf_load_mid (by rfl) _ _ rfl _ _ rfl _ _ (fun _ h=>h.2.range) aw rfl ba) U ?_;simp only[Act.put,VA,VC,VD];refine rdH (i:=2) fun K hK=> ?_
       refine Ei rfl 247 (.tmp 0) (.tmp 31) rfl w.heap.size E rfl rfl U.1 ay ?_;simp only[Act.put];refine hK.out _ _ U (fun ag=> ?_);clear hK K U;refine rdH (i:=3) fun K hK=> ?_
       refine Ei rfl 248 (.tmp 1) (.tmp 32) rfl (w.heap.size+1) ys rfl rfl ag.2 ao ?_;simp only[Act.put];refine hK.out _ _ ag (fun az=> ?_);clear hK K ag;refine wpAnyH_done (by kernel_rfl) ?_ _;go_wp2;refine bodyPost_ret (v:=.tuple #[.agg (iv E).toArray,.agg (iv ys).toArray]) ?_ rfl ⟨by rw[Aa a6,Aa a9],(Aa bf).drew⟩;exact Ln rfl _ _ w.heap.size (w.heap.size+1) _ _ rfl rfl (az.1.load a2 rfl ay) (az.2.load aw rfl ao)
theorem Jt (w E:World)(x y:Array Value)(F G:TypeId)(I H:List Int)(M:Below w.heap.size w E)(Y:(E.alloc (.cells x F)).heap.size=E.heap.size+1):
 ARow F ((((E.alloc (.cells x F)).alloc (.cells y G)).setRow E.heap.size (iv I).toArray).setRow (E.heap.size+1) (iv H).toArray) E.heap.size I/\ARow G ((((E.alloc (.cells x F)).alloc (.cells y G)).setRow E.heap.size (iv I).toArray).setRow (E.heap.size+1) (iv H).toArray) (E.heap.size+1) H/\Below w.heap.size w ((((E.alloc (.cells x F)).alloc (.cells y G)).setRow E.heap.size (iv I).toArray).setRow (E.heap.size+1) (iv H).toArray):=by
 have U:((E.alloc (.cells x F)).alloc (.cells y G)).heap[E.heap.size]? =some (.cells x F (0,0)):=(Below.heap_alloc _ _ _ (by simp)).trans (heap_alloc_new _ _);have T:((E.alloc (.cells x F)).alloc (.cells y G)).heap[E.heap.size+1]? =some (.cells y G (0,0)):=by rw[<-Y];exact heap_alloc_new _ _
 refine⟨?_, ?_, ?_⟩
 . unfold ARow;rw[Go.setRow_other _ _ _ _ (by omega)];exact setRow_heap _ _ _ _ _ _ U
 . unfold ARow;exact setRow_heap _ _ y _ _ _ ((Go.setRow_other _ _ _ _ (by omega)).trans T)
 . have O:=M.size;exact Bg (Bg ((M.alloc O _).alloc (by simp;omega) _) (by omega) _) (by omega) _
def SE:List Int:= [16,17,18,0,8,7,9,6,10,5,11,4,12,3,13,2,14,1,15]
theorem ON:(Tryz.prog.info? 321).map (·.size)=some 19:=by kernel_rfl
theorem D5 (w:World):Calls Tryz.prog 242 #[] w fun e w'=>e=.returned (.agg (iv SE).toArray)/\Below w.heap.size w w':=by
 have F:(iv SE).toArray.size=19:=by simp[SE]
 have H:(Tryz.prog.info? 321).map (·.size)=some (iv SE).toArray.size:=by rw[ON,F]
 obtain⟨E,M⟩:=exq (SE);rw[M]at H F ⊢;have Z:=Ab M;clear M;go_enter Tryz.func242,Tryz.ntmps242
 go_upto_region 1 with (fail)
 refine wp_region_lit ?_;refine wpList_build rfl 321 _ rfl (by kernel_rfl) ?_;generalize U:(Program.built _ _ _).getD #[]=V;have Y:V=(iv E).toArray:=by rw[<-U,<-Aa Z];kernel_rfl
 clear U;subst Y;simp only[Act.put];generalize G:w.alloc _=W;have I:W.heap[w.heap.size]? =some (.cells (iv (List.replicate 19 0)).toArray 321 (0,0)):=by rw[<-G];exact(heap_alloc_new _ _).trans (by kernel_rfl)
 have T:Below w.heap.size w W:=by rw[<-G];exact(Below.refl w.heap.size w).alloc (VB _) _
 clear G;refine wpList_store_row rfl 321 (.tmp 0) (.tmp 1) rfl w.heap.size (iv E).toArray rfl rfl 321 _ I H (by rw[F];simp) (Cy E) ?_;refine wpList_nil ?_;have O:Hid (Below w.heap.size w (W.setRow w.heap.size (iv E).toArray)/\ARow 321 (W.setRow w.heap.size (iv E).toArray) w.heap.size E):=Ab ⟨Bg T (VB _) _,setRow_heap _ _ _ _ _ _ I⟩;clear I T;go_wp2;refine bodyPost_ret (v:=.agg (iv E).toArray) ?_ rfl ⟨rfl,(Aa O).1⟩;exact results_cell_row rfl _ _ _ _ _ _ _ rfl (Aa O).2 Tryz.underlying321 rfl H
end Go.Proofs.YtleocpdblhbimaaGreatDoor
