import Derived.Test.YtleocpdblhbimaaGreatDoorQ20
import Derived.Laws.Tables
import Derived.Laws.Rows
import Derived.Laws.ResultCell
import Derived.Laws.CopyRow
import Derived.Deep.RegionHeld3
import Derived.Deep.WholeRow
import Derived.Deep.DeepCutAuto
set_option linter.unusedSimpArgs false
set_option maxHeartbeats 8000000
namespace Go.Proofs.YtleocpdblhbimaaGreatDoor
open Go.RowKit
set_option linter.unusedVariables false
set_option maxRecDepth 100000
theorem Un (No:Nat->Prop)(B b:Nat)(a:Option Addr)(n O:Nat)(bs:List Nat)(Y Z:Value)(u:US)(w:World)(U:IIs No B w b (.slice a n O) Y Z u)(da:Rd w No a n bs)(cp:u.p<=8*n)(ds:u.e=0)(e1:u.out.length<=3000)(g1 af bh di g2 ar bf cq:Nat)(H lb:List Int)(ci:DIs w g1 af bh di b H)(fi:Good H)(ba:No g1/\No af/\No bh)(b8:DIs w g2 ar bf cq b lb)(d8:Good lb)(bc:No g2/\No ar/\No bf)(fk:∀g,w.heap.size<=g->¬No g)(V:US)(cm:Hid (Hk (rowB bs n) H lb (8*n+1) u=V)):
 Calls Tryz.prog 250 #[.pointer (some ⟨b,0,none⟩),.agg #[DV g1 af,DV g2 ar]] w fun e w'=>Got No B w b (.slice a n O) Y Z (.tuple #[]) V e w':=by
 have dc:=Af bs n;obtain⟨F,gn⟩:=exq (8*n+1);rw[gn]at cm;obtain⟨I,cy⟩:=exq (w.heap.size);obtain⟨W1,ck⟩:=exq (w.alloc (.cells #[DV g1 af,DV g2 ar] 282));have h3:=U.lt;have e4:B<=I:=by have:=U.base;omega
 have av:Below I w W1:=by rw[<-ck,<-cy];exact(Below.refl _ _).alloc (VB _) _
 have b5:Kp No w W1:=fun g M _=>av.block g (by omega)
 have ig:W1.heap.size=I+1:=by rw[<-ck,<-cy];simp
 have c5:W1.heap[I]? =some (.cells #[DV g1 af,DV g2 ar] 282 (0,0)):=by rw[<-ck,<-cy];exact heap_alloc_new _ _
 have ei:IIs (NI No I) B W1 b (.slice a n O) Y Z u:=(U.more (No':=NI No I) (fun e=>by rcases e with e|e;exact U.no e;omega) (fun g M=>by rcases M with e|e;exact .inl e;exact .inr (by omega))).grown (w':=W1) (by rw[<-ck];exact World.grownBy_alloc w _ none);have b7:Rd W1 (NI No I) a n bs:=(da.keep (w':=W1) (by omega) b5).more;have gi:=ci.lt;have la2:=ci.is.lt;have gj:=b8.lt;have lb2:=b8.is.lt;have eu:DIs W1 g1 af bh di b H:=ci.keep (by omega) (av.block g1 (by omega)) (av.block af (by omega)) (av.block bh (by omega));have fh:DIs W1 g2 ar bf cq b lb:=b8.keep (by omega) (av.block g2 (by omega)) (av.block ar (by omega)) (av.block bf (by omega))
 have bn:∀g,W1.heap.size<=g->¬NI No I g:=fun g M e=>by
  rcases e with e|e
  . exact fk g (by omega) e
  . omega
 have dj:Hid (∀wr x,IUp (NI No I) B W1 b (.slice a n O) Y Z x wr->wr.cell? ⟨I,0,none⟩=some (DV g1 af)/\wr.cell? ⟨I,1,none⟩=some (DV g2 ar)):=Ab (fun wr x G=>by
  have:=(G.kp I (by omega) (.inr rfl)).trans c5
  exact⟨Ac this,Ac this⟩)
 have bi:Hid (∀wr x,IUp (NI No I) B W1 b (.slice a n O) Y Z x wr->x.p<=8*n->x.e=0->∀k v,uplace H (rowB bs n) x=(k,v)->Calls Tryz.prog 281 #[.pointer (some ⟨g1,0,none⟩),.pointer (some ⟨af,0,none⟩)] wr fun e w'=>Got (NI No I) B wr b (.slice a n O) Y Z (.int .i64 (k:Int)) v e w'):=Ab (fun wr x G ap aw k v a5=>
  LK (NI No I) B b a n O bs Y Z x wr G.is (b7.keep G.below.size G.kp) ap aw g1 af bh di H (eu.keep G.below.size (G.kp g1 (by omega) (.inl ba.1)) (G.kp af (by omega) (.inl ba.2.1)) (G.kp bh (by omega) (.inl ba.2.2))) fi ⟨.inl ba.1,.inl ba.2.1,.inl ba.2.2⟩ (fun g M=>bn g (VU G.below.size M)) k v (Ab a5))
 have ct:Hid (∀wr x,IUp (NI No I) B W1 b (.slice a n O) Y Z x wr->x.p<=8*n->x.e=0->∀k v,Me (rowB bs n) lb x=(k,v)->Calls Tryz.prog 269 #[.pointer (some ⟨b,0,none⟩),.agg #[DV g1 af,DV g2 ar]] wr fun e w'=>Got (NI No I) B wr b (.slice a n O) Y Z (.int .i64 (k:Int)) v e w'):=Ab (fun wr x G ap aw k v a5=>
  Y5 (NI No I) B b a n O bs Y Z x wr G.is (b7.keep G.below.size G.kp) ap aw g1 af g2 ar bf cq lb (fh.keep G.below.size (G.kp g2 (by omega) (.inl bc.1)) (G.kp ar (by omega) (.inl bc.2.1)) (G.kp bf (by omega) (.inl bc.2.2))) d8 ⟨.inl bc.1,.inl bc.2.1,.inl bc.2.2⟩ (fun g M=>bn g (VU G.below.size M)) k v (Ab a5))
 have fq:Hid (∀wr x,IUp (NI No I) B W1 b (.slice a n O) Y Z x wr->x.p<=8*n->x.e=0->∀(l size r:Nat) (v:US),size<=16->l<=40000->uget (rowB bs n) size x=(r,v)->Calls Tryz.prog 266 #[.pointer (some ⟨b,0,none⟩),.int .i64 (l:Int),.int .i64 (size:Int)] wr fun e w'=>Got (NI No I) B wr b (.slice a n O) Y Z (.int .i64 ((l+r:Nat):Int)) v e w'):=Ab (fun wr x G ap aw l size r v fy hl a5=>
  Iw (NI No I) B b a n O size l bs Y Z x wr G.is (b7.keep G.below.size G.kp) ap aw fy hl r v (Ab a5))
 have dq:Hid (∀wr x,IUp (NI No I) B W1 b (.slice a n O) Y Z x wr->x.e=0->x.out.length<=3000->∀d k v,1<=d->d<=80000->k<=65535->Jh d k x=v->Calls Tryz.prog 268 #[.pointer (some ⟨b,0,none⟩),.int .i64 (k:Int),.int .i64 (d:Int)] wr fun e w'=>Got (NI No I) B wr b (.slice a n O) Y Z (.tuple #[]) v e w'):=Ab (fun wr x G ap aw d k v f8 cn a5 gz=>
  Z21 (NI No I) B b d k (.slice a n O) Y Z x wr G.is ap aw f8 cn a5 (fun g M=>bn g (VU G.below.size M)) v (Ab gz))
 have dd:Hid (∀wr x,IUp (NI No I) B W1 b (.slice a n O) Y Z x wr->x.out.length<=3000->Calls Tryz.prog 265 #[.pointer (some ⟨b,0,none⟩),.int .i64 1] wr fun e w'=>w'=wr/\((x.out.length+1<=3000/\e=.returned (.tuple #[]))\/ (3000<x.out.length+1/\e=Flt 2))):=Ab (fun wr x G ap=>Rq (NI No I) B b 1 (.slice a n O) Y Z x wr G.is ap (by decide))
 have fp:Hid (∀x wr,V=x->x.e=0->IUp (NI No I) B W1 b (.slice a n O) Y Z x wr->Got No B w b (.slice a n O) Y Z (.tuple #[]) V (.returned (.tuple #[])) wr):=Ab (fun x wr c7 az G=>by
  subst c7;exact Got.from (.inl ⟨az,rfl,G.less⟩) (av.mono e4) b5)
 have ax:Hid (∀x wr,V=x->x.e≠0->Bl (NI No I) B W1 wr->Got No B w b (.slice a n O) Y Z (.tuple #[]) V (Flt x.e) wr):=Ab (fun x wr c7 az eo=>by
  subst c7;exact .inr ⟨az,rfl,(av.mono e4).trans eo.below,b5.trans (eo.kp.weaken (fun _ U=>.inl U)) (by omega)⟩)
 have bz:Hid (∀(f:Nat) (E x:US) (k v),E.p<=x.p->x.p<=8*n->x.e=0->x.out.length<=3000->uplace H (rowB bs n) x=(k,v)->v.e=0->v.p<=8*n/\v.out.length<=3000/\E.p<v.p):=Ab (fun f E x k v ap aw a7 a2 ay ao=>by
  have aj:=Ix H (rowB bs n) x (by omega);have bu:=Gm H (rowB bs n) x;have bg:=KE H (rowB bs n) x a7 (by rw[ay];exact ao);rw[ay]at aj bu bg;rw[dc]at aj;exact⟨aj,by rw[bu.1];exact a2,XO ap bg⟩)
 have dn:=Ab (IUp.refl ei);obtain⟨a4,al,az⟩:∃a4 al,uplace H (rowB bs n) u=(a4,al):=⟨_,_,rfl⟩
 have e7:=Ab (Aa bi W1 u (Aa dn) cp ds a4 al az);have d5:=Ab (Aa bz 0 u u a4 al (VB _) cp ds e1 az)
 have db:Hid (V=if al.e≠0 then al else GE (rowB bs n) H lb F a4 al):=Ab (by
  have:=Aa cm
  unfold Hk at this;rw[az]at this;exact this.symm)
 have hj:W1.cell? ⟨I,0,none⟩=some (DV g1 af):=Ac c5;have hx:=da.few;have f9:=Ab bn;clear U da cp ds e1 ci fi ba b8 d8 bc fk cm av b5 c5 ei b7 eu fh az gi la2 gj lb2 bn;go_enter Tryz.func250,Tryz.ntmps250
 go_wp2_with fail
 refine(Aa e7).mono ?_;rintro e ha M
 rcases M with ⟨e0,rfl,G⟩|⟨e0,rfl,fj⟩
 rotate_left
 . have f4:=Ab fj;have ai:Hid (V=al):=Ab (by rw[Aa db,if_pos e0]);clear fj;go_wp2;exact⟨rfl,Aa ax al ha (Aa ai) e0 (Aa f4)⟩
 have eb:=Ab ((Aa dn).trans G);obtain⟨ed,e9,gv⟩:=Aa d5 e0;have eh:Hid (V=GE (rowB bs n) H lb F a4 al):=Ab (by rw[Aa db,if_neg (fun U=>U e0)]);clear G e7 d5 db hj dn;go_wp2;go_loopw [4] (fun aa wr=>∃(k f:Nat) (x:US),aa=.int .i64 (k:Int)/\Hid (x.p<=8*n/\x.out.length<=3000/\x.e=0)/\Hid (8*n+1-x.p<=f)/\Hid (IUp (NI No I) B W1 b (.slice a n O) Y Z x wr)/\Hid (V=GE (rowB bs n) H lb f k x)) (fun _ wr=>NY n b wr)
 case atStart=>
  have f5:Hid (8*n+1-al.p<=F):=Ab (by omega);exact⟨a4,F,al,rfl,Ab ⟨ed,e9,e0⟩,f5,eb,eh⟩
 case round=>
  clear eb eh ed e9 gv e0;obtain⟨k,cw,E,rfl,gw,co,ak,ce⟩:=hrel;obtain⟨dp,dm,bm⟩:=Aa gw
  by_cases dt:k=256
  . have ai:Hid (V=E):=Ab (by
     rw[Aa ce]
     cases cw with
     |zero=>rfl
     |succ f=>show (if k=256 then E else _)=_;rw[if_pos dt])
    subst dt;clear ce;go_wp2;go_end0
    exact Aa fp E wr (Aa ai) bm (Aa ak)
  obtain⟨f,rfl⟩:∃f,cw=f+1:=⟨cw-1,by have:=Aa co;omega⟩
  have h4:=Aa co
  have au:Hid (V=if (Co (rowB bs n) lb k E).e≠0 then Co (rowB bs n) lb k E else if (uplace H (rowB bs n) (Co (rowB bs n) lb k E)).2.e≠0 then (uplace H (rowB bs n) (Co (rowB bs n) lb k E)).2 else GE (rowB bs n) H lb f (uplace H (rowB bs n) (Co (rowB bs n) lb k E)).1 (uplace H (rowB bs n) (Co (rowB bs n) lb k E)).2):=Ab (by
   rw[Aa ce];show (if k=256 then E else _)=_
   rw[if_neg dt])
  have ic:¬(k:Int)=256:=by omega
  clear ce co
  by_cases cu:k<256
  . have hv:(k:Int)<256:=by omega
    have a3:Hid (Co (rowB bs n) lb k E=if 3000<E.out.length+1 then {E with e:=2}else {E with out:=E.out++ [k]}):=Ab (by unfold Co;rw[if_pos cu]);go_wp2_with fail
    refine(Aa dd wr E (Aa ak) dm).mono ?_;rintro e w3 ⟨rfl,M⟩
    rcases M with ⟨hl,rfl⟩|⟨hl,rfl⟩
    rotate_left
    . have ai:Hid (V= {E with e:=2}):=Ab (by
       rw[Aa au,Aa a3,if_pos hl,if_pos (show ({E with e:=2}:US).e≠0 from (by decide:(2:Int)≠0))])
      clear hl;go_wp2;exact⟨rfl,Aa ax {E with e:=2} _ (Aa ai) (by decide:(2:Int)≠0) (Aa ak).bl⟩
    have bv:Hid (V=if (uplace H (rowB bs n) {E with out:=E.out++ [k]}).2.e≠0 then (uplace H (rowB bs n) {E with out:=E.out++ [k]}).2 else GE (rowB bs n) H lb f (uplace H (rowB bs n) {E with out:=E.out++ [k]}).1 (uplace H (rowB bs n) {E with out:=E.out++ [k]}).2):=Ab (by
     have a8:Co (rowB bs n) lb k E= {E with out:=E.out++ [k]}:=by rw[Aa a3,if_neg (by omega)]
     have:=Aa au
     rw[a8,if_neg (fun U=>U bm)]at this;exact this)
    obtain⟨f3,fw,g7,gx,gg⟩:=info_parts Gz;have cj:=(Aa ak).is;have ib:=cj.lt;obtain⟨h8,ia,h0,g5,e5,de,e6,en,dw,et⟩:=cj.rows;obtain⟨L,dl⟩:=exq (E.out.length);have cd:=de;rw[dl]at cd;have hz:L+1<=3000:=by omega
    obtain⟨ii,h9,rfl⟩:=An cd;have g0:=Ab cd;have ej:=Ab cj;have b4:=Ab e5;have gh:=Ab de;have hu:=Ab e6;have ho:=Ab en;have g4:=Ab dw;have g9:=Ab et;have fm:=Ab dl;have hw:IntKind.u8.wrap (k:Int)=(k:Int):=by unfold IntKind.wrap;simp[IntKind.bits,IntKind.signed];omega
    have h2:=(Aa ak).below.size;clear cj e5 de e6 en dw et cd dl g5 au a3;go_wp2_with (at_builtin;refine wpList_append_own_at _ rfl _ _ 23 rfl (b+1) 5 f3 (.int .u8 0) 1 1 Tryz.underlying23 fw g7 gx gg rfl (by decide) _ L (u8s E.out) rfl ((Aa g0).alloc _) ⟨_,0,none⟩ 1 1 [.int .u8 (k:Int)] rfl rfl (cell_one_new _ _ _) (Bc rfl) (by unfold maxLen;omega) (by omega) (by simp;omega) ?_)
    intro v' bw dv dy _ ey;obtain⟨hs,ht,hp,_,_⟩:=Ba dv (by omega);obtain⟨bg,h7,dz⟩:=IIs.said (c:=k) (v':=v') (Aa ej).base (Aa ej).no (Aa b4) (Aa gh) (Aa hu) (Aa ho) (Aa g4) (Aa g9) (fun g M=>Aa f9 g (by omega)) (by rw[Aa fm];exact dv) dy (by simpa using ey);have bk:=Ab ((Aa ak).trans dz);have hk:(E.out++ [k]).length<=3000:=by rw[VE,Aa fm];simp only[VJ,WE];omega
    subst hp;clear dz dv dy ey;obtain⟨em,ft⟩:=exq (bw.setCell ⟨b,2,none⟩ (.slice (some ⟨hs,0,none⟩) (L+1) ht));rw[ft]at bk;obtain⟨fx,g8⟩:=Aa dj em _ (Aa bk);obtain⟨ae,T,ao⟩:∃ae T,uplace H (rowB bs n) {E with out:=E.out++ [k]}=(ae,T):=⟨_,_,rfl⟩
    have c8:=Ab (Aa bi em {E with out:=E.out++ [k]} (Aa bk) (dp) (bm) ae T ao);have c9:=Ab (Aa bz f E {E with out:=E.out++ [k]} ae T (VB _) (dp) (bm) (hk) ao)
    have b0:Hid (V=if T.e≠0 then T else GE (rowB bs n) H lb f ae T):=Ab (by
     have:=Aa bv
     rw[ao]at this;exact this)
    clear ao bi ct dd dq bz bv;go_wp2_with fail
    refine(Aa c8).mono ?_;rintro e w6 M
    rcases M with ⟨ah,rfl,bq⟩|⟨ah,rfl,bj⟩
    . have bo:=Ab ((Aa bk).trans bq);clear bq;obtain⟨cz,df,gq⟩:=Aa c9 ah;have bd:Hid (V=GE (rowB bs n) H lb f ae T):=Ab (by rw[Aa b0,if_neg (fun U=>U ah)]);go_wp2;go_roundw
      case rel=>exact⟨ae,f,T,rfl,Ab ⟨cz,df,ah⟩,Ab (by omega),bo,bd⟩
      case measure=>rw[Mb (Aa bo).is,Mb (Aa ak).is];omega
    . have b3:=Ab ((Aa bk).bl.trans bj);have bd:Hid (V=T):=Ab (by rw[Aa b0,if_pos ah]);clear bj;go_wp2;exact⟨rfl,Aa ax T w6 (Aa bd) ah (Aa b3)⟩
  . have hv:¬(k:Int)<256:=by omega
    by_cases eg:285<k
    . have gu:¬(k:Int)<=285:=by omega
      have ai:Hid (V= {E with e:=8}):=Ab (by
       have a8:Co (rowB bs n) lb k E= {E with e:=8}:=by unfold Co;rw[if_neg cu,if_pos eg]
       rw[Aa au,a8,if_pos (show ({E with e:=8}:US).e≠0 from (by decide:(8:Int)≠0))])
      clear au;go_wp2_with fail
      refine(Cf 8 _).mono ?_;rintro e w3 ⟨rfl,rfl⟩;go_wp2;exact⟨rfl,Aa ax {E with e:=8} _ (Aa ai) (by decide:(8:Int)≠0) (Aa ak).bl⟩
    have gu:(k:Int)<=285:=by omega
    obtain⟨ep,fo,cv⟩:=GB k (by omega) (by omega);have du:=Ab (fun w=>Xw k w (by omega) (by omega));obtain⟨a6,a1,dr⟩:∃a6 a1,Df k=(a6,a1):=⟨_,_,rfl⟩
    rw[dr]at du ep fo cv;obtain⟨r,ac,a7⟩:∃r ac,uget (rowB bs n) a1 E=(r,ac):=⟨_,_,rfl⟩
    obtain⟨d,aa,a2⟩:∃d aa,Me (rowB bs n) lb ac=(d,aa):=⟨_,_,rfl⟩
    have a3:Hid (Co (rowB bs n) lb k E=if ac.e≠0 then ac else if aa.e≠0 then aa else Jh d (a6+r) aa):=Ab (by unfold Co;rw[if_neg cu,if_neg eg,dr,a7,a2])
    have h6:r<32:=by
     have:=Nm (rowB bs n) a1 E
     rw[a7]at this;exact VG this (VO (j:=5) (by decide) cv)
    have f7:ac.p<=8*n/\E.p<=ac.p/\ac.out=E.out:=by
     have aj:=Gr (rowB bs n) a1 E (by omega);have bu:=R0 (rowB bs n) a1 E;have bg:=Cm (rowB bs n) a1 E;rw[a7]at aj bu bg;rw[dc]at aj;exact⟨aj,bu,bg⟩
    have hf:aa.p<=8*n/\ac.p<=aa.p/\aa.out=ac.out:=by
     have aj:=Vm (rowB bs n) lb ac (by omega);rw[a2,dc]at aj;exact⟨aj.2.2.2,aj.2.2.1,aj.1⟩
    obtain⟨p31,p32,p33⟩:=f7;obtain⟨p41,p42,p43⟩:=hf
    have ew:aa.e=0->1<=d/\d<=80000:=fun e=>by
     have:=Z1e (rowB bs n) lb ac (by rw[a2];exact e)
     rw[a2]at this;exact this
    have gd:=Ab ew;have fg:=Ab (Aa fq wr E (Aa ak) dp bm a6 a1 r ac (by omega) (by omega) a7);have b4:=Ab (fun d9 (G:IUp (NI No I) B W1 b (.slice a n O) Y Z ac d9) he3=>Aa ct d9 ac G p31 he3 d aa a2);clear dr a7 a2 ew;dsimp only at du ep fo cv;go_wp2_with fail
    refine(Aa du _).mono ?_;rintro e w3 ⟨rfl,rfl⟩;go_wp2_with fail
    refine(Aa fg).mono ?_;rintro e w3 M
    rcases M with ⟨e3,rfl,fe⟩|⟨e3,rfl,ff⟩
    rotate_left
    . have hq:=Ab ((Aa ak).bl.trans ff)
      have ai:Hid (V=ac):=Ab (by
       have a8:Co (rowB bs n) lb k E=ac:=by rw[Aa a3,if_pos e3]
       have:=Aa au
       rw[a8,if_pos e3]at this;exact this)
      clear ff;go_wp2;exact⟨rfl,Aa ax ac w3 (Aa ai) e3 (Aa hq)⟩
    have cg:=Ab ((Aa ak).trans fe);obtain⟨h1,h5⟩:=Aa dj w3 _ (Aa cg);have ek:=Ab (Aa b4 w3 (Aa cg) e3);clear fe b4;go_wp2_with fail
    refine(Aa ek).mono ?_;rintro e dx M
    rcases M with ⟨a9,rfl,ee⟩|⟨a9,rfl,d7⟩
    rotate_left
    . have hg:=Ab ((Aa cg).bl.trans d7)
      have ai:Hid (V=aa):=Ab (by
       have a8:Co (rowB bs n) lb k E=aa:=by rw[Aa a3,if_neg (fun U=>U e3),if_pos a9]
       have:=Aa au
       rw[a8,if_pos a9]at this;exact this)
      clear d7;go_wp2;exact⟨rfl,Aa ax aa dx (Aa ai) a9 (Aa hg)⟩
    have dh:=Ab ((Aa cg).trans ee);obtain⟨gy,cn⟩:=Aa gd a9;obtain⟨ag,ay⟩:=exq (Jh d (a6+r) aa);have hh:=Ab (Aa dq dx aa (Aa dh) a9 (by rw[p43,p33];exact dm) d (a6+r) ag gy cn (by omega) ay);have c6:Hid (Co (rowB bs n) lb k E=ag):=Ab (by rw[Aa a3,if_neg (fun U=>U e3),if_neg (fun U=>U a9),ay])
    have f6:Hid (ag.e=0->ag.p=aa.p/\ag.out.length<=3000):=Ab (fun e=>by
     have:=Ru d (a6+r) aa (by rw[ay];exact e)
     rw[ay]at this;exact⟨this.1,this.2.2 (by rw[p43,p33];exact dm)⟩)
    clear ee ay ek fg;go_wp2_with fail
    refine(Aa hh).mono ?_;rintro e bw M
    rcases M with ⟨bb,rfl,d6⟩|⟨bb,rfl,e8⟩
    rotate_left
    . have b3:=Ab ((Aa dh).bl.trans e8)
      have ai:Hid (V=ag):=Ab (by
       have:=Aa au
       rw[Aa c6,if_pos bb]at this;exact this)
      clear e8;go_wp2;exact⟨rfl,Aa ax ag bw (Aa ai) bb (Aa b3)⟩
    have b9:=Ab ((Aa dh).trans d6);obtain⟨ie,fu⟩:=Aa f6 bb
    have bv:Hid (V=if (uplace H (rowB bs n) ag).2.e≠0 then (uplace H (rowB bs n) ag).2 else GE (rowB bs n) H lb f (uplace H (rowB bs n) ag).1 (uplace H (rowB bs n) ag).2):=Ab (by
     have:=Aa au
     rw[Aa c6,if_neg (fun U=>U bb)]at this;exact this)
    clear d6 au a3 c6;obtain⟨fx,g8⟩:=Aa dj bw _ (Aa b9);obtain⟨ae,T,ao⟩:∃ae T,uplace H (rowB bs n) ag=(ae,T):=⟨_,_,rfl⟩
    have c8:=Ab (Aa bi bw ag (Aa b9) (by omega) (bb) ae T ao);have c9:=Ab (Aa bz f E ag ae T (by omega) (by omega) (bb) (fu) ao)
    have b0:Hid (V=if T.e≠0 then T else GE (rowB bs n) H lb f ae T):=Ab (by
     have:=Aa bv
     rw[ao]at this;exact this)
    clear ao bi ct dd dq bz bv;go_wp2_with fail
    refine(Aa c8).mono ?_;rintro e w6 M
    rcases M with ⟨ah,rfl,bq⟩|⟨ah,rfl,bj⟩
    . have bo:=Ab ((Aa b9).trans bq);clear bq;obtain⟨cz,df,gq⟩:=Aa c9 ah;have bd:Hid (V=GE (rowB bs n) H lb f ae T):=Ab (by rw[Aa b0,if_neg (fun U=>U ah)]);go_wp2;go_roundw
      case rel=>exact⟨ae,f,T,rfl,Ab ⟨cz,df,ah⟩,Ab (by omega),bo,bd⟩
      case measure=>rw[Mb (Aa bo).is,Mb (Aa ak).is];omega
    . have b3:=Ab ((Aa b9).bl.trans bj);have bd:Hid (V=T):=Ab (by rw[Aa b0,if_pos ah]);clear bj;go_wp2;exact⟨rfl,Aa ax T w6 (Aa bd) ah (Aa b3)⟩
theorem RG:∀(args:Array Value) (w:World),(callFunc 205 args).run Tryz.prog w=.ok (.enter 205 args) w:=fun _ _=>by kernel_rfl
theorem EL (a:Option Addr)(n G:Nat)(bs:List Nat)(w:World)(bi:n<=6000)(E:US)(T:∀(No:Nat->Prop) (B b:Nat) (W:World),IIs No B W b (.slice a n G) .nilFunc .nilFunc US0->(∀g,w.heap.size+2<=g->¬No g)->(∀g,g<w.heap.size->No g)->W.heap.size=w.heap.size+2->B<=b->Below w.heap.size w W->
 Calls Tryz.prog 205 #[.pointer (some ⟨b,0,none⟩)] W fun e w'=>(E.e=0/\e=.returned (.tuple #[])/\∃g1 g2,IUp No B W b (.slice a n G) g1 g2 E w')\/ (E.e≠0/\e=Flt E.e/\Below B W w'/\Kp No W w')) (bc:0<=E.e) (ap:E.e=0->E.p<=48000):
 Calls Tryz.prog 166 #[.slice a n G] w fun e w'=>Below w.heap.size w w'/\((E.e=0/\∃ov kv,e=.returned (.tuple #[ov,.int .i64 (((E.p+7)/8:Nat):Int),kv,.int .i64 0])/\w'.ownsRow (w.heap.size+1) 5 1 ov E.out.length (u8s E.out)/\w'.ownsRow (w.heap.size+1) 3 1 kv E.ks.length (i64s E.ks))\/ (E.e≠0/\e=.returned (.tuple #[.slice none 0 0,.int .i64 0,.slice none 0 0,.int .i64 E.e]))):=by
 have bn:∀(ax:Fn) (first G:Array Value) (w:World),(Instr.makeFunc ax first G).run Tryz.prog w=.ok (.func ax first G) w:=fun _ _ _ _=>rfl
 have bb:=Ab T;clear T;go_enter Tryz.func166,Tryz.ntmps166
 go_wp2_with fail
 obtain⟨H,U⟩:=exq (w.alloc (.cells #[.slice a n G,.int .i64 0,.slice none 0 0,.slice none 0 0,.nilFunc,.nilFunc] 284));have aj:H.heap.size=w.heap.size+1:=by rw[<-U];simp
 have ba:H.heap[w.heap.size]? =some (.cells (icells (.slice a n G) .nilFunc .nilFunc US0 (.slice none 0 0) (.slice none 0 0)) 284 (0,0)):=by rw[<-U];exact heap_alloc_new _ _
 have ar:Below w.heap.size w H:=by rw[<-U];exact(Below.refl _ _).alloc (VB _) _
 rw[U];clear U;obtain⟨No,O⟩:∃No:Nat->Prop,No=fun g=>g<w.heap.size\/g=w.heap.size+1:=⟨_,rfl⟩
 have a4:IIs No w.heap.size (H.alloc (.cells #[.int .i64 0] 24)) w.heap.size (.slice a n G) .nilFunc .nilFunc US0:=by
  refine⟨VB _,by rw[O];omega,.slice none 0 0,.slice none 0 0,(Below.heap_alloc _ _ _ (by omega)).trans ba,World.ownsRow_nil _ _ _ _,World.ownsRow_nil _ _ _ _,.inl rfl, ?_, ?_⟩<;>(intro g e;simp[Value.ownBlock]at e)
 have a3:=Aa bb No w.heap.size w.heap.size _ a4 (fun g F=>by rw[O];omega) (fun g F=>by rw[O];exact .inl F) (by simp[aj]) (VB _) (ar.alloc (by omega) _)
 have aw:=JC 205 #[.pointer (some ⟨w.heap.size,0,none⟩)] (fun x w'=>(x:Int)=E.e/\(E.e=0->∃g1 g2,IIs No w.heap.size w' w.heap.size (.slice a n G) g1 g2 E)/\Below w.heap.size w w'/\w.heap.size+2<=w'.heap.size) H RG (a3.mono (fun e w' F=>by
  have a5:Below w.heap.size w (H.alloc (.cells #[.int .i64 0] 24)):=ar.alloc (by omega) _;have a1:(H.alloc (.cells #[.int .i64 0] 24)).heap[H.heap.size]? =some (.cells #[.int .i64 0] 24 (0,0)):=heap_alloc_new _ _;have av:No H.heap.size:=by rw[O,aj];exact .inr rfl
  rcases F with ⟨e0,rfl,g1,g2,I⟩|⟨e0,rfl,T,hK⟩
  . have ag:=I.below.size;simp only[World.size_alloc]at ag;exact⟨⟨0,⟨by rw[e0];rfl,fun _=>⟨g1,g2,I.is⟩,a5.trans I.below,by omega⟩,.inl ⟨rfl,rfl⟩⟩,(I.kp _ (by simp) av).trans a1⟩
  . have ag:=T.size;simp only[World.size_alloc]at ag;have M:((E.e.toNat:Nat):Int)=E.e:=YU bc;exact⟨⟨E.e.toNat,⟨M,fun h=>absurd h e0,a5.trans T,by omega⟩,.inr ⟨by omega,by rw[M]⟩⟩,(hK _ (by simp) av).trans a1⟩))
 refine aw.mono ?_;rintro e aa ⟨x,ao,⟨M,ai,ak,bj⟩,rfl,bh,ae,ah⟩;have a2:=Ab (ak.trans (ah w.heap.size (by omega)));clear aw a3 a4
 by_cases e0:E.e=0
 . obtain⟨g1,g2,I⟩:=ai e0;have ap:=ap e0;have az:x=0:=by omega
   subst az;obtain⟨ov,kv,c2,a9,al,af,ac,a7,ay,au⟩:=I.rows;have Y:∀g,g<ao.heap.size->g≠w.heap.size+1->aa.heap[g]? =ao.heap[g]? :=fun g a6 bf=>ae g a6 (by rw[aj];exact bf)
   have Z:=(Y w.heap.size (by omega) (by omega)).trans al;have a8:=Ab (Au af (fun g F=>Y g (af.lt g F).2 (fun h=>ay g F (by rw[O,h];exact .inr rfl))));have bd:=Ab (Au ac (fun g F=>Y g (ac.lt g F).2 (fun h=>au g F (by rw[O,h];exact .inr rfl))));have bm:aa.cell? ⟨w.heap.size,1,none⟩=some (.int .i64 (E.p:Int)):=Ac Z;have bo:aa.cell? ⟨w.heap.size,2,none⟩=some ov:=Ac Z;have bk:aa.cell? ⟨w.heap.size,3,none⟩=some kv:=Ac Z;clear I al af ac a7 ay au Z Y ae ah ai ak c2 a9 M;go_wp2;go_quiet (fail)
   go_wp2;refine bodyPost_ret (v:=.tuple #[ov,.int .i64 (((E.p:Int)+7)/8),kv,.int .i64 0]) ?_ rfl ⟨Ae (Aa a2) _,.inl ⟨e0,ov,kv,by rw[show (((E.p+7)/8:Nat):Int)=((E.p:Int)+7)/8 by omega],Au (Aa a8) (fun _ _=>rfl),Au (Aa bd) (fun _ _=>rfl)⟩⟩
   first|rfl|kernel_rfl
 . have az:((x:Int)==0)=false:=by rw[beq_eq_false_iff_ne];omega
   have bg:=Ab M;clear ae ah ai ak M;go_wp2;refine bodyPost_ret (v:=.tuple #[.slice none 0 0,.int .i64 0,.slice none 0 0,.int .i64 (x:Int)]) ?_ rfl ⟨Aa a2,.inr ⟨e0,by rw[Aa bg]⟩⟩
   first|rfl|kernel_rfl
theorem Z6 (b:Nat)(a:Option Addr)(F U:Nat)(l:List Int)(w:World)(I:l.length=F)(ae:F<=1000000)(Y:RowIn .i64 w a l)(G:errL l≠0):
 Calls Tryz.prog 270 #[.pointer (some ⟨b,0,none⟩),.slice a F U] w fun e w'=>e=Flt (errL l)/\Below w.heap.size w w':=by
 have M:=Ab (QL a F U l (w.alloc (.cells #[.pointer (some ⟨b,0,none⟩)] 280)) I (by omega) (Y.alloc _) G);have aa:Hid (Below w.heap.size w (w.alloc (.cells #[.pointer (some ⟨b,0,none⟩)] 280))):=Ab ((Below.refl _ _).alloc (VB _) _);have hb:(errL l !=0)=true:=by rw[bne_iff_ne];exact G
 obtain⟨E,H⟩:=exq (errL l);rw[H]at M hb ⊢;clear H G Y I;go_enter Tryz.func270,Tryz.ntmps270
 go_wp2_with fail
 refine(Aa M).mono ?_;rintro e T ⟨rfl,O⟩;have Z:Hid (Below w.heap.size w T):=Ab ((Aa aa).trans (O.mono (by simp)));clear O;go_wp2_with fail
 refine(Cf E T).mono ?_;rintro e ac ⟨rfl,rfl⟩;go_wp2;exact⟨rfl,rfl,Aa Z⟩
def Z8s (b:Nat)(l:List Int)(w:World)(e:Ending)(w':World):Prop:=
 Below w.heap.size w w'/\((errL l=0/\∃gr gm mb nn,e=.returned (DV gr gm)/\w.heap.size<=gr/\w.heap.size<=gm/\w.heap.size<=mb/\mb<w'.heap.size/\DIs w' gr gm mb nn b l)\/ (errL l≠0/\e=Flt (errL l)))
theorem Kt (b:Nat)(a:Option Addr)(E I:Nat)(l:List Int)(w:World)(M:l.length=E)(aa:E<=1000000)(O:RowIn .i64 w a l):
 Calls Tryz.prog 270 #[.pointer (some ⟨b,0,none⟩),.slice a E I] w fun e w'=>Z8s b l w e w':=by
 by_cases F:errL l=0
 . refine(Nr b a E I l w M O (Ch F)).mono ?_;rintro e w' ⟨gr,gm,mb,nn,G,H,Y,T,Z,ac,U⟩;exact⟨U,.inl ⟨F,gr,gm,mb,nn,G,H,Y,T,Z,ac⟩⟩
 . refine(Z6 b a E I l w M aa O F).mono ?_;rintro e w' ⟨G,H⟩;exact⟨H,.inr ⟨F,G⟩⟩
def NJ (No:Nat->Prop)(N:Nat):Nat->Prop:=fun g=>No g\/N<=g
def NK (No:Nat->Prop)(N M:Nat):Nat->Prop:=fun g=>No g\/ (N<=g/\g<M)
theorem IIs.back {I ah:Nat->Prop}{B b:Nat}{w w':World}{R T ac g1 g2:Value}{u F:US}(E:IIs I B w b R T ac u)(ag:IIs ah B w' b R g1 g2 F)(hK:Mx b w w'):IIs I B w' b R g1 g2 F:=by
 obtain⟨ov,kv,aa,Y,ak,aj,ap,ao,M,O⟩:=E.rows;obtain⟨G,H,b2,ae,Z,af,b6,U,al,ai⟩:=ag.rows
 have e2:G=ov:=by
  have:=(b2.symm.trans (hK 2 (by decide))).trans aa
  exact VM this
 have e3:H=kv:=by
  have:=(ae.symm.trans (hK 3 (by decide))).trans Y
  exact VM this
 subst e2;subst e3;exact⟨E.base,E.no,G,H,Z,af,b6,U,M,O⟩
theorem IIs.newer {No:Nat->Prop}{B b:Nat}{w:World}{R G F:Value}{u:US}(E:IIs No B w b R G F u):IIs (NJ No w.heap.size) B w b R G F u:=
 E.more (fun e=>by
  rcases e with e|e
  . exact E.no e
  . have:=E.lt;omega) (fun g H=>H)
theorem IIs.weak {No No':Nat->Prop}{B b:Nat}{w:World}{R E F:Value}{u:US}(H:IIs No B w b R E F u)(G:∀g,No' g->No g):IIs No' B w b R E F u:=
 H.more (fun e=>H.no (G b e)) (fun g I=>.inl (G g I))
theorem Rd.wide {w:World}{No No':Nat->Prop}{a:Option Addr}{n:Nat}{bs:List Nat}(E:Rd w No a n bs)(H:∀g,No g->No' g):Rd w No' a n bs:=⟨E.len,E.few,E.byt,E.val,fun G F I e2=>H _ (E.no G F I e2)⟩
theorem Z7c {No:Nat->Prop}{B:Nat}{w w':World}(E:Below w.heap.size w w')(G:B<=w.heap.size):Bl No B w w':=⟨E.mono G,fun g F _=>E.block g F⟩
theorem IIs.past {No:Nat->Prop}{B b:Nat}{w w':World}{R H I:Value}{u:US}(E:IIs No B w b R H I u)(G:Below w.heap.size w w'):IIs No B w' b R H I u:=by
 obtain⟨ov,kv,U,O,M,T⟩:=E.ex;exact⟨E.base,E.no,ov,kv,(G.block b E.lt).trans U,Au O (fun g F=>G.block g (O.lt g F).2),Au M (fun g F=>G.block g (M.lt g F).2),T⟩
structure Rk (No:Nat->Prop)(B:Nat)(w:World)(b:Nat)(R f1 f2:Value)(u:US)(w':World):Prop where
 is:IIs (NJ No w.heap.size) B w' b R f1 f2 u
 bl:Bl No B w w'
theorem Rk.refl {No:Nat->Prop}{B b:Nat}{w:World}{R F E:Value}{u:US}(G:IIs No B w b R F E u):Rk No B w b R F E u w:=⟨G.newer,Bl.refl _ _ _⟩
theorem Rk.num {No:Nat->Prop}{B b:Nat}{w I H:World}{R E F:Value}{u v:US}(G:Rk No B w b R E F u I)(k:IUp (NJ No w.heap.size) B I b R E F v H):Rk No B w b R E F v H:=⟨k.is,G.bl.trans ⟨k.below,k.kp.weaken (fun _ G=>.inl G)⟩⟩
theorem Rk.past {No:Nat->Prop}{B b:Nat}{w F G:World}{R H I:Value}{u:US}(E:Rk No B w b R H I u F)(k:Below F.heap.size F G):Rk No B w b R H I u G:=⟨E.is.past k,E.bl.trans (Z7c k (VU E.is.base (YX E.is.lt)))⟩
theorem Rk.drewN {No:Nat->Prop}{B b:Nat}{w F:World}{R G E:Value}{u:US}(H:Rk No B w b R G E u F)(q:Nat):Rk No B w b R G E u (F.drewN q):=H.past (Ae (Below.refl _ _) q)
def ARow (T:TypeId)(w:World)(g:Nat)(xs:List Int):Prop:=w.heap[g]? =some (.cells (iv xs).toArray T (0,0))
theorem ARow.lt {T:TypeId}{w:World}{E:Nat}{xs:List Int}(F:ARow T w E xs):E<w.heap.size:=(VK.1 F).1
theorem Z83 (xs:List Int)(j:Nat)(E:j<xs.length):(iv xs).toArray[j]? =some (.int .i64 (xs.getD j 0)):=by simp[iv,List.getD,E]
theorem ARow.cell {T:TypeId}{w:World}{E:Nat}{xs:List Int}(G:ARow T w E xs)(j:Nat)(F:j<xs.length):w.cell? ⟨E,j,none⟩=some (.int .i64 (xs.getD j 0)):=(Ac G).trans (Z83 xs j F)
theorem ARow.frozen {T:TypeId}{w:World}{E:Nat}{xs:List Int}(F:ARow T w E xs)(j:Nat):w.frozen? ⟨E,j,none⟩=false:=frozen_of_row w E j _ _ F
theorem ARow.row {T:TypeId}{w:World}{E:Nat}{xs:List Int}(G:ARow T w E xs):Row .i64 w E 0 xs:=fun j F=>by rw[WG];exact G.cell j F
theorem ARow.keep {T:TypeId}{w w':World}{E:Nat}{xs:List Int}(G:ARow T w E xs)(F:w'.heap[E]? =w.heap[E]?):ARow T w' E xs:=F.trans G
theorem ARow.set {T:TypeId}{w:World}{E:Nat}{xs:List Int}(F:ARow T w E xs)(i:Nat)(v:Int):ARow T (w.setCell ⟨E,i,none⟩ (.int .i64 v)) E (xs.set i v):=by
 unfold ARow;rw[heap_setCell_same w E i _ _ _ F];simp[iv,List.map_set]
theorem Ln {I:Func}{p u:Tmp}{H G:TypeId}(Z:I.results= #[.cell p H,.cell u G])(E:Array Value)(w:World)(g1 g2:Nat)(M F:Value)
 (aa:E.getD p undef=.pointer (some ⟨g1,0,none⟩)) (T:E.getD u undef=.pointer (some ⟨g2,0,none⟩)) (O:(loadVar H ⟨g1,0,none⟩).run Tryz.prog w=.ok M w) (U:(loadVar G ⟨g2,0,none⟩).run Tryz.prog w=.ok F w):
 (results I E).run Tryz.prog w=.ok (.tuple #[M,F]) w:=by
 have ac:E[p]?.getD undef=.pointer (some ⟨g1,0,none⟩):=by simpa using aa
 have Y:E[u]?.getD undef=.pointer (some ⟨g2,0,none⟩):=by simpa using T
 simp[results,Z,ac,Y,asAddr,O,U]
theorem ARow.range {T:TypeId}{w:World}{E:Nat}{xs:List Int}(G:ARow T w E xs):w.rangeAt E 0 (iv xs):=fun j v F=>by
 rw[WG];exact(Ac G).trans (by simpa using F)
theorem Cy (xs:List Int):(iv xs).toArray.all (·.oneCell')=true:=by
 simp[iv]
 intro x E;rfl
theorem Ei {G:Array Oper}{o:Oper}{a:Act}{W:World}{K:Act->World->Prop}{Q:Exit->Act->World->Prop}{Z:Prop}(I:o.guard=none)(T:TypeId)(x y:Operand)(Y:o.op=.store T x y)
 (E:Nat) (xs:List Int) (H:a.eval x=.pointer (some ⟨E,0,none⟩)) (M:a.eval y=.agg (iv xs).toArray) (F:ARow T W E xs) (U:(Tryz.prog.info? T).map (·.size)=some (iv xs).toArray.size) (O:K (a.put o.dst undef) W):if Region.wanted o (yielded G a.tmps)=true then Oper.wp Tryz.prog o a W K Q else Z:=by
 have e:Region.wanted o (yielded G a.tmps)=true:=by unfold Region.wanted;rw[I]
 rw[if_pos e];refine wp_store_row T x y Y E _ H M T _ F U rfl (Cy xs) ?_;rw[setRow_self W E _ T (0,0) F];exact O
theorem ARow.load {T:TypeId}{w:World}{E:Nat}{xs:List Int}(H:ARow T w E xs){d:TypeDesc}(F:Tryz.prog.underlying T=some d)(G:(match d with| .struct _| .array _ _=>true|_=>false)=true)(I:(Tryz.prog.info? T).map (·.size)=some (iv xs).toArray.size):(loadVar T ⟨E,0,none⟩).run Tryz.prog w=.ok (.agg (iv xs).toArray) w:=
 run_loadVar_row w E T T _ (0,0) d H F (by cases d<;>first|rfl|exact G) I
theorem Xn (l:List Int)(k:Nat)(F:k<l.length):(l.take k++List.replicate (l.length-k) 0).set k (l.getD k 0)=l.take (k+1)++List.replicate (l.length-(k+1)) 0:=by
 have E:(l.take k).length=k:=by simp;omega
 rw[List.set_append_right _ _ (by omega),E,XW];obtain⟨q,G⟩:∃q,l.length-k=q+1:=⟨l.length-k-1,by omega⟩
 have e:l.take (k+1)=l.take k++ [l.getD k 0]:=by rw[XM];simp[List.getD,F]
 rw[G,List.replicate_succ,VC,e,show l.length-(k+1)=q by omega];simp
theorem Z54:(List.range 288).all (fun k=>Ky.getD k 0==(if k<144 then 8 else if k<256 then 9 else if k<280 then 7 else 8))=true:=by decide+kernel
theorem PP {k:Nat}(E:k<288):Ky.getD k 0=if k<144 then 8 else if k<256 then 9 else if k<280 then 7 else 8:=by
 have:=WX.1 Z54 k (by simpa using E)
 simpa using this
theorem Z53:(List.range 32).all (fun k=>Ir.getD k 0==5)=true:=by decide+kernel
theorem Z0 {k:Nat}(E:k<32):Ir.getD k 0=5:=by
 have:=WX.1 Z53 k (by simpa using E)
 simpa using this
theorem Mk:Good Ky:=Ch (by decide+kernel)
theorem Mi:Good Ir:=Ch (by decide+kernel)
theorem Mj:Ky.length=288:=by decide+kernel
theorem Fk:Ir.length=32:=by decide
theorem Ya:(Tryz.prog.info? 247).map (·.size)=some 288:=by kernel_rfl
theorem CP:(Tryz.prog.info? 248).map (·.size)=some 32:=by kernel_rfl
theorem K7 (w:World):Calls Tryz.prog 180 #[] w fun e w'=>e=.returned (.tuple #[.agg (iv Ky).toArray,.agg (iv Ir).toArray])/\Below w.heap.size w w':=by
 have al:Below w.heap.size w ((w.alloc (.cells (iv (List.replicate 288 0)).toArray 247)).alloc (.cells (iv (List.replicate 32 0)).toArray 248)):=((Below.refl w.heap.size w).alloc (VB _) _).alloc (by simp) _;have bf:=Ab al;obtain⟨E,ae⟩:=exq (Ky);have U:=Mj;have ac:= @PP;rw[ae]at U;simp only[ae]at ac;have a6:=Ab ae;clear al ae;go_enter Tryz.func180,Tryz.ntmps180
 go_wp2;go_loopw [4] (fun i wr=>∃k:Nat,k<=288/\i=.int .i64 (k:Int)/\Hid (ARow 247 wr w.heap.size (E.take k++List.replicate (E.length-k) 0)/\ARow 248 wr (w.heap.size+1) (List.replicate 32 0)/\Below w.heap.size w wr)) (fun i _=>288-(intOf i).toNat)
 case atStart=>
  refine⟨0,by decide,rfl,Ab ⟨?_, ?_,Aa bf⟩⟩
  . rw[U];exact(Below.heap_alloc _ _ _ (by simp)).trans ((heap_alloc_new _ _).trans (by kernel_rfl))
  . have e:w.heap.size+1=(w.alloc (.cells (iv (List.replicate 288 0)).toArray 247)).heap.size:=by simp
    rw[e];exact(heap_alloc_new _ _).trans (by kernel_rfl)
 case round=>
  obtain⟨k,a7,rfl,H⟩:=hrel
  by_cases Y:k<288
  . obtain⟨M,I,T⟩:=Aa H;have aj:(E.take k++List.replicate (E.length-k) 0).length=288:=by simp;omega
    have c:=M.cell k (by omega);have f:=M.frozen k;have F:=ac Y
    have O:Hid (∀v:Int,v=E.getD k 0->ARow 247 (wr.setCell ⟨w.heap.size,k,none⟩ (.int .i64 v)) w.heap.size (E.take (k+1)++List.replicate (E.length-(k+1)) 0)/\ARow 248 (wr.setCell ⟨w.heap.size,k,none⟩ (.int .i64 v)) (w.heap.size+1) (List.replicate 32 0)/\Below w.heap.size w (wr.setCell ⟨w.heap.size,k,none⟩ (.int .i64 v))):=by
     intro v ao;have aa:=Ad wr w.heap.size k (.int .i64 v);refine⟨?_,I.keep (aa.block _ I.lt (fun e=>by have:=VM e;omega)),T.grown aa T.size (fun j e=>by rw[<-VM e];exact VB _)⟩;have:=M.set k v
     rw[ao,Xn E k (by omega)]at this;rw[ao];exact this
    have a3:(k:Int)<288:=by omega
    clear H M I T aj ac;generalize (E.take k++List.replicate (E.length-k) 0).getD k 0=old at c
    by_cases ak:k<144
    . rw[if_pos ak]at F;have bd:(k:Int)<144:=by omega
      have G:=Ab (Aa O 8 F.symm);clear O F;go_wp2;go_roundw
      case rel=>exact⟨k+1,by omega,by go_num,G⟩
      case measure=>simp[intOf];omega
    . rw[if_neg ak]at F;have bd:¬(k:Int)<144:=by omega
      by_cases a1:k<256
      . rw[if_pos a1]at F;have a8:(k:Int)<256:=by omega
        have G:=Ab (Aa O 9 F.symm);clear O F;go_wp2;go_roundw
        case rel=>exact⟨k+1,by omega,by go_num,G⟩
        case measure=>simp[intOf];omega
      . rw[if_neg a1]at F;have a8:¬(k:Int)<256:=by omega
        by_cases av:k<280
        . rw[if_pos av]at F;have a9:(k:Int)<280:=by omega
          have G:=Ab (Aa O 7 F.symm);clear O F;go_wp2;go_roundw
          case rel=>exact⟨k+1,by omega,by go_num,G⟩
          case measure=>simp[intOf];omega
        . rw[if_neg av]at F;have a9:¬(k:Int)<280:=by omega
          have G:=Ab (Aa O 8 F.symm);clear O F;go_wp2;go_roundw
          case rel=>exact⟨k+1,by omega,by go_num,G⟩
          case measure=>simp[intOf];omega
  . obtain rfl:k=288:=by omega
    have aw:Hid (ARow 247 wr w.heap.size E/\ARow 248 wr (w.heap.size+1) (List.replicate 32 0)/\Below w.heap.size w wr):=by
     have:=Aa H
     rw[VV (by omega),U,XW,ZI,XA]at this;exact Ab this
    clear H ac;generalize wr=bg at*;go_wp2;go_loopw [25] (fun i wr=>∃k:Nat,k<=32/\i=.int .i64 (k:Int)/\Hid (ARow 247 wr w.heap.size E/\ARow 248 wr (w.heap.size+1) (Ir.take k++List.replicate (Ir.length-k) 0)/\Below w.heap.size w wr)) (fun i _=>32-(intOf i).toNat)
    case atStart=>exact⟨0,by decide,rfl,aw⟩
    case round=>
     obtain⟨k,a7,rfl,H⟩:=hrel
     by_cases Y:k<32
     . obtain⟨M,I,T⟩:=Aa H;have aj:(Ir.take k++List.replicate (Ir.length-k) 0).length=32:=by simp[Fk];omega
       have c:=I.cell k (by omega);have f:=I.frozen k
       have G:Hid (ARow 247 (wr.setCell ⟨w.heap.size+1,k,none⟩ (.int .i64 5)) w.heap.size E/\ARow 248 (wr.setCell ⟨w.heap.size+1,k,none⟩ (.int .i64 5)) (w.heap.size+1) (Ir.take (k+1)++List.replicate (Ir.length-(k+1)) 0)/\Below w.heap.size w (wr.setCell ⟨w.heap.size+1,k,none⟩ (.int .i64 5))):=by
        have aa:=Ad wr (w.heap.size+1) k (.int .i64 5);refine⟨M.keep (aa.block _ M.lt (fun e=>by have:=VM e;omega)), ?_,T.grown aa T.size (fun j e=>by rw[<-VM e];omega)⟩;have:=I.set k 5
        rw[<-Z0 Y,Xn Ir k (by rw[Fk];exact Y)]at this;rw[<-Z0 Y];exact this
       have a3:(k:Int)<32:=by omega
       clear H M I T aj;generalize (Ir.take k++List.replicate (Ir.length-k) 0).getD k 0=old at c;go_wp2;go_roundw
       case rel=>exact⟨k+1,by omega,by go_num,G⟩
       case measure=>simp[intOf];omega
     . obtain rfl:k=32:=by omega
       have ai:=Aa H;rw[VV (by rw[Fk];omega),Fk,XW]at ai;simp only[ZI,XA]at ai;obtain⟨bb,ax,ay⟩:=ai;have bc:=Ab ay;clear H aw ay;have ag:=Fk;obtain⟨ys,af⟩:=exq (Ir);rw[af]at ax ag;have ba:=Ab af;clear af;have a5:(Tryz.prog.info? 247).map (·.size)=some (iv E).length:=by rw[Ya];simp[U]
       have a4:(Tryz.prog.info? 248).map (·.size)=some (iv ys).length:=by rw[CP];simp[ag]
       have az:(Tryz.prog.info? 247).map (·.size)=some (iv E).toArray.size:=by rw[Ya];simp[U]
       have ar:(Tryz.prog.info? 248).map (·.size)=some (iv ys).toArray.size:=by rw[CP];simp[ag]
       have au:=Tryz.underlying247;have a2:=Tryz.underlying248;go_wp2;refine wp_region_held_drew (S:=fun w'=>ARow 247 w' w.heap.size E/\ARow 248 w' (w.heap.size+1) ys) (by kernel_rfl) ⟨bb,ax⟩ (fun Z=> ?_);refine wpAnyH_take (i:=0) (oi:= {dst:=some 31,op:=.load 247 (.tmp 0),type:=247,pos:= "layout.go:54",after:= #[],guard:=none}) (v:=_) rfl (by kernel_rfl) (by kernel_rfl) (by kernel_rfl) (fun _ _ _ h=>h) (yieldsIf_load_mid (by rfl) _ _ rfl _ _ rfl _ _ (fun _ h=>h.1.range) au rfl a5) Z ?_;simp only[Act.put,VA,VC,VD];refine wpAnyH_take (i:=1) (oi:= {dst:=some 32,op:=.load 248 (.tmp 1),type:=248,pos:= "layout.go:54",after:= #[{on:=2,ground:=.gcOnly .lateStores}],guard:=none}) (v:=_) rfl (by kernel_rfl) (by kernel_rfl) (by kernel_rfl) (fun _ _ _ h=>h) (yieldsIf_load_mid (by rfl) _ _ rfl _ _ rfl _ _ (fun _ h=>h.2.range) a2 rfl a4) Z ?_;simp only[Act.put,VA,VC,VD];refine rdH (i:=2) fun K hK=> ?_
       refine Ei rfl 247 (.tmp 0) (.tmp 31) rfl w.heap.size E rfl rfl Z.1 az ?_;simp only[Act.put];refine hK.out _ _ Z (fun ah=> ?_);clear hK K Z;refine rdH (i:=3) fun K hK=> ?_
       refine Ei rfl 248 (.tmp 1) (.tmp 32) rfl (w.heap.size+1) ys rfl rfl ah.2 ar ?_;simp only[Act.put];refine hK.out _ _ ah (fun ap=> ?_);clear hK K ah;refine wpAnyH_done (by kernel_rfl) ?_ _;go_wp2;refine bodyPost_ret (v:=.tuple #[.agg (iv E).toArray,.agg (iv ys).toArray]) ?_ rfl ⟨by rw[Aa a6,Aa ba],(Aa bc).drew⟩;exact Ln rfl _ _ w.heap.size (w.heap.size+1) _ _ rfl rfl (ap.1.load au rfl az) (ap.2.load a2 rfl ar)
theorem Jt (w E:World)(x y:Array Value)(F G:TypeId)(I H:List Int)(M:Below w.heap.size w E)(Y:(E.alloc (.cells x F)).heap.size=E.heap.size+1):
 ARow F ((((E.alloc (.cells x F)).alloc (.cells y G)).setRow E.heap.size (iv I).toArray).setRow (E.heap.size+1) (iv H).toArray) E.heap.size I/\ARow G ((((E.alloc (.cells x F)).alloc (.cells y G)).setRow E.heap.size (iv I).toArray).setRow (E.heap.size+1) (iv H).toArray) (E.heap.size+1) H/\Below w.heap.size w ((((E.alloc (.cells x F)).alloc (.cells y G)).setRow E.heap.size (iv I).toArray).setRow (E.heap.size+1) (iv H).toArray):=by
 have O:((E.alloc (.cells x F)).alloc (.cells y G)).heap[E.heap.size]? =some (.cells x F (0,0)):=(Below.heap_alloc _ _ _ (by simp)).trans (heap_alloc_new _ _);have T:((E.alloc (.cells x F)).alloc (.cells y G)).heap[E.heap.size+1]? =some (.cells y G (0,0)):=by rw[<-Y];exact heap_alloc_new _ _
 refine⟨?_, ?_, ?_⟩
 . unfold ARow;rw[Go.setRow_other _ _ _ _ (by omega)];exact setRow_heap _ _ _ _ _ _ O
 . unfold ARow;exact setRow_heap _ _ y _ _ _ ((Go.setRow_other _ _ _ _ (by omega)).trans T)
 . have U:=M.size;exact Bg (Bg ((M.alloc U _).alloc (by simp;omega) _) (by omega) _) (by omega) _
def SE:List Int:= [16,17,18,0,8,7,9,6,10,5,11,4,12,3,13,2,14,1,15]
theorem ON:(Tryz.prog.info? 321).map (·.size)=some 19:=by kernel_rfl
theorem D5 (w:World):Calls Tryz.prog 242 #[] w fun e w'=>e=.returned (.agg (iv SE).toArray)/\Below w.heap.size w w':=by
 have F:(iv SE).toArray.size=19:=by simp[SE]
 have I:(Tryz.prog.info? 321).map (·.size)=some (iv SE).toArray.size:=by rw[ON,F]
 obtain⟨E,H⟩:=exq (SE);rw[H]at I F ⊢;have Z:=Ab H;clear H;go_enter Tryz.func242,Tryz.ntmps242
 go_upto_region 1 with (fail)
 refine wp_region_lit ?_;refine wpList_build rfl 321 _ rfl (by kernel_rfl) ?_;generalize O:(Program.built _ _ _).getD #[]=V;have Y:V=(iv E).toArray:=by rw[<-O,<-Aa Z];kernel_rfl
 clear O;subst Y;simp only[Act.put];generalize G:w.alloc _=W;have M:W.heap[w.heap.size]? =some (.cells (iv (List.replicate 19 0)).toArray 321 (0,0)):=by rw[<-G];exact(heap_alloc_new _ _).trans (by kernel_rfl)
 have U:Below w.heap.size w W:=by rw[<-G];exact(Below.refl w.heap.size w).alloc (VB _) _
 clear G;refine wpList_store_row rfl 321 (.tmp 0) (.tmp 1) rfl w.heap.size (iv E).toArray rfl rfl 321 _ M I (by rw[F];simp) (Cy E) ?_;refine wpList_nil ?_;have T:Hid (Below w.heap.size w (W.setRow w.heap.size (iv E).toArray)/\ARow 321 (W.setRow w.heap.size (iv E).toArray) w.heap.size E):=Ab ⟨Bg U (VB _) _,setRow_heap _ _ _ _ _ _ M⟩;clear M U;go_wp2;refine bodyPost_ret (v:=.agg (iv E).toArray) ?_ rfl ⟨rfl,(Aa T).1⟩;exact results_cell_row rfl _ _ _ _ _ _ _ rfl (Aa T).2 Tryz.underlying321 rfl I
end Go.Proofs.YtleocpdblhbimaaGreatDoor
